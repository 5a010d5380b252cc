import Derived.Test.YthjpdjibdnecoaaGreatDoorHQk49
import Derived.Test.YthjpdjibdnecoaaGreatDoorHQk43
import Derived.Test.YthjpdjibdnecoaaGreatDoorHQk50
import Derived.Test.YthjpdjibdnecoaaGreatDoorHQk45
set_option linter.all false
set_option maxRecDepth 100000
set_option maxHeartbeats 12800000
open Go.RowKit renaming Below->M,Hid->A0,intOf->B0
open Option renaming none->O,some->Q
open Go.Proofs.Tryz renaming prog->S
open Go.Obj renaming cells->U
open Go.Value renaming slice->V,int->Z,pointer->A4,agg->A8,tuple->A9,string->B1,nilIface->B3
open Go renaming World->X,Value->Y,Calls->A6,TypeId->Bs,undef->B2
open Go.IntKind renaming i64->Ax
open Go.Lib renaming asciiSpaceTab->A1,TabIs->A7
open Go.Ending renaming returned->A2
open Bool renaming true->A3,false->A5
namespace Go.Proofs.YthjpdjibdnecoaaGreatDoor
open Go.RowKit Go.Maps Go.WideMaps
inductive Gt (s:ByteArray):Int->Int->List Nd->Prop where
 |big:65536<s.size->Gt s 2 0 []
 |at_ {z:Int}:s.size<=65536->0<=z->qk s=([],z)->Gt s 1 z []
 |ok {toks:List Tk}{m:Nat}{R:Fo}{lz:Int}:s.size<=65536->qk s=(toks, -1)->PF s toks m R lz->Gt s (okC (og s R)) 0 (okN (og s R))
theorem Bj(s:ByteArray):∀(f:Nat)(st:List Int)(p:Nat)(l:Int)(b:List Tk),¬0<=(uy s f st p l b).2.2->(uy s f st p l b).2.2= -1
 |0,st,p,l,b,h=>by simp[uy]at h
 |f+1,st,p,l,b,h=>by
  rw[uy]at h⊢;split
  ·rfl
  ·rename_i e;rw[aa e]at h;split
   ·rename_i c;rw[ab c]at h;split
    ·rename_i a;rw[ab a]at h;exact Bj s f _ _ _ _ h
    ·rename_i a;rw[aa a]at h;exact Bj s f _ _ _ _ h
   ·rename_i c;rw[aa c]at h;split
    ·rename_i a;rw[ab a]at h;split
     ·rename_i d;rw[ab d]at h;exact Bj s f _ _ _ _ h
     ·rename_i d;rw[aa d]at h;exact absurd (by simp) h
    ·rename_i a;rw[aa a]at h;exact absurd (by simp) h
theorem afD(s:ByteArray)(h:¬0<=(jb s).2.2):(jb s).2.2= -1:=Bj s _ _ _ _ _ h
theorem akn(s:ByteArray):∃c a ns,Gt s c a ns:=by
 by_cases j:65536<s.size
 ·exact⟨_,_,_,.big j⟩
 by_cases b:0<=(jb s).2.2
 ·exact⟨_,_,_,.at_ (by omega) b (by unfold qk;rw[ab b])⟩
 by_cases e:(feedL (jb s).2.1 6).2=A3
 ·obtain⟨⟨i,l,k⟩,d⟩:∃g,jb s=g:=⟨_,rfl⟩;rw[d]at b e;have f:=afD s (by rw[d];exact b);rw[d]at f;simp only at f b e;subst f;obtain⟨n,g,m,h⟩:=al1 (by omega) d e;exact⟨_,_,_,.ok (toks:=i) (by omega) (by unfold qk;rw[d,aa (by simp),ab e]) h⟩
 ·exact⟨_,_,_,.at_ (z:=(s.size:Nat)) (by omega) (by omega) (by unfold qk;rw[aa b,aa e])⟩
theorem aa2(r:Nat)(n o p:Y)(z:Int)(w:X)(a:w.heap[r]?=Q (U #[n,o,p] 28 (0,0))):
  CallsD S 35 #[A4 (Q ⟨r,0,O⟩)] (.panicking (KF z)) w fun e m c=>
   e= A2 (A9 #[])/\m= .panicking [{v:= .iface 90 (A8 #[Z Ax z]),recovered:=A3}]/\c.heap[r]?=Q (U #[Z Ax 1,Z Ax z,V O 0 0] 28 (0,0))/\M r w c:=by
 have j:=fun w=>aj3 z w;unfold KF;refine callsD_of_wpS Tryz.func35 rfl fun s q k=>?_;apply wpS_seq;apply xj;simp[wpOpsS,go_sem,recoverD,k,Tryz.ntmps35,Exit.thenS,j];apply wpS_seq;apply xj;simp[wpOpsS,go_sem,Exit.thenS,gh];refine wpS_cond (t:=A3) (by simp[Act.eval]) ?_;simp only[jh];have l:∀w:X,(zeroValue 28).run S w= .ok (A8 #[Z Ax 0,Z Ax 0,V O 0 0]) w:=fun w=>by kernel_rfl
 have b:(w.alloc (U #[Z Ax z] 90)).heap[r]?=_:=(bm w _ r (ah a)).trans a;have i:M r w (w.alloc (U #[Z Ax z] 90)):=(bg w _).mono (rg (ah a));obtain⟨d,f,g,h⟩:=row3 b;apply xj;simp[wpOpsS,go_sem,d,f,g,h,l,bodyPostS,results,Tryz.results35];exact⟨aci b _ _ _,Eb i _ _ _⟩
theorem aa3(p:Addr)(w:X):
  CallsD S 35 #[A4 (Q p)] .returning w fun e d f=>e= A2 (A9 #[])/\d= .returning/\f=w.alloc (U #[Z Ax 0] 90):=by
 have b:=fun w=>aj4 w;refine callsD_of_wpS Tryz.func35 rfl fun a g c=>?_;apply wpS_seq;apply xj;simp[wpOpsS,go_sem,recoverD,c,Tryz.ntmps35,Exit.thenS,b];apply wpS_seq;apply xj;simp[wpOpsS,go_sem,Exit.thenS,gh];refine wpS_cond (t:=A5) (by simp[Act.eval]) ?_;simp only[Ar,if_false];refine wpS_of_wp (wp_skip ?_);cases a
 simp_all [bodyPostS,results,Tryz.results35]
theorem Jb{ns:List Nd}(h:(dA ns).1=0):∀(i:Nat) N,ns[i]?=Q N->lu ns i N=A3:=by
 unfold dA at h;by_cases d:nJ ns=A3
 ·rw[ab d]at h;exact absurd h (by decide)
 rw[aa d]at h;obtain⟨e,c⟩:=ay (io (ga ns) ns.length 0);rw[c]at h;cases e with
 |some i=>rw[tf2]at h;exact absurd h (by simp)
 |none=>
  have f:=xL c;intro i N b;have g:i<ns.length:=(List.getElem?_eq_some_iff.1 b).1;have a:=f i (aL _) (by omega);unfold ga at a;rw[cp,b,ig]at a;simpa using a
theorem au{N:Nd}{a b d:Bool}(h:aI N a b A5 d=A3):N.x.size<=4000:=by
 unfold aI at h;simp only[be,Ew]at h;have:=aC h.1.2;have c:N.x.toList.length=0:=by rw[this];rfl
 rw[fj]at c;have:N.x.size=0:=by simpa using c
 omega
theorem ib{s:ByteArray}(h:oz s=A3):s.size<=4000:=by
 have:=(aC h).1;omega
theorem jt{s:ByteArray}(h:fok s=A3):s.size<=4000:=by
 unfold fok at h;rw[be]at h;have:=aC h.1;omega
theorem dB{c:Prop}[Decidable c] {a b:Bool}(h:(if c then a else b)=A3):a=A3\/b=A3:=by
 by_cases d:c
 ·rw[ab d]at h;exact .inl h
 ·rw[aa d]at h;exact .inr h
theorem afE{ns:List Nd}{i:Nat}{N:Nd}(h:lu ns i N=A3):N.x.size<=4000:=by
 unfold lu at h;rw[be,be]at h;have h2:=h.2.2;unfold Gr at h2;rcases dB h2 with h2|h2
 ·unfold stB at h2;rcases dB h2 with h2|h2
  ·(simp only[be]at h2;first|exact au h2.1|exact au h2.2|exact au h2.1.1|exact au h2.1.1.1|exact au h2.1.1.1.1|exact au h2.1.1.1.1.1)
  rcases dB h2 with h2|h2
  ·(simp only[be]at h2;first|exact au h2.1|exact au h2.2|exact au h2.1.1|exact au h2.1.1.1|exact au h2.1.1.1.1|exact au h2.1.1.1.1.1)
  rcases dB h2 with h2|h2
  ·(simp only[be]at h2;first|exact au h2.1|exact au h2.2|exact au h2.1.1|exact au h2.1.1.1|exact au h2.1.1.1.1|exact au h2.1.1.1.1.1)
  rcases dB h2 with h2|h2
  ·(simp only[be]at h2;first|exact au h2.1|exact au h2.2|exact au h2.1.1|exact au h2.1.1.1|exact au h2.1.1.1.1|exact au h2.1.1.1.1.1)
  rcases dB h2 with h2|h2
  ·(simp only[be]at h2;first|exact au h2.1|exact au h2.2|exact au h2.1.1|exact au h2.1.1.1|exact au h2.1.1.1.1|exact au h2.1.1.1.1.1)
  rcases dB h2 with h2|h2
  ·(simp only[be]at h2;first|exact au h2.1|exact au h2.2|exact au h2.1.1|exact au h2.1.1.1|exact au h2.1.1.1.1|exact au h2.1.1.1.1.1)
  rcases dB h2 with h2|h2
  ·(simp only[be]at h2;first|exact au h2.1|exact au h2.2|exact au h2.1.1|exact au h2.1.1.1|exact au h2.1.1.1.1|exact au h2.1.1.1.1.1)
  rcases dB h2 with h2|h2
  ·(simp only[be]at h2;first|exact au h2.1|exact au h2.2|exact au h2.1.1|exact au h2.1.1.1|exact au h2.1.1.1.1|exact au h2.1.1.1.1.1)
  rcases dB h2 with h2|h2
  ·(simp only[be]at h2;first|exact au h2.1|exact au h2.2|exact au h2.1.1|exact au h2.1.1.1|exact au h2.1.1.1.1|exact au h2.1.1.1.1.1)
  rcases dB h2 with h2|h2
  ·(simp only[be]at h2;first|exact au h2.1|exact au h2.2|exact au h2.1.1|exact au h2.1.1.1|exact au h2.1.1.1.1|exact au h2.1.1.1.1.1)
  rcases dB h2 with h2|h2
  ·(simp only[be]at h2;first|exact au h2.1|exact au h2.2|exact au h2.1.1|exact au h2.1.1.1|exact au h2.1.1.1.1|exact au h2.1.1.1.1.1)
  rcases dB h2 with h2|h2
  ·(simp only[be]at h2;first|exact au h2.1|exact au h2.2|exact au h2.1.1|exact au h2.1.1.1|exact au h2.1.1.1.1|exact au h2.1.1.1.1.1)
  rcases dB h2 with h2|h2
  ·(simp only[be]at h2;first|exact au h2.1|exact au h2.2|exact au h2.1.1|exact au h2.1.1.1|exact au h2.1.1.1.1|exact au h2.1.1.1.1.1)
  rcases dB h2 with h2|h2
  ·(simp only[be]at h2;first|exact au h2.1|exact au h2.2|exact au h2.1.1|exact au h2.1.1.1|exact au h2.1.1.1.1|exact au h2.1.1.1.1.1)
  rcases dB h2 with h2|h2
  ·(simp only[be]at h2;first|exact au h2.1|exact au h2.2|exact au h2.1.1|exact au h2.1.1.1|exact au h2.1.1.1.1|exact au h2.1.1.1.1.1)
  rcases dB h2 with h2|h2
  ·(simp only[be]at h2;first|exact au h2.1|exact au h2.2|exact au h2.1.1|exact au h2.1.1.1|exact au h2.1.1.1.1|exact au h2.1.1.1.1.1)
  exact absurd h2 (by decide)
 ·unfold xK at h2;rcases dB h2 with h2|h2
  ·(simp only[be]at h2;first|exact au h2.2|exact jt h2.2|exact ib h2.2|exact(by have:=aC h2.2;omega)|exact au h2.1.2|exact au h2.1.1.2|exact au h2.1.1.1.2)
  rcases dB h2 with h2|h2
  ·(simp only[be]at h2;first|exact au h2.2|exact jt h2.2|exact ib h2.2|exact(by have:=aC h2.2;omega)|exact au h2.1.2|exact au h2.1.1.2|exact au h2.1.1.1.2)
  rcases dB h2 with h2|h2
  ·(simp only[be]at h2;first|exact au h2.2|exact jt h2.2|exact ib h2.2|exact(by have:=aC h2.2;omega)|exact au h2.1.2|exact au h2.1.1.2|exact au h2.1.1.1.2)
  rcases dB h2 with h2|h2
  ·(simp only[be]at h2;first|exact au h2.2|exact jt h2.2|exact ib h2.2|exact(by have:=aC h2.2;omega)|exact au h2.1.2|exact au h2.1.1.2|exact au h2.1.1.1.2)
  rcases dB h2 with h2|h2
  ·(simp only[be]at h2;first|exact au h2.2|exact jt h2.2|exact ib h2.2|exact(by have:=aC h2.2;omega)|exact au h2.1.2|exact au h2.1.1.2|exact au h2.1.1.1.2)
  rcases dB h2 with h2|h2
  ·(simp only[be]at h2;first|exact au h2.2|exact jt h2.2|exact ib h2.2|exact(by have:=aC h2.2;omega)|exact au h2.1.2|exact au h2.1.1.2|exact au h2.1.1.1.2)
  rcases dB h2 with h2|h2
  ·(simp only[be]at h2;first|exact au h2.2|exact jt h2.2|exact ib h2.2|exact(by have:=aC h2.2;omega)|exact au h2.1.2|exact au h2.1.1.2|exact au h2.1.1.1.2)
  rcases dB h2 with h2|h2
  ·(simp only[be]at h2;first|exact au h2.2|exact jt h2.2|exact ib h2.2|exact(by have:=aC h2.2;omega)|exact au h2.1.2|exact au h2.1.1.2|exact au h2.1.1.1.2)
  rcases dB h2 with h2|h2
  ·(simp only[be]at h2;first|exact au h2.2|exact jt h2.2|exact ib h2.2|exact(by have:=aC h2.2;omega)|exact au h2.1.2|exact au h2.1.1.2|exact au h2.1.1.1.2)
  rcases dB h2 with h2|h2
  ·(simp only[be]at h2;first|exact au h2.2|exact jt h2.2|exact ib h2.2|exact(by have:=aC h2.2;omega)|exact au h2.1.2|exact au h2.1.1.2|exact au h2.1.1.1.2)
  rcases dB h2 with h2|h2
  ·(simp only[be]at h2;first|exact au h2.2|exact jt h2.2|exact ib h2.2|exact(by have:=aC h2.2;omega)|exact au h2.1.2|exact au h2.1.1.2|exact au h2.1.1.1.2)
  rcases dB h2 with h2|h2
  ·(simp only[be]at h2;first|exact au h2.2|exact jt h2.2|exact ib h2.2|exact(by have:=aC h2.2;omega)|exact au h2.1.2|exact au h2.1.1.2|exact au h2.1.1.1.2)
  rcases dB h2 with h2|h2
  ·(simp only[be]at h2;first|exact au h2.2|exact jt h2.2|exact ib h2.2|exact(by have:=aC h2.2;omega)|exact au h2.1.2|exact au h2.1.1.2|exact au h2.1.1.1.2)
  rcases dB h2 with h2|h2
  ·(simp only[be]at h2;first|exact au h2.2|exact jt h2.2|exact ib h2.2|exact(by have:=aC h2.2;omega)|exact au h2.1.2|exact au h2.1.1.2|exact au h2.1.1.1.2)
  rcases dB h2 with h2|h2
  ·(simp only[be]at h2;first|exact au h2.2|exact jt h2.2|exact ib h2.2|exact(by have:=aC h2.2;omega)|exact au h2.1.2|exact au h2.1.1.2|exact au h2.1.1.1.2)
  rcases dB h2 with h2|h2
  ·(simp only[be]at h2;first|exact au h2.2|exact jt h2.2|exact ib h2.2|exact(by have:=aC h2.2;omega)|exact au h2.1.2|exact au h2.1.1.2|exact au h2.1.1.1.2)
  rcases dB h2 with h2|h2
  ·(simp only[be]at h2;first|exact au h2.2|exact jt h2.2|exact ib h2.2|exact(by have:=aC h2.2;omega)|exact au h2.1.2|exact au h2.1.1.2|exact au h2.1.1.1.2)
  rcases dB h2 with h2|h2
  ·(simp only[be]at h2;first|exact au h2.2|exact jt h2.2|exact ib h2.2|exact(by have:=aC h2.2;omega)|exact au h2.1.2|exact au h2.1.1.2|exact au h2.1.1.1.2)
  rcases dB h2 with h2|h2
  ·(simp only[be]at h2;first|exact au h2.2|exact jt h2.2|exact ib h2.2|exact(by have:=aC h2.2;omega)|exact au h2.1.2|exact au h2.1.1.2|exact au h2.1.1.1.2)
  rcases dB h2 with h2|h2
  ·(simp only[be]at h2;first|exact au h2.2|exact jt h2.2|exact ib h2.2|exact(by have:=aC h2.2;omega)|exact au h2.1.2|exact au h2.1.1.2|exact au h2.1.1.1.2)
  rcases dB h2 with h2|h2
  ·(simp only[be]at h2;first|exact au h2.2|exact jt h2.2|exact ib h2.2|exact(by have:=aC h2.2;omega)|exact au h2.1.2|exact au h2.1.1.2|exact au h2.1.1.1.2)
  exact absurd h2 (by decide)
open Go.Lib (strCells strCells_length wpList_append_own_string)
theorem Dl(a b:ByteArray):strCells (a++b)=strCells a++strCells b:=by
 unfold strCells;rw[me,Ll,ee]
theorem Jc(T:ByteArray):strCells T=B8 (sd T.data.toList):=by
 unfold strCells B8 sd;rw[List.map_map];rfl
theorem afF{w:X}{base g n cap:Nat}{T:ByteArray}(a:w.ownsRow base 5 1 (V (Q ⟨g,0,O⟩) n cap) n (strCells T)):
  (convert 49 9 (V (Q ⟨g,0,O⟩) n cap)).run S w= .ok (B1 T) w:=by
 rw[Jc]at a;rw[ou a,yr]
theorem ack{W:X}{base e size n m c:Nat}{a:Option Addr}{b:List Y}(h:W.ownsRow base e size (V a n c) m b):n=m:=by
 obtain⟨d,f,e⟩:=bz h;cases e;rfl
def pi(ns:List Nd):ByteArray:=if(dA ns).1=0 then gy ns else⟨#[]⟩
theorem Gk(w:X)(v:Y)(ns:List Nd)(h:fx w v ns)(J:ns.length<=1048576)(j:∀N∈ns,iA N)(bx:∀N∈ns,xG N)(b1:(gy ns).size<=70368744177664):
  A6 S 7 #[.agg #[v]] w fun e cB=>e= .returned (.string (pi ns))/\M w.heap.size w cB:=by
 obtain⟨C,E,rfl⟩:=h.form;obtain⟨f,K⟩:=ay ns.length;rw[K]at h J⊢;have bn:∀b,M w.heap.size w (w.alloc b):=fun b=>(ag _ w).alloc (ae _) b;have l:=Jm h j bx b1 K;have af:=fun b=>Cn (w.alloc b) (.slice C f E) ns (h.below (bn b)) (by omega) j;obtain⟨ap,F⟩:=ay ((dA ns).1);obtain⟨ar,bd⟩:=ay ((dA ns).2);rw[F,bd]at af;have y:=aw F;clear h j bx b1 K F bd;go_in;go_wp2_with fail;have ao:=aj w (.cells #[.slice C f E] 26);have cr:(w.alloc (.cells #[.slice C f E] 26)).heap.size=w.heap.size+1:=aF _ _;refine aJ (af _) fun k G=>?_;have t:=(G.block _ (by omega)).trans ao;have r:M w.heap.size w k:=(bn _).trans (G.mono (by omega));clear ao G af;by_cases p:ap=0
 ·subst p;have a5:=cG t;have cl:=ah t;have a9:((0:Int)!=0)=A5:=rfl;go_wp2_with fail;have H:M k.heap.size k (k.alloc (.cells #[.int .i64 0,.int .i64 ar] 47)):=(ag _ k).alloc (ae _) _;generalize k.alloc (.cells #[.int .i64 0,.int .i64 ar] 47)=n at H⊢;have u:A0 (M w.heap.size w n):=r.trans (H.mono r.size);have a1:=Jb y.out;have b5:A0 (∀(i:Nat) N,ns[i]?=Q N->N.x.size<=4000):=fun i N d=>afE (a1 i N d);obtain⟨ct,cw,cx,cy,cz⟩:=dt (show(Tryz.prog.info? 5).map (fun i=>(i.zero,i.size,i.bytes))=Q (Q (.int .u8 0),1,1) by kernel_rfl);clear a1 H a5 cl t r cr a9;go_loopw [4,15] (fun b2 am wr=>∃a:Nat,a<=f/\am= .int .i64 a/\(∃a4 a6,∃al:Nat,b2= .slice a4 al a6)/\A0 (wr.ownsRow n.heap.size 5 1 b2 (gy (ns.take a)).size (strCells (gy (ns.take a)))/\M n.heap.size n wr)) (fun _ am _=>f-(B0 am).toNat)
  case atStart=>exact⟨0,by omega,rfl,⟨O,0,0,rfl⟩,bc _ _ _ _,ag _ _⟩
  case round=>
   obtain⟨a,bA,rfl,⟨a4,a6,al,rfl⟩,c⟩:=hrel;by_cases ch:a<f
   ·obtain⟨N,d⟩:=bL l.out.2.2.2.2 ch;have z:M w.heap.size w wr:=u.out.trans (c.out.2.mono u.out.size);obtain⟨c0,ce,ec,eb,cf⟩:=(l.out.1.below z).get d;subst ce;obtain⟨b6,b7,b8,b9,ca,cb,cc,a7,a8,L,I⟩:=cf;obtain⟨c3,c8,rfl⟩:=L.form;obtain⟨c2,c7,rfl⟩:=I.form;have j:=l.out.2.1 N (cJ d);have bh:=l.out.2.2.1 N (cJ d);have A:=B7 ns a N d;have ad:=rI ns (a+1);have cs:=l.out.2.2.2.1;rw[A]at ad;simp only[cL]at ad;have b0:(lL N).size<=70368744177664:=by omega
    have o:∀b,M wr.heap.size wr (wr.alloc b):=fun b=>(ag _ wr).alloc (ae _) b;have m:=fun b=>Kx (wr.alloc b) N _ _ (L.below (o b)) (I.below (o b)) bh (b5.out a N d) j.l1 j.l2 b0;obtain⟨a3,g⟩:=ay (gy (ns.take a));obtain⟨B,q⟩:=ay (lL N++Ag);have df:B.size<=70368744177664:=by rw[<-q,cL];omega
    have dk:a3.size+B.size<=70368744177664:=by rw[<-q,<-g,cL];omega
    rw[g]at c;rw[g,q]at A;rw[q]at m;have b4:=aw A;have cm:al=a3.size:=ack c.out.1;subst cm;have dq:(a:Int)<(f:Int):=by omega
    have dn:(0:Int)<=(a:Int):=by omega
    unfold eC at m;obtain⟨cF,bk⟩:=ay N.nm.length;obtain⟨cI,bl⟩:=ay N.ks.length;rw[bk]at m a7;rw[bl]at m a8;clear A ad cs b0 g q j bh d z L I bk bl;go_wp2_with fail;refine aJ (m _) fun ed bt=>?_;have br:=(o _).trans (bt.mono (o _).size);have bD:=aE c.out.1 br;have bs:=c.out.2.trans (br.mono c.out.2.size);have dz:=bs.size;clear m bt o b6 b7 b8 b9 ca cb cc a7 a8;go_wp2_with (at_builtin;refine wpList_append_own_string _ rfl _ _ 49 9 rfl n.heap.size 5 ct Tryz.underlying49 Tryz.underlying9 cw cx cy cz _ _ _ rfl bD B rfl (by unfold maxLen;omega) (by omega) (by omega) ?_;intro ea ef bE cg ds;obtain⟨c4,c6,rfl⟩:=bz bE);refine⟨⟨a+1,by omega,by go_num,⟨_,_,_,rfl⟩,by rw[b4.out,cL,Dl];exact bE,bs.grown cg (by omega) (fun a bA=>(bD.lt a bA).1)⟩,by simp[B0];omega⟩
   ·obtain rfl:a=f:=by omega
    have g:ns.take a=ns:=fs (by rw[l.out.2.2.2.2];exact ae _);rw[g]at c;have a0:A0 (pi ns=gy ns):=by show _=_;unfold pi;rw[ab y.out]
    have z:M w.heap.size w wr:=u.out.trans (c.out.2.mono u.out.size);have cq:1<=(gy ns).size:=by
     obtain⟨N,s,J⟩:∃N s,ns=N::s:=by
      cases ns with
      |nil=>have:=y.out;simp[dA,nJ]at this
      |cons N s=>exact⟨N,s,rfl⟩
     rw[J];show 1<=((lL N++Ag)++gy s).size;rw[cL,cL];show 1<=(lL N).size+1+_;omega
    obtain⟨D,bb⟩:=ay (gy ns);rw[bb]at c a0 cq;rcases bp c.out.1 with⟨p,_⟩|⟨c9,c5,e⟩
    ·omega
    ·cases e;have d9:=afF c.out.1;clear g bb;go_wp2_with fail;go_ret;exact⟨by rw[a0.out];rfl,z⟩
 ·have a9:(ap !=0)=A3:=by rw[ud];exact p
  have a5:=cG t;have b3:A0 (pi ns=⟨#[]⟩):=by show _=_;unfold pi;rw[aa (by rw[y.out];exact p)]
  clear p;go_wp2_with fail;go_ret;exact⟨by rw[b3.out];rfl,r.trans (((ag _ k).alloc (ae _) _).mono r.size)⟩
end Go.Proofs.YthjpdjibdnecoaaGreatDoor
namespace Go.Proofs.YthjpdjibdnecoaaGreatDoor
open Go.RowKit Go.Maps Go.WideMaps
theorem Bu.below{B b:Nat}{T:ByteArray}{W c:X}(h:Bu B b T W)(a:M W.heap.size W c):Bu B b T c:=by
 have f:∀d,Lib.BuilderAtF 57 5 B b d (Lib.strCells T) W->Lib.BuilderAtF 57 5 B b d (Lib.strCells T) c:=by
  rintro d ⟨i,g,e,j,k⟩;exact⟨i,g,(a.block _ (ah e)).trans e,j.kept (row:=O) ⟨a.os,a.tape,a.output,a.size,fun m l _=>a.block m l⟩ (by cases g.ownBlock<;>simp),k⟩
 rcases h with h|h
 ·exact .inl (f _ h)
 ·exact .inr (f _ h)
theorem ah5(W:X)(a b:Int):(Instr.field 47 (.agg #[.int .i64 a,.int .i64 b]) 0).run S W= .ok (.int .i64 a) W:=by
 simp[Instr.field,AG Tryz.underlying47,asAgg,part,Tryz.isAgg3]
theorem Gl(w:X)(v:Y)(ns:List Nd)(h:fx w v ns)(cs:ns.length<=1048576)(p:∀N∈ns,iA N)(br:∀N∈ns,xG N)(bx:(gy ns).size<=70368744177664)(bs:zJ w)
  (al:∀W,M w.heap.size w W->A6 S 18 #[A8 #[v]] W fun e ao=>e= A2 (A8 #[Z Ax (dA ns).1,Z Ax (dA ns).2])/\M W.heap.size W ao):
  A6 S 10 #[A8 #[v]] w fun e ao=>e= A2 (B1 (pi ns))/\M w.heap.size w ao:=by
 obtain⟨av,a3,rfl⟩:=h.form;obtain⟨j,J⟩:=ay ns.length;rw[J]at h cs al⊢;have bd:∀c,M w.heap.size w (w.alloc c):=fun c=>(ag _ w).alloc (ae _) c;have g:=acl h p br bx J bs;have af:=fun c=>al (w.alloc c) (bd c);obtain⟨y,C⟩:=ay ((dA ns).1);obtain⟨b0,a7⟩:=ay ((dA ns).2);rw[C,a7]at af;have B:=aw C;clear h p br bx J C a7 bs al;have c9:=fun W=>ah5 W y b0;go_in;go_wp2_with fail;have ap:=aj w (U #[V av j a3] 26);have cw:(w.alloc (U #[V av j a3] 26)).heap.size=w.heap.size+1:=aF _ _;refine aJ (af _) fun a F=>?_;have u:=(F.block _ (by omega)).trans ap;have H:M w.heap.size w a:=(bd _).trans (F.mono (by omega));clear ap F af;by_cases r:y=0
 ·subst r;have cb:=cG u;have cv:=ah u;have a6:((0:Int)!=0)=A5:=rfl;go_wp2_with fail;have k:A0 (M w.heap.size w a/\Bu a.heap.size a.heap.size ⟨#[]⟩ (a.alloc (U #[A4 O,V O 0 0] 57))):=⟨H,ai4 _ a (ae _)⟩;have G:M a.heap.size a (a.alloc (U #[A4 O,V O 0 0] 57)):=(ag _ a).alloc (ae _) _;have ar:=Jb B.out;have b9:A0 (∀(ad:Nat) N,ns[ad]?=Q N->N.x.size<=4000):=fun ad N f=>afE (ar ad N f);generalize a.alloc (U #[A4 O,V O 0 0] 57)=cF at G k⊢;have b1:=aw G;clear ar G cb cv u H cw a6;go_loopw [13] (fun am wr=>∃b:Nat,b<=j/\am= Z Ax b/\A0 (Bu a.heap.size a.heap.size (gy (ns.take b)) wr/\M a.heap.size a wr)) (fun am _=>j-(B0 am).toNat)
  case atStart=>exact⟨0,by omega,rfl,k.out.2,b1.out⟩
  case round=>
   obtain⟨b,c6,rfl,d⟩:=hrel;by_cases ct:b<j
   ·obtain⟨N,f⟩:=bL g.out.2.2.2.2.1 ct;have n:M w.heap.size w wr:=k.out.1.trans (d.out.2.mono k.out.1.size);obtain⟨cI,cq,dk,df,cr⟩:=(g.out.1.below n).get f;subst cq;obtain⟨cc,ce,cf,cg,ch,cl,cm,a4,a5,K,I⟩:=cr;obtain⟨c2,c4,rfl⟩:=K.form;obtain⟨c0,c3,rfl⟩:=I.form;have p:=g.out.2.1 N (cJ f);have a8:=g.out.2.2.1 N (cJ f);have t:=B7 ns b N f;have L:=rI ns (b+1);have cx:=g.out.2.2.2.1;rw[t]at L;simp only[cL]at L;have bt:(lL N).size<=70368744177664:=by omega
    have m:∀c,M wr.heap.size wr (wr.alloc c):=fun c=>(ag _ wr).alloc (ae _) c;have o:=fun c=>I6 (wr.alloc c) N _ _ (K.below (m c)) (I.below (m c)) a8 (b9.out b N f) p.l1 p.l2 bt (g.out.2.2.2.2.2.below (n.trans ((m c).mono n.size)));obtain⟨l,i⟩:=ay (gy (ns.take b));obtain⟨q,s⟩:=ay (lL N);have c5:l.size+q.size+1<=70368744177664:=by rw[<-s,<-i];have:Ag.size=1:=rfl;omega
    rw[i]at d;rw[i,s]at t;rw[s]at o;have b8:=aw t;have c8:(b:Int)<(j:Int):=by omega
    have c7:(0:Int)<=(b:Int):=by omega
    unfold eC at o;obtain⟨cz,a9⟩:=ay N.nm.length;obtain⟨cB,bb⟩:=ay N.ks.length;rw[a9]at o a4;rw[bb]at o a5;clear t L cx bt i s p a8 f n K I a9 bb;go_wp2_with fail;refine aJ (o _) fun bA bh=>?_;have E:=(m _).trans (bh.mono (m _).size);have z:A0 (Bu a.heap.size a.heap.size l bA/\M a.heap.size a bA):=⟨d.out.1.below E,d.out.2.trans (E.mono d.out.2.size)⟩;clear o bh m cc ce cf cg ch cl cm a4 a5 E;go_wp2_with fail;refine(lG _ _ l q _ z.out.1 (by omega) z.out.2.size).mono ?_;rintro e bD ⟨rfl,a0,bk⟩;have A:A0 (Bu a.heap.size a.heap.size (l++q) bD/\M a.heap.size a bD):=⟨a0,z.out.2.trans bk⟩;clear a0 bk;go_wp2_with fail;refine(lG _ _ (l++q) Ag _ A.out.1 (by rw[cL];show l.size+q.size+1<=_;omega) A.out.2.size).mono ?_;rintro e bE ⟨rfl,a1,bl⟩;have b2:A0 (Bu a.heap.size a.heap.size (gy (ns.take (b+1))) bE/\M a.heap.size a bE):=⟨by rw[b8.out,<-jv];exact a1,A.out.2.trans bl⟩;clear a1 bl;go_wp2_with fail;exact⟨⟨b+1,by omega,by go_num,b2⟩,by simp[B0];omega⟩
   ·obtain rfl:b=j:=by omega
    have i:ns.take b=ns:=fs (by rw[g.out.2.2.2.2.1];exact ae _);rw[i]at d;have b3:A0 (pi ns=gy ns):=by show _=_;unfold pi;rw[ab B.out]
    clear i;go_wp2_with fail;refine(vK _ _ _ _ d.out.1 d.out.2.size).mono ?_;rintro e cy ⟨rfl,ca,bn⟩;have n:M w.heap.size w cy:=k.out.1.trans ((d.out.2.trans bn).mono k.out.1.size);clear ca bn;go_wp2_with fail;go_ret;exact⟨by rw[b3.out];rfl,n⟩
 ·have a6:(y !=0)=A3:=by rw[ud];exact r
  have b7:A0 (pi ns=⟨#[]⟩):=by show _=_;unfold pi;rw[aa (by rw[B.out];exact r)]
  clear r;go_wp2_with fail;go_ret;exact⟨by rw[b7.out];rfl,H⟩
theorem jd{fn:Func}{p q:Tmp}{u:Bs}(h:fn.results=#[.tmp p,.cell q u])(tmps:Array Y)(P:Program)(w:X)(a:Addr)(v b:Y)(d:tmps.getD p B2=v)(f:tmps.getD q B2= A4 (Q a))
  (c:(loadVar u a).run P w= .ok b w):(results fn tmps).run P w= .ok (A9 #[v,b]) w:=by
 have e:tmps[p]?.getD B2=v:=by simpa using d
 have g:tmps[q]?.getD B2= A4 (Q a):=by simpa using f
 simp only[results,h];simp[Result.andThen,e,g,asAddr,c]
theorem pK(w:X)(b:Nat)(c n:Int)(h:iH b w c n):(loadVar 47 ⟨b,0,O⟩).run S w= .ok (.agg #[.int .i64 c,.int .i64 n]) w:=
 AD w b 47 47 _ _ _ h Tryz.underlying47 rfl (by kernel_rfl)
def CG(w:X)(ns:List Nd)(e:Ending)(c:X):Prop:=
 M w.heap.size w c/\
 (((dA ns).1≠0/\e= A2 (A9 #[B3,A8 #[Z Ax (dA ns).1,Z Ax (dA ns).2]]))\/
  (dA ns=(0,0)/\∃d f b a,e= A2 (A9 #[nV a,A8 #[Z Ax 0,Z Ax 0]])/\b[ns.length-1]?=Q a/\b.map Im.N=ns/\lp c d f b/\∀a∈b,cH w a.vn a.N.nm))
theorem Jd(w:X)(v:Y)(ns:List Nd)(h:fx w v ns)(u:ns.length<=1048576)(p:nJ ns=A3):
  A6 S 41 #[A8 #[v]] w fun e F=>e= A2 (A9 #[B3,A8 #[Z Ax 1,Z Ax 0]])/\M w.heap.size w F:=by
 obtain⟨G,H,rfl⟩:=h.form;have i:∀b c,M w.heap.size w ((w.alloc b).alloc c):=fun b c=>((ag _ w).alloc (ae _) b).alloc (by simp) c;have s:∀b (g:Array Y) (l:Bs),((w.alloc b).alloc (U g l)).heap[w.heap.size+1]?=Q (U g l (0,0)):=fun b g l=>by
  have:=aj (w.alloc b) (U g l);rw[aF]at this;exact this
 have q:=aC p;by_cases d:ns.length=0
 ·rw[d];go_in;go_wp2;exact ba (jd rfl _ _ _ ⟨w.heap.size+1,0,O⟩ _ _ rfl rfl (pK _ _ 1 0 (s _ _ _))) rfl ⟨rfl,i _ _⟩
 by_cases f:3000<ns.length
 ·obtain⟨a,j⟩:∃a:Nat,ns.length=a+1:=⟨ns.length-1,by omega⟩;rw[j]at f u⊢;have A:decide ((a:Int)<0)=A5:=aB (by omega);have B:(3000:Int)<=(a:Int):=by omega
  have E:(0:Int)<=(a:Int):=by omega
  clear h p q d f j;go_in;go_wp2;exact ba (jd rfl _ _ _ ⟨w.heap.size+1,0,O⟩ _ _ rfl rfl (pK _ _ 1 0 (s _ _ _))) rfl ⟨rfl,i _ _⟩
 ·have C:(ns.getD (ns.length-1) zNd).k≠1:=by rcases q with e|e|e;exact absurd e d;exact absurd e f;exact e
  have r:ns.length-1<ns.length:=by omega
  obtain⟨m,o⟩:∃m,ns[ns.length-1]?=Q m:=⟨_,bJ r⟩;rw[cp,o,ig]at C;obtain⟨z,rfl,ad,L,t⟩:=h.get o;have n:=t.c0;obtain⟨y,x⟩:=ay ns.length;rw[x]at n d f u r⊢;obtain⟨a,j⟩:∃a:Nat,y=a+1:=⟨y-1,by omega⟩;subst j;rw[mj]at n;have I:((a+1:Nat):Int)-1=(a:Int):=by omega
  have E:(0:Int)<=(a:Int):=by omega
  have A:decide ((a:Int)<0)=A5:=aB (by omega);have B:decide ((3000:Int)<=(a:Int))=A5:=aB (by omega);have K:(a:Int)<(a:Int)+1:=by omega
  have J:∀b c,((w.alloc b).alloc c).cell? (z.add (a*9))=Q (Z Ax m.k):=fun b c=>ai (i b c) n;clear h p q d f o t x r;go_in;go_wp2;exact ba (jd rfl _ _ _ ⟨w.heap.size+1,0,O⟩ _ _ rfl rfl (pK _ _ 1 0 (s _ _ _))) rfl ⟨rfl,i _ _⟩
structure Je (w0:X) (lb mb:Nat) (vs:Y) (L:List Im) (W:X):Prop where
 bl:M w0.heap.size w0 W
 lk:Lk W lb mb vs
 ns:lp W w0.heap.size vs L
theorem Je.below{e:X}{lb mb:Nat}{d:Y}{b:List Im}{W c:X}(h:Je e lb mb d b W)(a:M W.heap.size W c):Je e lb mb d b c:=
 ⟨h.bl.trans (a.mono h.bl.size),h.lk.below a,h.ns.below a⟩
theorem iH.keep{b B:Nat}{W a:X}{c n:Int}(h:iH b W c n)(d:M B W a)(e:b<B):iH b a c n:=(d.block _ e).trans h
theorem ako(c:Nat):uj c≠47:=by
 unfold uj;split<;>decide
theorem lp.setFt{W:X}{base:Nat}{i:Y}{f:List Im}(h:lp W base i f){b:Nat}{c n:Int}(k:iH b W c n)(g:b<base)(j:Nat)(v:Y):lp (W.setCell ⟨b,j,O⟩ v) base i f:=
 ⟨qK h.row g _,fun e a d=>(aD W ⟨b,j,O⟩ a.b v (qj (h.box e a d) (show W.heap[b]?=Q (U #[Z Ax c,Z Ax n] 47 (0,0)) from k) (ako _))).trans (h.box e a d),fun e a d=>qK (h.kid e a d) g _,h.far,h.rng⟩
theorem lp.putFt{W:X}{base:Nat}{g:Y}{a:List Im}(h:lp W base g a){b:Nat}{c n:Int}(f:iH b W c n)(e:b<base)(d n2:Int):lp ((W.setCell ⟨b,0,O⟩ (Z Ax d)).setCell ⟨b,1,O⟩ (Z Ax n2)) base g a:=
 (h.setFt f e 0 _).setFt (c:=d) (n:=n) (bi _ b 0 _ _ _ f) e 1 _
structure anm (w:X) (v:Y) (w0:X):Prop where
 tb:w0.heap[w.heap.size]?=Q (.cells #[v] 26 (0,0))
 fb:iH (w.heap.size+1) w0 0 0
 bl:M w.heap.size w w0
 sz:w0.heap.size=w.heap.size+1+1
theorem Jf(w:X)(v:Y)(ns:List Nd)(h:fx w v ns)(g5:ns.length<=1048576)(fF:∀N∈ns,iA N)(fn:mI w)(cB:Bs)(fr:Nat×Nat)(e9:w.heap[3]?=Q (U ez cB fr))
  (fv:∀W,M w.heap.size w W->A7 S W "strings.asciiSpace" .u8 A1) (cm:nJ ns=A5):
  A6 S 41 #[A8 #[v]] w (CG w ns):=by
 obtain⟨hq,A,rfl⟩:=h.form;have bw:=iw cm;have a7:=iD h fF cm;have bk:=iD fn e9 fv;have ev:¬ns.length=0:=fun f=>bw (.inl f);have ex:¬3000<ns.length:=fun f=>bw (.inr (.inl f));have cc:(ns.getD (ns.length-1) zNd).k=1:=by
  by_cases B:(ns.getD (ns.length-1) zNd).k=1
  ·exact B
  ·exact absurd (.inr (.inr B)) bw
 obtain⟨N,E⟩:∃N,ns[ns.length-1]?=Q N:=⟨_,bJ (by omega)⟩;rw[cp,E,ig]at cc;obtain⟨C,rfl,h4,h0,fm⟩:=h.get E;have bd:=fm.c0;rw[cc]at bd;have fl:∀ao ap,M w.heap.size w ((w.alloc ao).alloc ap):=fun ao ap=>((ag _ w).alloc (ae _) ao).alloc (by simp) ap;obtain⟨b1,cy⟩:=ay ns.length;have I:A0 (ns.length=b1):=cy;rw[cy]at a7 bd ev ex⊢;obtain⟨a,g6⟩:∃a:Nat,b1=a+1:=⟨b1-1,by omega⟩;have fq:b1-1=a:=by omega
 rw[fq]at bd;have hJ:a<3000:=by omega
 have hC:((a+1:Nat):Int)-1=(a:Int):=by omega
 have hK:(0:Int)<=(a:Int):=by omega
 have hw:decide ((a:Int)<0)=A5:=aB (by omega);have hA:decide ((3000:Int)<=(a:Int))=A5:=aB (by omega);have hL:(a:Int)<(a:Int)+1:=by omega
 have gv:∀ao ap,((w.alloc ao).alloc ap).cell? (C.add (a*9))=Q (Z Ax 1):=fun ao ap=>ai (fl ao ap) bd;clear h cm bw ev ex cc E fm cy g5 fF fn e9 fv fq bd;subst g6;go_in;go_wp2_with fail;have c8:((w.alloc (U #[V (Q C) (a+1) A] 26)).alloc (U #[Z Ax 0,Z Ax 0] 47)).heap[w.heap.size]?=Q (U #[V (Q C) (a+1) A] 26 (0,0)):=(bm _ _ _ (by simp)).trans (aj w _);have c2:iH (w.heap.size+1) ((w.alloc (U #[V (Q C) (a+1) A] 26)).alloc (U #[Z Ax 0,Z Ax 0] 47)) 0 0:=by
  have:=aj (w.alloc (U #[V (Q C) (a+1) A] 26)) (U #[Z Ax 0,Z Ax 0] 47);rw[aF]at this;exact this
 have k:A0 (anm w (V (Q C) (a+1) A) ((w.alloc (U #[V (Q C) (a+1) A] 26)).alloc (U #[Z Ax 0,Z Ax 0] 47))):=⟨c8,c2,fl _ _,by simp⟩;generalize (w.alloc (U #[V (Q C) (a+1) A] 26)).alloc (U #[Z Ax 0,Z Ax 0] 47)=m at k⊢;clear c8 c2 gv;have bD:=ah bk.out.2.1;have bn:A0 (mI m/\m.heap[3]?=Q (U ez cB fr)/\(∀W,M m.heap.size m W->A7 S W "strings.asciiSpace" .u8 A1)):=
  ⟨bk.out.1.below k.out.bl (ae _),(k.out.bl.block _ bD).trans bk.out.2.1,fun W gt=>bk.out.2.2 W (k.out.bl.trans (gt.mono k.out.bl.size))⟩
 refine(pL (H:=Unit) m fr cB bn.out.2.1).mono ?_;rintro f q ⟨rfl,cv,bx⟩;obtain⟨z,cw⟩:=ay m.heap.size;have g8:=k.out.sz;have gn:q.cell? ⟨w.heap.size,0,O⟩=Q (V (Q C) (a+1) A):=cG ((bx.block _ (by omega)).trans k.out.tb);have g9:=bx.size;have ha:w.heap.size<q.heap.size:=by omega
 have hc:w.heap.size≠q.heap.size:=by omega
 rw[cw]at cv⊢;have av:=iD cv bx cw;clear cv bx cw bD g8 g9;go_wp2_with fail;have c1:=aj q (U #[.map (Q z),V O 0 0] 165);have cq:M q.heap.size q (q.alloc (U #[.map (Q z),V O 0 0] 165)):=(ag _ q).alloc (ae _) _;have b2:Je m q.heap.size z (V O 0 0) [] (q.alloc (U #[.map (Q z),V O 0 0] 165)):=by
  have df:=av.out.2.1.trans (cq.mono av.out.2.1.size);have g7:z<q.heap.size:=by
   obtain⟨hD,hv,g4,_⟩:=av.out.1;exact ah g4
  exact⟨df,⟨c1,rz av.out.1 (cq.block _ g7),bn.out.1.below df (ae _)⟩,⟨bc _ _ _ _,fun j c i=>by simp at i,fun j c i=>by simp at i,fun c i=>by simp at i,fun j c f2 i=>by simp at i⟩⟩
 have ct:m.heap.size<=q.heap.size:=av.out.2.1.size;generalize q.alloc (U #[.map (Q z),V O 0 0] 165)=gm at b2⊢;obtain⟨am,fo⟩:=ay q.heap.size;rw[fo]at b2 ct⊢;have f7:A0 (m.heap.size<=am):=ct;obtain⟨a9,ch⟩:=ay (io (ga ns) (a+1) 0);have b9:A0 (io (ga ns) (a+1) 0=a9):=ch;have c4:wm (ga ns) (a+1-0) 0 a9:=⟨ch⟩;have c6:A0 (Je m am z (V O 0 0) [] gm):=b2;clear ch gn ha hc av c1 cq b2 fo ct;go_loopw [37] (fun cF wr=>∃(e:Nat) (g:List Im) (b3:Y),e<=a+1/\cF= Z Ax e/\wm (ga ns) (a+1-e) e a9/\A0 (Je m am z b3 g wr/\g.length=e/\g.map Im.N=ns.take e/\∀c∈g,cH w c.vn c.N.nm)) (fun cF _=>a+1-(B0 cF).toNat)
 case atStart=>exact⟨0,[],_,aL _,rfl,c4,c6.out,rfl,rfl,fun c i=>by simp at i⟩
 case round=>
  obtain⟨e,g,b3,hE,rfl,b7,d⟩:=hrel;clear c6 c4;have p:=b7.out;by_cases bD:e<a+1
  ·obtain⟨o,a1⟩:=bL I.out bD;have hI:(e:Int)<(a:Int)+1:=by omega
   have hH:(0:Int)<=(e:Int):=by omega
   obtain⟨hs,gu,h5,h3,gz⟩:=a7.out.1.get a1;obtain rfl:=bu gu;have y:M w.heap.size w wr:=k.out.bl.trans (d.out.1.bl.mono k.out.bl.size);obtain⟨dn,dq,ds,dz,d9,ec,ed,ef,eg,bE,cr⟩:=gz;obtain⟨c9,dk,rfl⟩:=bE.form;obtain⟨ht,hu,rfl⟩:=cr.form;have eh:=ai y dn;have ei:=ai y dq;have ek:=ai y ds;have el:=ai y dz;have en:=ai y d9;have ep:=ai y ec;have eq:=ai y ed;have ca:=ai y ef;have cb:=ai y eg;have bb:∀L,M wr.heap.size wr (wr.alloc L):=fun L=>(ag _ wr).alloc (ae _) L;have al:=fun L=>afp m (wr.alloc L) bn.out.1 (d.out.1.bl.trans ((bb L).mono d.out.1.bl.size)) am z f7.out b3 g (d.out.1.lk.below (bb L)) (d.out.1.ns.below (bb L)) o _ _ (bE.below k.out.bl) (cr.below k.out.bl) (a7.out.2.1 o (cJ a1)) (by rw[d.out.2.1];omega) ns (by rw[d.out.2.1];exact d.out.2.2.1) (by rw[d.out.2.1];exact a1) bn.out.2.2;rw[show a+1-e=(a+1-(e+1))+1 by omega,io]at p;have et:ga ns e=!(lu ns e o):=by unfold ga;rw[cp,a1];rfl
   have er:Dh ns g.length o=lu ns e o:=by rw[ah3,d.out.2.1]
   rw[et]at p;unfold eC at al;have a8:A0 (Dh ns g.length o=lu ns e o):=er;have f4:A0 (ns[e]?=Q o):=a1;obtain⟨ge,cg⟩:=ay o.nm.length;obtain⟨hp,fa⟩:=ay o.ks.length;have b8:A0 (cH w (V c9 o.nm.length dk) o.nm):=bE;rw[cg]at al ca;replace b8:A0 (cH w (V c9 ge dk) o.nm):=by rw[<-cg];exact b8
   rw[fa]at al cb;clear dn dq ds dz d9 ec ed ef eg bE cr a1 er et cg fa b7;cases i:lu ns e o with
   |true=>
    rw[i]at p a8;rw[aa (by decide)]at p;have f3:wm (ga ns) (a+1-(e+1)) (e+1) a9:=⟨p⟩;clear p i;go_wp2_with fail;refine(al _).mono ?_;rintro f r ⟨rfl,l,b0⟩;rw[a8.out];obtain⟨hg,c,fz,bh,fA,fB⟩:=b0 a8.out;have gb:A0 (Je m am z hg (g++[c]) r/\(g++[c]).length=e+1/\(g++[c]).map Im.N=ns.take (e+1)/\∀b4∈g++[c],cH w b4.vn b4.N.nm):=
     ⟨⟨l,fA,fB⟩,by rw[aH,d.out.2.1];rfl,by rw[ee,d.out.2.2.1,fK,f4.out];simp[fz],fun b4 hy=>by
      rcases List.mem_append.1 hy with hy|hy
      ·exact d.out.2.2.2 b4 hy
      ·obtain rfl:=List.mem_singleton.1 hy;rw[fz,bh];exact b8.out⟩
    clear al b0 l fA fB d eh ei ek el en ep eq ca cb y bb;go_wp2_with fail;exact⟨⟨e+1,_,_,by omega,by go_num,f3,gb⟩,by simp[B0];omega⟩
   |false=>
    rw[i]at p a8;rw[ab (by decide)]at p;have s:A0 (dA ns=(2,(e:Int))):=by
     show dA ns=(2,(e:Int));unfold dA;rw[a7.out.2.2,aa (by decide),I.out,b9.out,<-p];rfl
    clear p i;go_wp2_with fail;refine(al _).mono ?_;rintro f r ⟨rfl,l,b0⟩;rw[a8.out];have x:=k.out.fb.keep l (by rw[k.out.sz];omega);obtain⟨ad,bs,bt⟩:=iC x;have F:A0 (iH (w.heap.size+1) r 0 0/\M w.heap.size w r):=⟨x,k.out.bl.trans (l.mono k.out.bl.size)⟩;clear al b0 l x d eh ei ek el en ep eq ca cb y bb;go_wp2_with fail;exact ba (jd rfl _ _ _ ⟨w.heap.size+1,0,O⟩ _ _ rfl rfl (pK _ _ 2 e (oI F.out.1 2 e))) rfl ⟨(F.out.2.setCell (by simp) _).setCell (by simp) _,.inl ⟨(by rw[s.out];intro f;simp at f),(by rw[s.out];rfl)⟩⟩
  ·obtain rfl:e=a+1:=by omega
   rw[eB,io]at p;have f9:A0 (a9=O):=p.symm;have fg:=xL (show io (ga ns) (a+1) 0=O by rw[b9.out];exact p.symm);have a0:g.map Im.N=ns:=by rw[d.out.2.2.1];exact fs (by rw[I.out];exact ae _)
   have fk:∀(j:Nat) c,g[j]?=Q c->ns[j]?=Q c.N:=fun j c i=>by rw[<-a0,cA,i];rfl
   have cs:∀c∈g,c.N.ks.length<=200:=fun c i=>by
    obtain⟨j,bA,f⟩:=mL i;have E:ns[j]?=Q c.N:=fk j c (by rw[bJ bA,f]);have bA:j<a+1:=by rw[<-I.out];exact(List.getElem?_eq_some_iff.1 E).1
    have ce:=fg j (aL _) (by omega);unfold ga at ce;rw[cp,E,ig]at ce;have cf:lu ns j c.N=A3:=by simpa using ce
    unfold lu FG at cf;rw[be]at cf;exact(aC cf.1).2.2.2
   have fd:FC (lj ns):=FD ns (fun N E f2 K=>by
    rw[<-a0]at E;obtain⟨c,i,rfl⟩:=List.mem_map.1 E;obtain⟨j,bA,f⟩:=mL i;exact(d.out.1.ns.rng j c f2 (by rw[bJ bA,f]) K).1)
   obtain⟨B,br,rfl⟩:∃B A,b3= V (Q ⟨B,0,O⟩) (a+1) A:=by
    rcases bp d.out.1.ns.row with⟨h,_⟩|h
    ·rw[d.out.2.1]at h;omega
    ·rw[d.out.2.1]at h;exact h
   have b5:wr.cell? ⟨am,1,O⟩=Q (V (Q ⟨B,0,O⟩) (a+1) br):=by rw[aq _ _ _ _ _ _ d.out.1.lk.b];rfl
   have u:=CF wr m.heap.size _ g d.out.1.ns ns a0 (a+1) d.out.2.1 (by omega) (by omega) cs;have c5:A0 (∀W,M wr.heap.size wr W->A6 S 80 #[V (Q ⟨B,0,O⟩) (a+1) br] W fun f hj=>f= A2 (aa0 (io (ij (FI ns)) (a+1) 0))/\M W.heap.size W hj):=
    fun W gs=>Dk W m.heap.size _ g (d.out.1.ns.below gs) ns a0 (a+1) d.out.2.1 (by omega) (by omega) cs
   obtain⟨c7,cl⟩:=ay (io (gJ (lj ns)) (a+1) 0);have t:dA ns=tf3 (lj ns) (FI ns) (a+1) c7:=by
    unfold dA;rw[a7.out.2.2,aa (by decide),I.out,b9.out,f9.out];show tf3 (lj ns) (FI ns) (a+1) (io (gJ (lj ns)) (a+1) 0)=_;rw[cl]
   rw[cl]at u;have g0:=k.out.sz;have ad:=k.out.fb.keep d.out.1.bl (by rw[k.out.sz];omega);have n:A0 (Je m am z (V (Q ⟨B,0,O⟩) (a+1) br) g wr/\iH (w.heap.size+1) wr 0 0/\g.map Im.N=ns/\g.length=a+1/\M w.heap.size w wr):=⟨d.out.1,ad,a0,d.out.2.1,k.out.bl.trans (d.out.1.bl.mono k.out.bl.size)⟩;have f8:A0 (∀c∈g,cH w c.vn c.N.nm):=d.out.2.2.2;have a4:=afw fd (pH ns) (by rw[I.out];omega);rw[I.out,mj]at a4;clear p fg fk cs fd b7 d ad cl a0 g0;cases c7 with
   |some j=>
    have s:A0 (dA ns=(3,(j:Int))):=t;unfold Gi at u;clear t a4;go_wp2_with fail;refine u.mono ?_;rintro f r ⟨rfl,l⟩;have x:=n.out.2.1.below l;obtain⟨ad,bs,bt⟩:=iC x;have F:A0 (iH (w.heap.size+1) r 0 0/\M w.heap.size w r):=⟨x,n.out.2.2.2.2.trans (l.mono n.out.2.2.2.2.size)⟩;clear l x u b5;go_wp2_with fail;exact ba (jd rfl _ _ _ ⟨w.heap.size+1,0,O⟩ _ _ rfl rfl (pK _ _ 3 j (oI F.out.1 3 j))) rfl ⟨(F.out.2.setCell (by simp) _).setCell (by simp) _,.inl ⟨(by rw[s.out];intro f;simp at f),(by rw[s.out];rfl)⟩⟩
   |none=>
    rw[tf3,mj]at t;unfold Gi at u;rw[mj]at u;have gr:((a+1:Nat):Int)-1=(a:Int):=by omega
    rw[gr]at u t;by_cases K:(lj ns).getD a 0<((a+1:Nat):Int)
    ·rw[ab (a4.2 K)]at t;rw[bC K]at u;have s:A0 (dA ns=(3,(a:Int))):=t;clear t a4 K;go_wp2_with fail;refine u.mono ?_;rintro f r ⟨rfl,l⟩;have x:=n.out.2.1.below l;obtain⟨ad,bs,bt⟩:=iC x;have F:A0 (iH (w.heap.size+1) r 0 0/\M w.heap.size w r):=⟨x,n.out.2.2.2.2.trans (l.mono n.out.2.2.2.2.size)⟩;clear l x u b5;go_wp2_with fail;exact ba (jd rfl _ _ _ ⟨w.heap.size+1,0,O⟩ _ _ rfl rfl (pK _ _ 3 a (oI F.out.1 3 a))) rfl ⟨(F.out.2.setCell (by simp) _).setCell (by simp) _,.inl ⟨(by rw[s.out];intro f;simp at f),(by rw[s.out];rfl)⟩⟩
    ·rw[aa (fun h=>K (a4.1 h))]at t;rw[aB K]at u;obtain⟨gf,fc⟩:=ay (io (ij (FI ns)) (a+1) 0);rw[fc]at t c5;clear a4 K fc;go_wp2_with fail;refine u.mono ?_;rintro f r ⟨rfl,l⟩;have a5:=c5.out r l;have cI:=ai l b5;clear u b5;cases gf with
     |some j=>
      have s:A0 (dA ns=(4,(j:Int))):=t;unfold aa0 at a5;clear t;have a6:A0 (M wr.heap.size wr r):=l;clear l;go_wp2_with fail;refine a5.mono ?_;rintro f ar ⟨rfl,a3⟩;have J:=a6.out.trans (a3.mono a6.out.size);have af:=n.out.2.1.below J;obtain⟨ad,bs,bt⟩:=iC af;have G:A0 (iH (w.heap.size+1) ar 0 0/\M w.heap.size w ar):=⟨af,n.out.2.2.2.2.trans (J.mono n.out.2.2.2.2.size)⟩;clear a3 J af a5 cI;go_wp2_with fail;exact ba (jd rfl _ _ _ ⟨w.heap.size+1,0,O⟩ _ _ rfl rfl (pK _ _ 4 j (oI G.out.1 4 j))) rfl ⟨(G.out.2.setCell (by simp) _).setCell (by simp) _,.inl ⟨(by rw[s.out];intro f;simp at f),(by rw[s.out];rfl)⟩⟩
     |none=>
      have s:A0 (dA ns=(0,0)):=t;unfold aa0 at a5;clear t;have a6:A0 (M wr.heap.size wr r):=l;clear l;go_wp2_with fail;refine a5.mono ?_;rintro f ar ⟨rfl,a3⟩;have J:=a6.out.trans (a3.mono a6.out.size);have h6:=ai a3 cI;have af:=n.out.2.1.below J;have cz:=n.out.1.ns.below J;obtain⟨c,i⟩:=bL n.out.2.2.2.1 (show a<a+1 by omega);have gp:ar.cell? ⟨B,a,O⟩=Q (nV c):=by have fu:=cz.row;rw[n.out.2.2.2.1]at fu;rw[fu.cellAt a (by omega),cA,i];rfl
      obtain⟨ad,bs,bt⟩:=iC af;have G:A0 (iH (w.heap.size+1) ar 0 0/\M w.heap.size w ar/\lp ar m.heap.size (V (Q ⟨B,0,O⟩) (a+1) br) g/\g[a]?=Q c):=⟨af,n.out.2.2.2.2.trans (J.mono n.out.2.2.2.2.size),cz,i⟩;obtain⟨ho,bh⟩:=ay (nV c);rw[bh]at gp;have gd:A0 (nV c=ho):=bh;clear a3 J af a5 cI cz i bh;go_wp2_with fail;exact ba (jd rfl _ _ _ ⟨w.heap.size+1,0,O⟩ _ _ rfl rfl (pK _ _ 0 0 (oI G.out.1 0 0))) rfl ⟨(G.out.2.1.setCell (by simp) _).setCell (by simp) _,.inr ⟨s.out,m.heap.size,_,g,c,by rw[gd.out];rfl,by rw[I.out,mj];exact G.out.2.2.2,n.out.2.2.1,G.out.2.2.1.putFt G.out.1 (by rw[k.out.sz];omega) 0 0,f8.out⟩⟩
theorem Lh(w:X)(v:Y)(ns:List Nd)(h:fx w v ns)(b:ns.length<=1048576)(i:∀N∈ns,iA N)(f:mI w)(c:Bs)(fr:Nat×Nat)(d:w.heap[3]?=Q (U ez c fr))
  (g:∀W,M w.heap.size w W->A7 S W "strings.asciiSpace" .u8 A1):
  A6 S 41 #[A8 #[v]] w (CG w ns):=by
 cases hb:nJ ns with
 |true=>
  have a:dA ns=(1,0):=by unfold dA;rw[ab hb]
  refine(Jd w v ns h b hb).mono ?_;rintro j k ⟨rfl,e⟩;exact⟨e,.inl ⟨by rw[a];decide,by rw[a]⟩⟩
 |false=>exact Jf w v ns h b i f c fr d g hb
theorem zK(w:X)(v:Y)(ns:List Nd)(h:fx w v ns)(E:ns.length<=1048576)(I:∀N∈ns,iA N)(a:mI w)(J:Bs)(fr:Nat×Nat)(s:w.heap[3]?=Q (.cells ez J fr))
  (G:∀W,M w.heap.size w W->A7 S W "strings.asciiSpace" .u8 A1):
  A6 S 18 #[.agg #[v]] w fun e af=>e= .returned (.agg #[.int .i64 (dA ns).1,.int .i64 (dA ns).2])/\M w.heap.size w af:=by
 have A:∀u x,M w.heap.size w ((w.alloc u).alloc x):=fun u x=>((ag _ w).alloc (ae _) u).alloc (by simp) x;have o:A0 (∀W,M w.heap.size w W->A6 S 41 #[.agg #[v]] W (CG W ns)):=fun W f=>
  Lh W v ns (h.below f) E I (a.below f (ae _)) J fr ((f.block _ (ah s)).trans s) (fun p ad=>G p (f.trans (ad.mono f.size)))
 obtain⟨j,k,rfl⟩:=h.form;obtain⟨m,F⟩:=ay ns.length;rw[F]at o⊢;obtain⟨c,q⟩:=ay ((dA ns).1);obtain⟨d,r⟩:=ay ((dA ns).2);have i:=gK q r;rw[q,r];clear h E I a s G F q r;go_in;go_wp2_with fail;have n:iH (w.heap.size+1) ((w.alloc (.cells #[.slice j m k] 26)).alloc (.cells #[.int .i64 0,.int .i64 0] 47)) 0 0:=by
  have:=aj (w.alloc (.cells #[.slice j m k] 26)) (.cells #[.int .i64 0,.int .i64 0] 47);rw[aF]at this;exact this
 have b:=A (.cells #[.slice j m k] 26) (.cells #[.int .i64 0,.int .i64 0] 47);generalize (w.alloc (.cells #[.slice j m k] 26)).alloc (.cells #[.int .i64 0,.int .i64 0] 47)=p at n b⊢;refine(o.out p b).mono ?_;rintro e g ⟨t,C⟩;obtain⟨H,rfl⟩:∃H,e= .returned (.tuple #[H,.agg #[.int .i64 c,.int .i64 d]]):=by
  rcases C with⟨_,a⟩|⟨L,_,_,_,ak,a,_⟩
  ·exact⟨_,by rw[a,i.out.1,i.out.2]⟩
  ·refine⟨nV ak,?_⟩;rw[a,<-i.out.1,<-i.out.2,L]
 have l:=n.below t;obtain⟨al,am,an⟩:=iC l;have ao:w.heap.size+1<g.heap.size:=ah l;have ap:w.heap.size+1≠g.heap.size:=by omega
 have B:M w.heap.size w g:=b.trans (t.mono b.size);have y:=gK B l;clear C t n b o B l A;go_wp2_with fail;have K:=(oI y.out.2 c d).below ((ag _ ((g.setCell ⟨w.heap.size+1,0,O⟩ (.int .i64 c)).setCell ⟨w.heap.size+1,1,O⟩ (.int .i64 d))).alloc (ae _) (.cells #[.int .i64 c,.int .i64 d] 47));have z:M w.heap.size w ((g.setCell ⟨w.heap.size+1,0,O⟩ (.int .i64 c)).setCell ⟨w.heap.size+1,1,O⟩ (.int .i64 d)):=(y.out.1.setCell (by simp) _).setCell (by simp) _;exact ba (eu rfl _ _ (w.heap.size+1) _ _ _ _ rfl K Tryz.underlying47 rfl (by kernel_rfl)) rfl ⟨rfl,z.alloc z.size _⟩
theorem wE(lo:Nat):∀(ks:Fo),LCs lo ks
 | .nil=>trivial
 | .cons N k r=>⟨zF (wE lo k),wE lo r⟩
theorem CH(f:Mb->Y):∀(k:List Mb),(k.flatMap fun x=>(f x).ownBlock.toList).Nodup->∀(i j:Nat)(a b:Y),i<j->(k.map f)[i]?=Q a->(k.map f)[j]?=Q b->a.ownBlock=O\/a.ownBlock≠b.ownBlock
 |[],h,i,j,a,b,l,c,d=>by simp at c
 |x::r,h,i,0,a,b,l,c,d=>by omega
 |x::r,h,0,j+1,a,b,l,c,d=>by
  simp at c;subst c;rw[xg,tI]at h;cases hx:(f x).ownBlock with
  |none=>exact .inl rfl
  |some g=>
   right;intro e;have n:=cJ (show(r.map f)[j]?=Q b by simpa using d);obtain⟨p,o,m⟩:=List.mem_map.1 n;exact h.2.2 g (by simp[hx]) g (List.mem_flatMap.2 ⟨p,o,by rw[m,<-e];simp⟩) rfl
 |x::r,h,i+1,j+1,a,b,l,c,d=>by
  rw[xg,tI]at h;exact CH f r h.2.1 i j a b (by omega) (by simpa using c) (by simpa using d)
theorem zL(f:Mb->Y){a:List Mb}(h:(a.flatMap fun x=>(f x).ownBlock.toList).Nodup):adB (a.map f):=fun c d b e k i j=>by
 rcases co c d with q|q
 ·exact CH f a h c d b e q i j
 ·rcases CH f a h d c e b (by omega) j i with g|g
  ·cases ho:b.ownBlock with
   |none=>exact .inl rfl
   |some l=>right;rw[g];simp
  ·exact .inr (dD g)
theorem akp{w:X}{lo:Nat}{v:Y}{c:List Mb}(h:Lw w lo v c)(g:(nB' c).Nodup)(f:(kB c).Nodup):lI w lo w.heap.size v c:=
 ⟨h.row,fun a b=>(h.row.lt a b).2,fun e d=>⟨(h.each e d).1,(h.each e d).2,fun a b=>((h.each e d).1.lt a b).2,fun a b=>((h.each e d).2.lt a b).2⟩,zL _ g,zL _ f⟩
theorem Bk(w:X)(lo e:Nat):lI w lo e (V O 0 0) []:=⟨bc _ _ _ _,fun i d=>(by simp[Value.ownBlock]at d),fun j f=>(by cases f),fun g h b c _ a=>(by simp at a),fun g h b c _ a=>(by simp at a)⟩
def PiP(w:X)(c a:Int)(ns:List Nd)(e:Ending)(b:X):Prop:=∃f d,e= A2 (psV c a f)/\d.map Mb.N=ns/\lI b w.heap.size b.heap.size f d/\M w.heap.size w b
structure PL (w:X):Prop where
 lay:Hg w
 gn:14<=w.heap.size
 pow:∃tt fr,w.heap[4]?=Q (.cells Hx tt fr)
 asc:A7 S w "strings.asciiSpace" .u8 A1
theorem PL.below{w d:X}{B:Nat}(h:PL w)(a:M B w d)(b:w.heap.size<=B):PL d:=by
 obtain⟨f,e,c⟩:=h.pow;exact⟨h.lay.below a b,bF h.gn a.size,⟨f,e,(a.block _ (eF (ah c) b)).trans c⟩,qu h.asc a b⟩
theorem Gt.at_of{s:ByteArray}{c a z:Int}{ns:List Nd}(h:Gt s c a ns)(e:s.size<=65536)(d:0<=z)(b:qk s=([],z)):c=1/\a=z/\ns=[]:=by
 cases h with
 |big h=>omega
 |at_ _ _ h=>rw[b]at h;cases h;exact⟨rfl,rfl,rfl⟩
 |ok _ h _=>rw[b]at h;cases h;omega
theorem Gt.ok_of{s:ByteArray}{c a:Int}{ns:List Nd}{toks:List Tk}(h:Gt s c a ns)(g:s.size<=65536)(b:qk s=(toks, -1)):∃m R e,PF s toks m R e/\c=okC (og s R)/\a=0/\ns=okN (og s R):=by
 cases h with
 |big h=>omega
 |at_ _ f h=>rw[b]at h;cases h;omega
 |ok _ h d=>rw[b]at h;cases h;exact⟨_,_,_,d,rfl,rfl,rfl⟩
theorem akq{d:Nat}{W c:X}{cs:Array Y}(h:Gp d W c)(p:W.heap[d]?=Q (U cs 144 (0,0))){base e size n:Nat}{v:Y}{f:List Y}(o:W.ownsRow base e size v n f)(k:e≠144)(l:e≠146):c.ownsRow base e size v n f:=by
 obtain⟨r,b⟩:=o;refine⟨r,?_⟩;rcases b with b|⟨j,g,i,q,m,a,s⟩
 ·exact .inl b
 ·exact .inr ⟨j,g,i,q,m,jc h a (fun e=>by rw[e,p]at a;cases a;exact k rfl) l,s⟩
theorem Dm(w:X)(s:ByteArray)(c4:s.size<=1048576)(cy:PL w){c a:Int}{ns:List Nd}(bA:Gt s c a ns):A6 S 17 #[.string s] w (PiP w c a ns):=by
 have i4:∀(ec:Fn)(first ch:Array Y)(w:X),(Instr.makeFunc ec first ch).run S w= .ok (.func ec first ch) w:=fun _ _ _ _=>rfl;have j8:∀w:X,(zeroValue 28).run S w= .ok (.agg #[.int .i64 0,.int .i64 0,.slice O 0 0]) w:=fun w=>by kernel_rfl
 have ed:=bg w (.cells #[.int .i64 0,.int .i64 0,.slice O 0 0] 28);have gu:=aj w (.cells #[.int .i64 0,.int .i64 0,.slice O 0 0] 28);have g9:(w.alloc (.cells #[.int .i64 0,.int .i64 0,.slice O 0 0] 28)).heap.size=w.heap.size+1:=aF _ _;have bn:=aw bA;by_cases i1:65536<s.size
 ·have ge:(65536:Int)<(s.size:Int):=by omega
  have L:A0 (c=2/\a=0/\ns=[]):=by
   cases bA with
   |big h=>exact⟨rfl,rfl,rfl⟩
   |at_ h _ _=>omega
   |ok h _ _=>omega
  clear bA bn;go_enter_defers Tryz.func17,Tryz.ntmps17
  go_wp2_with fail;exact⟨_,eu rfl _ _ w.heap.size _ _ _ _ rfl (aj w _) Tryz.underlying28 rfl (by kernel_rfl),show PiP w c a ns _ _ from by rw[L.out.1,L.out.2.1,L.out.2.2];exact⟨_,[],rfl,rfl,Bk _ _ _,bg w _⟩⟩
 ·have ge:¬(65536:Int)<(s.size:Int):=by omega
  obtain⟨d7,cm,C⟩:=cy.pow;have fa:=FL (w.alloc (.cells #[.int .i64 0,.int .i64 0,.slice O 0 0] 28)) d7 cm ((ed.block _ (ah C)).trans C);have a0:=aw cy;clear bA cy C;go_enter_defers Tryz.func17,Tryz.ntmps17
  go_wp2_with fail;refine fa.mono ?_;rintro b bd ⟨cr,rfl,cn,d4,cg⟩;rw[g9]at cn d4 cg;have cs:M w.heap.size w bd:=ed.trans (cg.mono (by omega));have el:GQ bd (w.heap.size+1) cr (w.heap.size+1) [100,6]:=⟨cn,d4,by decide,by decide⟩;have e9:=F9 bd (w.heap.size+1) cr (w.heap.size+1) s el (a0.out.lay.below cs (ae _)) (by omega) (by have:=a0.out.gn;omega);have c8:=(cg.block w.heap.size (by omega)).trans gu;clear fa;go_wp2_with fail;refine e9.mono ?_;rintro b o ⟨(⟨E,d5,toks,ce,kf,em,df,rfl,b9,cB,j1,g7,ad⟩|⟨z,a7,rfl,ad⟩)⟩
  ·have B:M w.heap.size w o:=cs.trans (ad.mono (by omega));have a5:=(ad.block w.heap.size (by omega)).trans c8;have e7:=ah a5;obtain⟨n,dn⟩:=ay toks.length;rw[dn]at b9 g7;obtain⟨fv,f2,rfl⟩:=bz b9;obtain⟨stF,ck,bD⟩:∃stF ck,gH E 6=A3->passOk (E.length+45) ck E 6 stF/\stF.length<=E.length+45/\Da stF (feedL d5 6).1:=by
    by_cases c4:gH E 6=A3
    ·obtain⟨a9,e1,g3⟩:=df.passOk (by decide) (by decide) c4;exact⟨a9,_,fun _=>⟨e1,wo e1,g3⟩⟩
    ·exact⟨[],0,fun b=>absurd b c4⟩
   have cc:=fun a9=>D8 (o.alloc a9) (w.heap.size+1) cr (w.heap.size+1) E stF ⟨6,(s.size:Nat),(s.size:Nat),0,0,⟨#[]⟩⟩ s ck (cB.below (bg o a9)) ((a0.out.lay.below (B.trans ((bg o a9).mono B.size)) (ae _)).tabs) (by omega) (by simp) (by simp) (by simp) (by simp) (by simp) (fun b=>⟨(bD b).1,by have:=(bD b).2.1;omega,fun a bE=>by have:=aC ((bD b).2.2.o1 a bE);omega⟩);unfold Jj at cc;simp only at cc;obtain⟨h8,c3,_⟩:=cB.g.ex;have gd:=ah c3;have y:=Jm b9 dn em df c3;have j3:=ah c8;have j4:=ad.size;clear e9 em df bD b9 dn cB c3 el cn d4;go_wp2_with fail;refine(cc _).mono ?_;have J:=bg o (.cells #[.int .i64 6,.int .i64 (s.size:Nat),.int .i64 (s.size:Nat),.int .i64 0,.int .i64 0,.string ⟨#[]⟩] 96);have d6:=aj o (.cells #[.int .i64 6,.int .i64 (s.size:Nat),.int .i64 (s.size:Nat),.int .i64 0,.int .i64 0,.string ⟨#[]⟩] 96);have g5:(o.alloc (.cells #[.int .i64 6,.int .i64 (s.size:Nat),.int .i64 (s.size:Nat),.int .i64 0,.int .i64 0,.string ⟨#[]⟩] 96)).heap.size=o.heap.size+1:=aF _ _;have d0:=aE y.out.1 J;have cq:=(J.block _ gd).trans y.out.2.2.2.2;generalize o.alloc (.cells #[.int .i64 6,.int .i64 (s.size:Nat),.int .i64 (s.size:Nat),.int .i64 0,.int .i64 0,.string ⟨#[]⟩] 96)=hD at J d6 g5 d0 cq⊢;rintro b v ⟨(⟨b8,rfl,gt,c6,af⟩|⟨b8,rfl,af⟩)⟩
   ·have b1:(feedL d5 6).2=A3:=by rw[<-y.out.2.2.2.1.may (by decide) (by decide)];exact b8
    have c9:=(af.block w.heap.size (by omega)).trans ((J.block _ e7).trans a5);have bw:M w.heap.size w v:=(B.trans (J.mono B.size)).trans (af.mono (by omega));obtain⟨ap,d,kb,q,b0,bE,e0⟩:=bn.out.ok_of (toks:=toks++[⟨6,(s.size:Nat),(s.size:Nat),ce,0,⟨#[]⟩⟩]) (by omega) (by unfold qk;rw[y.out.2.2.1,aa (by simp),ab b1]);have ff:=akq c6 cq d0 (by decide) (by decide);have fg:dj o.heap.size v 6 (s.size:Nat) (s.size:Nat) 0 0 ⟨#[]⟩:=jc c6 d6 (by omega) (by decide);obtain⟨hr,hs,ht,hw,hy,hA,hB⟩:=bf fg;obtain⟨hj,gf,a7,hd,he⟩:=dt aaC;have ji:=af.size;have et:n=ap:=by have:=q.len;rw[aH,y.out.2.1]at this;simpa using this
    have m:=Jm q b0 bE e0 et;have d1:=aE ff (bg v (.cells #[.int .i64 6,.int .i64 (s.size:Nat),.int .i64 (s.size:Nat),.int .i64 0,.int .i64 0,.string ⟨#[]⟩] 96));have j0:=(bg v (.cells #[.int .i64 6,.int .i64 (s.size:Nat),.int .i64 (s.size:Nat),.int .i64 0,.int .i64 0,.string ⟨#[]⟩] 96)).size;have fk:=aj v (.cells #[.int .i64 6,.int .i64 (s.size:Nat),.int .i64 (s.size:Nat),.int .i64 0,.int .i64 0,.string ⟨#[]⟩] 96);clear cc gt c6 d6 d0 cq fg q b0 bE e0 et ff b1 b8;go_wp2_with (at_builtin;refine wpList_append_own_at _ rfl _ _ 42 rfl bd.heap.size 96 hj _ 6 56 Tryz.underlying42 gf a7 hd he rfl (by decide) _ _ _ rfl d1 ⟨v.heap.size,0,O⟩ 1 1 [.int .i64 6,.int .i64 (s.size:Nat),.int .i64 (s.size:Nat),.int .i64 0,.int .i64 0,.string ⟨#[]⟩] rfl rfl (World.news_of_block fk) (by intro ke e5;simp at e5;rcases e5 with rfl|rfl|rfl|rfl|rfl|rfl<;>rfl) (by unfold maxLen;omega) (by omega) (by omega) ?_;intro kh j d2 b7 _ f7;obtain⟨G,ak,rfl⟩:=ownsRow_succ d2);have j5:=b7.size;have e6:∀k,(Value.slice fv n f2).ownBlock=Q k->bd.heap.size<=k:=fun k u=>(d1.lt k u).1;have bx:M w.heap.size w j:=(bw.trans ((bg v _).mono bw.size)).grown b7 (by omega) (fun k u=>by have:=e6 k u;omega);have a6:=(b7.block w.heap.size (by omega) (fun b=>by have:=e6 _ b.symm;omega)).trans (((bg v _).block _ (by omega)).trans c9);obtain⟨d7,cm,C⟩:=a0.out.pow;have cx:=(bx.block _ (ah C)).trans C;have iy:=ah C;obtain⟨br,am,en⟩:∃br,j.heap[G]?=Q (.cells br 96 (0,0))/\TkR br (uC (toks++[⟨6,(s.size:Nat),(s.size:Nat),ce,0,⟨#[]⟩⟩])) (n+1):=by
     rcases d2.2 with⟨dq,_⟩|⟨h7,ch,fF,dq,i3,b0,A,ih,ii,f5⟩
     ·cases dq
     ·cases dq;refine⟨fF,b0,afu (ts:=toks++[⟨6,(s.size:Nat),(s.size:Nat),0,0,⟨#[]⟩⟩]) (by rw[sx];exact f5) (by rw[aH,y.out.2.1];rfl) (fun d3 T an=>?_)⟩;rcases co d3 toks.length with h|h
      ·rw[ie h]at an;rw[CA (T:=T) (by rw[ie h];exact an)];exact⟨rfl,fun _=>rfl⟩
      ·have b:d3=toks.length:=by have:=(List.getElem?_eq_some_iff.1 an).1;simp at this;omega
       subst b;rw[fJ (ae _),eB]at an;cases an;rw[CA (T:=⟨6,(s.size:Nat),(s.size:Nat),ce,0,⟨#[]⟩⟩) (by rw[fJ (ae _),eB];rfl)];exact⟨rfl,fun h=>absurd rfl h⟩
    obtain⟨K,I⟩:∃K:Pe,(⟨0,j.heap.size,G,ak,n+1,uC (toks++[⟨6,(s.size:Nat),(s.size:Nat),ce,0,⟨#[]⟩⟩])⟩:Pe)=K:=⟨_,rfl⟩;have q:=m.out.1;have eb:Pp K (j.alloc (.cells #[.slice (Q ⟨G,0,O⟩) (n+1) ak,.int .i64 0] 99)) 0:=by
     rw[<-I];exact⟨by show n+1<=_;omega,⟨br,(0,0),((bg j _).block _ (ah am)).trans am,en⟩,aj j _,by have:=bx.size;show _<j.heap.size;omega,d7,cm,((bg j _).block _ (ah cx)).trans cx⟩
    obtain⟨d3,hS⟩:PI K .stats 0 d ap:=afh (by rw[<-I];exact q.k78) (by rw[<-I];show P _ (n+1) _ _ _ _;rw[m.out.2.2.2.2];exact q.p);have a8:=alI (afe (.inr (by rw[<-I];show(uC _ ap).k=6;rw[q.end_])) hS) (by rw[<-I];show ap<n+1;have:=m.out.2.2.2.2;omega) _ eb (by have:=q.sz;rw[aA];omega);have ek:(K.tk ap).t=(s.size:Nat):=by rw[<-I];show(uC _ ap).t=_;rw[q.end_]
    have cw:K.pb=j.heap.size:=by rw[<-I]
    unfold pV at a8;rw[ek,cw]at a8;have hh:(j.alloc (.cells #[.slice (Q ⟨G,0,O⟩) (n+1) ak,.int .i64 0] 99)).heap.size=j.heap.size+1:=aF _ _;have cI:=bg j (.cells #[.slice (Q ⟨G,0,O⟩) (n+1) ak,.int .i64 0] 99);have eh:M w.heap.size w (j.alloc (.cells #[.slice (Q ⟨G,0,O⟩) (n+1) ak,.int .i64 0] 99)):=bx.trans (cI.mono bx.size);have e2:=(cI.block _ (ah a6)).trans a6;have j6:=ah a6;clear hS eb q am en C cx d2 b7 f7 d1 fk hr hs ht hw hy hA hB;generalize j.alloc (.cells #[.slice (Q ⟨G,0,O⟩) (n+1) ak,.int .i64 0] 99)=cf at a8 hh cI eh e2⊢;refine a8.mono ?_;rintro b fo ⟨hp,rfl,a1⟩;obtain⟨fB,fc,ev⟩:=a1.out.nb;have g8:=a1.out.gr.size;have g0:=(a1.out.gr.block w.heap.size (by omega) (fun b=>by rw[cw]at b;have:=bu b;omega)).trans e2;have f6:M w.heap.size w fo:=eh.grown a1.out.gr (by omega) (fun k u=>by rw[cw]at u;have:=bu u;omega);have fb:=zF (wE cf.heap.size d) (N:=⟨1,0,(s.size:Nat),1,0,0,z0,[],[]⟩) fo hp fB [] (.slice O 0 0) fc ⟨bc _ _ _ _,fun ea cb=>(by cases cb)⟩ g8 (by have:=m.out.1.sz;rw[aA];simp;omega);have fu:=aw ev;clear a8 fc ev a1 ek;go_wp2_with fail;refine fb.mono ?_;rintro b l ⟨j9,F,rfl,ao,cz,am,⟨f9,es⟩,bt,gp,_⟩;rw[de]at ao;obtain⟨e,g,rfl⟩:=bz ao.row;have ei:M w.heap.size w l:=f6.trans (bt.bl.mono (by omega));have e3:=(bt.bl.block w.heap.size (by omega)).trans g0;have j7:=bt.bl.size;obtain⟨i,c5⟩:=ay F.length;rw[c5]at ao;have fd:fx l (.slice e i g) (og s d):=by
     have:=ao.nds;rw[cz]at this;exact this
    have bk:A0 (Lw l cf.heap.size (.slice e i g) F/\F.map Mb.N=og s d/\(nB' F).Nodup/\(kB F).Nodup):=⟨ao,cz,List.nodup_iff_count.2 fun fq=>bF (am fq) (List.nodup_iff_count.1 (List.nodup_append.1 fu.out).1 fq),es⟩;rw[c5];have bb:=bg l (.cells #[.slice e i g] 26);have ef:M w.heap.size w (l.alloc (.cells #[.slice e i g] 26)):=ei.trans (bb.mono ei.size);have bo:=a0.out.below ef (ae _);have gs:(og s d).length<=1048576:=by
     have:=m.out.1.sz;unfold og;rw[Fo.flat_len,aA];omega
    obtain⟨hl,f3,ep⟩:=bo.lay.tabs.word;have ds:=zK (l.alloc (.cells #[.slice e i g] 26)) (.slice e i g) (og s d) (fd.below bb) gs m.out.1.sm bo.lay.errs hl f3 ep (fun hC f8=>qu bo.asc f8 (ae _));have cF:=aj l (.cells #[.slice e i g] 26);have c7:=(bb.block _ (ah e3)).trans e3;have i7:(l.alloc (.cells #[.slice e i g] 26)).heap.size=l.heap.size+1:=aF _ _;have bh:A0 (okC (og s d)=(if(dA (og s d)).1=0 then 0 else 2)/\okN (og s d)=(if(dA (og s d)).1=0 then og s d else [])):=⟨rfl,rfl⟩;obtain⟨fl,dk⟩:=ay ((dA (og s d)).1);obtain⟨kd,e4⟩:=ay ((dA (og s d)).2);rw[dk]at bh;simp only[dk,e4]at ds;have i2:∀(fm hn:Y)(w:X),(Instr.field 47 (.agg #[fm,hn]) 0).run S w= .ok fm w:=fun _ _ _=>by kernel_rfl
    clear fb ao cz am f9 es bt gp fd ep dk e4 bo c5;go_wp2_with fail;refine ds.mono ?_;rintro b x ⟨rfl,a3⟩;have eq:=(a3.block _ (ah cF)).trans cF;have ca:=(a3.block _ (ah c7)).trans c7;have eg:M w.heap.size w x:=ef.trans (a3.mono (by omega));have i8:=a3.size;have gm:∀k,k<l.heap.size->x.heap[k]?=l.heap[k]?:=fun k u=>(a3.block k (by omega)).trans (bb.block k u);obtain⟨hH,hI,hJ,hK⟩:=row3 ca;have kc:x.cell? ⟨l.heap.size,0,O⟩=Q (.slice e i g):=by rw[aq _ _ _ _ _ _ eq];rfl
    have i5:w.heap.size≠l.heap.size:=by omega
    have i6:=ah ca;clear ds cF c7 bb eq;by_cases a4:fl=0
    ·subst a4;go_wp2_with fail;refine AK (f:=35) (args:=#[.pointer (Q ⟨w.heap.size,0,O⟩)]) (by simp) (by simp[go_sem]) ?_;refine(aa3 ⟨w.heap.size,0,O⟩ _).mono ?_;rintro b d8 d9 ⟨rfl,rfl,rfl⟩;have A:=aci ca (.int .i64 0) (.int .i64 0) (.slice e i g);have H:=Eb eg (.int .i64 0) (.int .i64 0) (.slice e i g);have er:∀k,k≠w.heap.size->_:=fun k u=>aim (w:=x) (r:=w.heap.size) (k:=k) u (.int .i64 0) (.int .i64 0) (.slice e i g);have e8:x.heap.size<=(((x.setCell ⟨w.heap.size,0,O⟩ (.int .i64 0)).setCell ⟨w.heap.size,1,O⟩ (.int .i64 0)).setCell ⟨w.heap.size,2,O⟩ (.slice e i g)).heap.size:=by simp[World.setCell]
     generalize ((x.setCell ⟨w.heap.size,0,O⟩ (.int .i64 0)).setCell ⟨w.heap.size,1,O⟩ (.int .i64 0)).setCell ⟨w.heap.size,2,O⟩ (.slice e i g)=a2 at A H er e8⊢;have ar:=bg a2 (.cells #[.int .i64 0] 90);have j2:=H.size;have i9:x.heap.size<=a2.heap.size:=e8;have b:=bh.out;rw[ab trivial,ab trivial]at b;have dz:Lw (a2.alloc (.cells #[.int .i64 0] 90)) cf.heap.size (.slice e i g) F:=bk.out.1.mono fun k h9 f4=>(ar.block k (by omega)).trans ((er k (by omega)).trans (gm k f4));refine⟨_,eu rfl _ _ w.heap.size _ _ _ _ rfl ((ar.block _ (ah A)).trans A) Tryz.underlying28 rfl (by kernel_rfl),show PiP w c a ns _ _ from ?_⟩;rw[m.out.2.1,m.out.2.2.1,m.out.2.2.2.1,b.1,b.2];exact⟨_,F,rfl,bk.out.2.1,akp ⟨iE dz.row (by omega),fun ea cb=>⟨iE (dz.each ea cb).1 (by omega),iE (dz.each ea cb).2 (by omega)⟩⟩ bk.out.2.2.1 bk.out.2.2.2,H.trans (ar.mono (by omega))⟩
    ·have an:(fl==0)=A5:=by simpa using a4
     have L:A0 (okC (og s d)=2/\okN (og s d)=[]):=by
      have b:=bh.out;rw[aa a4,aa a4]at b;exact b
     clear a4 bh;go_wp2_with fail;refine AK (f:=35) (args:=#[.pointer (Q ⟨w.heap.size,0,O⟩)]) (by simp) (by simp[go_sem]) ?_;refine(aa3 ⟨w.heap.size,0,O⟩ _).mono ?_;rintro b d8 d9 ⟨rfl,rfl,rfl⟩;have A:=aci ca (.int .i64 2) (.int .i64 0) (.slice O 0 0);have H:=Eb eg (.int .i64 2) (.int .i64 0) (.slice O 0 0);generalize ((x.setCell ⟨w.heap.size,0,O⟩ (.int .i64 2)).setCell ⟨w.heap.size,1,O⟩ (.int .i64 0)).setCell ⟨w.heap.size,2,O⟩ (.slice O 0 0)=a2 at A H⊢;have ar:=bg a2 (.cells #[.int .i64 0] 90);refine⟨_,eu rfl _ _ w.heap.size _ _ _ _ rfl ((ar.block _ (ah A)).trans A) Tryz.underlying28 rfl (by kernel_rfl),show PiP w c a ns _ _ from ?_⟩;rw[m.out.2.1,m.out.2.2.1,m.out.2.2.2.1,L.out.1,L.out.2];exact⟨_,[],rfl,rfl,Bk _ _ _,H.trans (ar.mono H.size)⟩
   ·have c9:=(af.block w.heap.size (by omega)).trans ((J.block _ e7).trans a5);have bw:M w.heap.size w v:=(B.trans (J.mono B.size)).trans (af.mono (by omega));have b1:(feedL d5 6).2=A5:=by rw[<-y.out.2.2.2.1.may (by decide) (by decide)];exact b8
    obtain⟨rfl,rfl,rfl⟩:=bn.out.at_of (z:=(s.size:Nat)) (by omega) (by omega) (by unfold qk;rw[y.out.2.2.1,aa (by simp),aa (by rw[b1];simp)]);refine AK (f:=35) (args:=#[.pointer (Q ⟨w.heap.size,0,O⟩)]) (by simp) (by simp[go_sem]) ?_;refine(aa2 w.heap.size _ _ _ _ v c9).mono ?_;rintro b d8 d9 ⟨rfl,rfl,a6,fA⟩;have g1:=Bh E (s.extract s.size s.size);rw[iu]at g1;exact⟨_,eu rfl _ _ w.heap.size _ _ _ _ rfl a6 Tryz.underlying28 rfl (by kernel_rfl),⟨_,[],by unfold psV;simp only[tJ];rw[show ww E (s.extract s.size s.size)=0 by omega,Int.natCast_zero,Int.add_zero],rfl,Bk _ _ _,bw.trans fA⟩⟩
  ·have B:M w.heap.size w o:=cs.trans (ad.mono (by omega));have a5:=(ad.block w.heap.size (by omega)).trans c8;obtain⟨rfl,rfl,rfl⟩:=bn.out.at_of (by omega) a7.bad (by unfold qk;rw[ab a7.bad]);refine AK (f:=35) (args:=#[.pointer (Q ⟨w.heap.size,0,O⟩)]) (by simp) (by simp[go_sem]) ?_;refine(aa2 w.heap.size _ _ _ z o a5).mono ?_;rintro b d8 d9 ⟨rfl,rfl,gz,fz⟩;exact⟨_,eu rfl _ _ w.heap.size _ _ _ _ rfl gz Tryz.underlying28 rfl (by kernel_rfl),⟨_,[],by rw[<-a7.at_];rfl,rfl,Bk _ _ _,B.trans fz⟩⟩
theorem Gt.ns{s:ByteArray}{c a:Int}{ns:List Nd}(h:Gt s c a ns):ns.length<=1048576/\(∀N∈ns,N.nm.length<=1048576/\N.ks.length<=1048576)/\Gq 1 ns<=40000000:=by
 have e:([]:List Nd).length<=1048576/\(∀N∈([]:List Nd),N.nm.length<=1048576/\N.ks.length<=1048576)/\Gq 1 []<=40000000:=⟨aL _,fun N d=>(by cases d),by decide⟩;cases h with
 |big _=>exact e
 |at_ _ _ _=>exact e
 |@ok j i f g _ _ b=>
  unfold okN;split
  ·refine⟨?_,fun N d=>⟨(b.sm N d).l1,(b.sm N d).l2⟩,bF b.ct (by decide)⟩;have:=b.sz;unfold og;rw[Fo.flat_len,aA];omega
  ·exact e
theorem Dn(w:X)(s:ByteArray)(h:s.size<=1048576){c a:Int}{ns:List Nd}(g:Gt s c a ns):A6 S 6 #[B1 s] w (PsP w c a ns):=by
 cases g with
 |big b=>exact Di w s b h
 |at_ b f d=>exact Gf w s b f d
 |ok b d e=>exact Gg w s b d e
