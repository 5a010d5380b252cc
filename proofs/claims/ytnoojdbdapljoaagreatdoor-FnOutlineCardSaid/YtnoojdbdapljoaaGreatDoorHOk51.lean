import Derived.Test.YtnoojdbdapljoaaGreatDoorHOk31
import Derived.Test.YtnoojdbdapljoaaGreatDoorHOk32
import Derived.Test.YtnoojdbdapljoaaGreatDoorHOk33
import Derived.Test.YtnoojdbdapljoaaGreatDoorHOk44
import Derived.Test.YtnoojdbdapljoaaGreatDoorHOk50
import Derived.Test.YtnoojdbdapljoaaGreatDoorHOk48
set_option linter.all false
set_option maxRecDepth 100000
set_option maxHeartbeats 12800000
open Option renaming none->M,some->O
open Go.RowKit renaming Below->Q,Hid->Ax
open Go.Obj renaming cells->S
open Go.Proofs.Tryz renaming prog->T
open Go renaming World->U,Value->X,TypeId->A1,Calls->A2,undef->A6
open Go.Value renaming slice->V,int->Y,agg->A3,tuple->A5,nilIface->A7
open Go.IntKind renaming i64->Z
open Go.Lib renaming asciiSpaceTab->A0,TabIs->A4
namespace Go.Proofs.YtnoojdbdapljoaaGreatDoor
open Go.RowKit
def PM(E:Pe):tq->Nat->Fo->Nat->Prop
 | .unit,i,R,j=>CI E 147 #[pV E] i R j
 | .expr p,i,R,j=>CX E p i R j
 | .more p s x,i,R,j=>∃m,Ms E (CX E) p s m x i R j
 | .base,i,R,j=>CB E i R j
 | .post s x,i,R,j=>∃m,Ps E (Hp E) (CLx E) s m x i R j
 | .exprs,i,R,j=>CLx E i R j
 | .moreE,i,R,j=>∃m,Ls E (Hp E) m i R j
 | .moreB,i,R,j=>∃m,Ls E (CB E) m i R j
 | .stat,i,R,j=>CSt E i R j
 | .stats,i,R,j=>∃m,Ss E (CSt E) m i R j
 | .block,i,R,j=>CI E 90 #[pV E] i R j
 | .body s,i,R,j=>CI E 98 #[pV E,A3 (dw (nN 36 s) s0 s0)] i R j
 | .entry,i,R,j=>CEn E i R j
 | .entries,i,R,j=>∃m,Es E (CEn E) m i R j
 | .branch,i,R,j=>CI E 99 #[pV E,A3 (iK (E.tk i).k (E.tk i))] (i+1) R j
theorem ajb{k:Int}(h:k=5\/k=6\/k=43):dH k=false:=by rcases h with rfl|rfl|rfl<;>decide
theorem ajc{k:Int}(h:lj k=true):k=25\/k=50\/k=62\/k=69:=by
 have:=bc h;omega
theorem aax{E:Pe}(x:∀q,(E.tk q).k<=78){t:tq}{i j:Nat}{R:Fo}(h:P E.tk E.n t i R j):PM E t i R j:=by
 induction h with
 |upre a b d c=>have:=d.pos;simp only[iz]at this;exact abH (ajc a) rfl b c (by omega) (by omega)
 |uint a b=>exact vH (.inl ⟨rfl,rfl,rfl,rfl⟩) a b
 |uflt a b=>exact vH (.inr (.inl ⟨rfl,rfl,rfl,rfl⟩)) a b
 |ustr a b=>exact vH (.inr (.inr ⟨rfl,rfl,rfl,rfl⟩)) a b
 |unil a b=>exact rG (.inl ⟨rfl,rfl⟩) a b
 |utru a b=>exact rG (.inr (.inl ⟨rfl,rfl⟩)) a b
 |ufls a b=>exact rG (.inr (.inr (.inl ⟨rfl,rfl⟩))) a b
 |urst a b=>exact rG (.inr (.inr (.inr ⟨rfl,rfl⟩))) a b
 |ufn a b d c=>exact afs a b c
 |utab a b d e f c=>obtain⟨g,c⟩:=c;exact adi a b c e f
 |ubas a b d c=>exact KF a rfl b c
 |ex a b d e m o=>obtain⟨g,c⟩:=o;exact aiq a b x m c
 |mstop a b=>exact⟨0,.stop a b⟩
 |mgo a b d e f o u=>obtain⟨g,c⟩:=u;have:=e.pos;simp only[iz]at this;exact⟨g+1,.go a b d o (by omega) (by omega) c⟩
 |bname a b d c=>obtain⟨g,c⟩:=c;have:=d.pos;simp only[iz]at this;exact adf a b (by omega) c
 |bopen a b d e f l m r=>obtain⟨g,c⟩:=r;have:=d.pos;have:=l.pos;simp only[iz]at *;exact adg a b m e (by omega) (by omega) c
 |pstop a b=>exact⟨0,.stop a b⟩
 |pdot a b d e c=>obtain⟨g,c⟩:=c;have:=e.pos;exact⟨g+1,.dot a b (by omega) c⟩
 |psq a b d e f l m r=>obtain⟨g,c⟩:=r;have:=d.pos;simp only[iz]at this;have:=l.pos;exact⟨g+1,.sq a b m e (by omega) c⟩
 |pcall0 a b d e c=>obtain⟨g,c⟩:=c;have:=e.pos;exact⟨g+1,.call0 a b (by omega) c⟩
 |pcall a b d e f l p o s=>obtain⟨g,c⟩:=s;have:=e.pos;simp only[iz]at this;have:=p.pos;exact⟨g+1,.call a b d o f (by omega) c⟩
 |es a b z A=>obtain⟨g,c⟩:=A;exact agn z c
 |estop a b=>exact⟨0,.stop a b⟩
 |ego a b d e m o=>obtain⟨g,c⟩:=o;exact⟨g+1,.go a b m c⟩
 |bstop a b=>exact⟨0,.stop a b⟩
 |bgo a b d e m o=>obtain⟨g,c⟩:=o;exact⟨g+1,.go a b m c⟩
 |@body i k j ad J L I a b d e c=>
  obtain⟨g,F,G,K,H⟩:=Pt.of d;have:=e.pos;simp only[iz]at this;obtain⟨w,rfl⟩:∃w,k=w+1:=⟨k-1,by omega⟩;exact ais a b F G H c (by omega) (by omega)
 |block a b d e f c=>obtain⟨g,c⟩:=c;exact aft a b (JB (.inl rfl) e c) e f
 |sstop a b=>exact⟨0,.stop b⟩
 |ssep a b d c=>obtain⟨g,c⟩:=c;exact⟨g+1,.sep a b c⟩
 |sgo a b d e f l u r=>obtain⟨g,c⟩:=r;exact⟨g+1,.go a b d e u c⟩
 |nstop a b=>exact⟨0,.stop a b⟩
 |ncom a b d e f l m r=>obtain⟨g,c⟩:=r;exact⟨g+1,.com a b m e f c⟩
 |nlast a b d e f l m r=>obtain⟨g,c⟩:=r;exact⟨g+1,.last a b m e f c⟩
 |item a b d e f c=>have:=f.pos;simp only[iz]at this;exact Hw a b d e c (by omega) (by omega)
 |pair a b d e f l p m s=>have:=d.pos;have:=p.pos;simp only[iz]at *;exact Hx a b m e f l s (by omega) (by omega)
 |named a b d e f c=>have:=f.pos;simp only[iz]at this;exact Fq a b d e c (by omega) (by omega)
 |belif a b d e f l p m o s=>have:=d.pos;have:=e.pos;have:=p.pos;simp only[iz]at *;exact Fm a rfl b m o l f (by have q:CI E 99 #[pV E,A3 (iK (E.tk _).k (E.tk _))] (_+1) _ _:=s;rw[f]at q;exact q) (by omega) (by omega)
 |belse a b d e f l p m o s=>have:=d.pos;have:=e.pos;have:=p.pos;simp only[iz]at *;exact Fn a rfl b m o l f s (by omega) (by omega)
 |bno a b d e f l p m o=>have:=d.pos;have:=e.pos;simp only[iz]at *;exact LF a rfl b m o p f l (by omega)
 |tlet0 a b d e f=>have:=e.pos;exact LB a (by omega) (rK d b e) (by omega) (by omega) f
 |tlet a b d e f l c=>have:=e.pos;have:=l.pos;simp only[iz]at *;exact ac9 a (by omega) (rK d b e) (by omega) (by omega) f c (by omega) (by omega)
 |@tcon i j af a b d e f c=>have:=f.pos;simp only[iz]at *;exact Hu a (by omega) (rK b (by omega) (.stop (by rw[d];decide) (by omega))) (by omega) (by omega) d c (by omega) (by omega)
 |tfn a b d e f c=>have:=f.pos;simp only[iz]at *;exact agp a b d e c (by omega) (by omega)
 |tif a b d c=>exact ago a b (by have q:CI E 99 #[pV E,A3 (iK (E.tk _).k (E.tk _))] (_+1) _ _:=c;rw[a]at q;exact q)
 |twhile a b d e m o=>have:=d.pos;have:=e.pos;simp only[iz]at *;exact Ht a b m o (by omega) (by omega)
 |tfor a b d e f l p r s=>have:=e.pos;have:=l.pos;have:=p.pos;simp only[iz]at *;exact Fl a (by omega) (adh a (by omega) (rK d b e) (by omega) f r s (by omega) (by omega))
 |teach a b d e f l p v y r C=>have:=e.pos;have:=l.pos;have:=y.pos;simp only[iz]at *;exact Fl a (by omega) (LG a (by omega) (rK d b e) (by omega) f r C (by omega) (by omega))
 |tbreak a b=>exact Ce (.inl ⟨rfl,rfl⟩) a b
 |tnext a b=>exact Ce (.inr ⟨rfl,rfl⟩) a b
 |tret0 a b d=>exact LC a b (ajb d)
 |tret a b d e c=>have:=e.pos;simp only[iz]at *;exact ada a b d c (by omega) (by omega)
 |ttry a b d e f l p v m B=>have:=d.pos;have:=p.pos;have:=v.pos;simp only[iz]at *;exact adb a b m e f (rK l f p) B (by omega) (by omega)
 |tthrow a b d c=>have:=d.pos;simp only[iz]at *;exact Hq a b c (by omega) (by omega)
 |tdefer a b d c=>have:=d.pos;simp only[iz]at *;exact Hr a b c (by omega) (by omega)
 |tblock a b d c=>exact Hs a b c
 |tdo a b d e f l c=>have:=d.pos;simp only[iz]at *;exact wJ a rfl b (LD a rfl b c e f l (by omega))
 |tset a b d e f l p m o s=>obtain⟨g,o⟩:=o;have:=d.pos;have:=e.pos;have:=p.pos;simp only[iz]at *;exact wJ a rfl b (Hv a rfl b m o f l s (by omega) (by omega) (by omega))
open Go.Maps Go.WideMaps
theorem row3{w:U}{r:Nat}{a b c:X}{t:A1}(h:w.heap[r]?=O (S #[a,b,c] t (0,0))):w.cell? ⟨r,0,M⟩=O a/\w.cell? ⟨r,1,M⟩=O b/\w.cell? ⟨r,2,M⟩=O c/\∀j,w.frozen? ⟨r,j,M⟩=false:=
 ⟨by rw[az _ _ _ _ _ _ h];rfl,by rw[az _ _ _ _ _ _ h];rfl,by rw[az _ _ _ _ _ _ h];rfl,fun j=>du _ _ _ _ _ h⟩
theorem set3{w:U}{r:Nat}{d e f:X}{t:A1}(h:w.heap[r]?=O (S #[d,e,f] t (0,0)))(a b c:X):(((w.setCell ⟨r,0,M⟩ a).setCell ⟨r,1,M⟩ b).setCell ⟨r,2,M⟩ c).heap[r]?=O (S #[a,b,c] t (0,0)):=
 cD _ r 2 _ _ _ (cD _ r 1 _ _ _ (cD _ r 0 _ _ _ h))
theorem akf{w:U}{r k:Nat}(h:k≠r)(a b c:X):(((w.setCell ⟨r,0,M⟩ a).setCell ⟨r,1,M⟩ b).setCell ⟨r,2,M⟩ c).heap[k]?=w.heap[k]?:=
 (bh _ _ _ _ h).trans ((bh _ _ _ _ h).trans (bh _ _ _ _ h))
theorem aep{a w:U}{r:Nat}(h:Q r a w)(b c f:X):Q r a (((w.setCell ⟨r,0,M⟩ b).setCell ⟨r,1,M⟩ c).setCell ⟨r,2,M⟩ f):=by
 have d:Q r a (w.setCell ⟨r,0,M⟩ b):=h.setCell (ah _) _;have e:Q r a ((w.setCell ⟨r,0,M⟩ b).setCell ⟨r,1,M⟩ c):=d.setCell (ah _) _;exact e.setCell (ah _) _
theorem DL(w:U):cg w (V M 0 0) []:= .inl ⟨rfl,_,_,rfl⟩
theorem Bp(w:U)(s:ByteArray)(c:65536<s.size)(b:s.size<=1048576):A2 T 4 #[.string s] w (PsP w 2 0 []):=by
 have d:∀w:U,(zeroValue 27).run T w= .ok (.agg #[.int .i64 0,.int .i64 0,.slice M 0 0]) w:=fun w=>by kernel_rfl
 have a:(65536:Int)<(s.size:Int):=by omega
 go_in;go_wp2_with fail;exact bB (gi rfl _ _ w.heap.size _ _ _ _ rfl (aw w _) Tryz.underlying27 rfl (by kernel_rfl)) rfl (show PsP _ _ _ _ _ _ from⟨_,rfl,DL _,bel1 w _⟩)
theorem D0(w:U)(s:ByteArray)(h:s.size<=65536){z:Int}(u:0<=z)(e:lK s=([],z)):A2 T 4 #[.string s] w (PsP w 1 z []):=by
 have t:∀w:U,(zeroValue 27).run T w= .ok (.agg #[.int .i64 0,.int .i64 0,.slice M 0 0]) w:=fun w=>by kernel_rfl
 have r:¬(65536:Int)<(s.size:Int):=by omega
 have a:=fun w=>qg w s h;unfold TkP at a;rw[e]at a;clear e;have b:=bel1 w (.cells #[.int .i64 0,.int .i64 0,.slice M 0 0] 27);have c:=aw w (.cells #[.int .i64 0,.int .i64 0,.slice M 0 0] 27);go_in;go_wp2_with fail;generalize w.alloc (.cells #[.int .i64 0,.int .i64 0,.slice M 0 0] 27)=j at b c⊢;refine(a _).mono ?_;rintro p i ⟨k,l,rfl,_,d⟩;have f:=(d.block _ (ax c)).trans c;have g:Q w.heap.size w i:=b.trans (d.mono b.size);obtain⟨m,n,o,q⟩:=row3 f;clear a;go_wp2_with fail;exact bB (gi rfl _ _ w.heap.size _ _ _ _ rfl (set3 f _ _ _) Tryz.underlying27 rfl (by kernel_rfl)) rfl (show PsP _ _ _ _ _ _ from⟨_,rfl,DL _,aep g _ _ _⟩)
theorem D3(w:U)(s:ByteArray)(b9:s.size<=65536){toks:List Tk}{m:Nat}{R:Fo}{cc:Int}(a8:lK s=(toks, -1))(a2:PF s toks m R cc):A2 T 4 #[.string s] w (PsP w (okC (oE s R)) 0 (okN (oE s R))):=by
 have cy:∀w:U,(zeroValue 27).run T w= .ok (.agg #[.int .i64 0,.int .i64 0,.slice M 0 0]) w:=fun w=>by kernel_rfl
 have cu:¬(65536:Int)<(s.size:Int):=by omega
 have y:=fun w=>qg w s b9;unfold TkP at y;rw[a8]at y;clear a8;obtain⟨f,ak⟩:=aA toks.length;have a:=dx a2 ak;simp only[ak]at y;clear a2 ak;have K:=bel1 w (.cells #[.int .i64 0,.int .i64 0,.slice M 0 0] 27);have am:=aw w (.cells #[.int .i64 0,.int .i64 0,.slice M 0 0] 27);go_in;go_wp2_with fail;generalize w.alloc (.cells #[.int .i64 0,.int .i64 0,.slice M 0 0] 27)=ck at K am⊢;refine(y _).mono ?_;rintro bE b ⟨o,e,rfl,bs,a5⟩;have an:=(a5.block _ (ax am)).trans am;have a7:Q w.heap.size w b:=K.trans (a5.mono K.size);have bl:f=m+1:=by rw[<-a.out.2];exact a.out.1.len
 obtain⟨i,C,rfl,bf,a9⟩:∃i C,o=O ⟨i,0,M⟩/\b.heap[i]?=O (.cells C 109 (0,0))/\TkR C (tj toks) f:=by
  rcases bs.2 with⟨_,j⟩|⟨b0,cl,bD,cb,cr,b5,cn,cp,cq,b4⟩
  ·omega
  ·cases cb;exact⟨b0,bD,rfl,b5,aiG b4 a.out.2 (fun ce cf bn=>by rw[wg bn];exact⟨rfl,fun _=>rfl⟩)⟩
 obtain⟨ce,hS⟩:PM ⟨b.heap.size,b.heap.size+1,i,e,f,tj toks⟩ .stats 0 R m:=aax (E:=⟨b.heap.size,b.heap.size+1,i,e,f,tj toks⟩) a.out.1.k78 (bl ▸ a.out.1.p);have br:=afu s b i e f m (tj toks) C (0,0) bf a9 (by have:=a.out.1.le;omega) (by omega) (R:=R) (JB (E:=⟨b.heap.size,b.heap.size+1,i,e,f,tj toks⟩) (.inr rfl) (by show(tj toks m).k=6;rw[a.out.1.end_]) hS) (by have:=a.out.1.sz;omega);clear hS;clear y bs bf a9 bl;go_wp2_with fail;refine br.mono ?_;rintro bE d ⟨bt,a4,rfl,ar,af,a6⟩;have a0:cg d bt (oE s R):=by have:=ar.nds;rw[af]at this;exact this
 have v:=(a6.block _ (ax an)).trans an;have L:Q w.heap.size w d:=a7.trans (a6.mono a7.size);obtain⟨q,z,t,rfl⟩:∃o f e,bt= .slice o f e:=by obtain⟨o,e,F⟩:=a0.form;exact⟨o,_,e,F⟩
 have b7:=a.out.1.ct;have b8:(oE s R).length<=1048576:=by
  have:=a.out.1.sz;unfold oE;rw[Fo.flat_len,aJ];omega
 have ap:=fun k=>qc (d.alloc k) (.slice q z t) (oE s R) (a0.below (bel1 d k)) b8 a.out.1.sm;have a3:Ax (Lw d b.heap.size (.slice q z t) a4/\a4.map Mb.N=oE s R):=⟨ar,af⟩;have l:Ax (okC (oE s R)=(if(cF (oE s R)).1=0 then 0 else 2)/\okN (oE s R)=(if(cF (oE s R)).1=0 then oE s R else [])):=⟨rfl,rfl⟩;obtain⟨H,ao⟩:=aA ((cF (oE s R)).1);obtain⟨B,bp⟩:=aA ((cF (oE s R)).2);rw[ao]at l;simp only[ao,bp]at ap;have bb:=aw d (.cells #[.slice q z t] 25);have u:=bel1 d (.cells #[.slice q z t] 25);have ca:=u.size;clear br a0 ao bp b7 ar af;go_wp2_with fail;refine cd (ap _) fun c r=>?_;have bd:=(r.block _ (ax bb)).trans bb;have bo:=(r.block _ (ax ((u.block _ (ax v)).trans v))).trans ((u.block _ (ax v)).trans v);have G:Q w.heap.size w c:=(L.trans (u.mono L.size)).trans (r.mono (bz L.size ca));have co:=ax bd;clear ap;have A:∀(h:Nat)(I:Array X)(a1:A1)(J:Nat×Nat)(k:Obj),c.heap[h]?=O (.cells I a1 J)->(c.alloc k).heap[h]?=O (.cells I a1 J):=fun h I a1 J k F=>((bel1 c k).block _ (ax F)).trans F;have cx:w.heap.size≠d.heap.size:=by have:=ax v;omega
 by_cases j:H=0
 ·subst j;have x:=A _ _ _ _ (.cells #[.int .i64 0,.int .i64 B] 45) bo;obtain⟨bw,bx,bA,bF⟩:=row3 x;have cz:(c.alloc (.cells #[.int .i64 0,.int .i64 B] 45)).cell? ⟨d.heap.size,0,M⟩=O (.slice q z t):=by rw[az _ _ _ _ _ _ (A _ _ _ _ _ bd)];rfl
  have g:=l.out;rw[ab rfl,ab rfl]at g;have n:=aq g;have ad:Q w.heap.size w (c.alloc (.cells #[.int .i64 0,.int .i64 B] 45)):=G.trans ((bel1 c _).mono G.size);clear g l A;go_wp2_with fail;exact bB (gi rfl _ _ w.heap.size _ _ _ _ rfl (set3 x _ _ _) Tryz.underlying27 rfl (by kernel_rfl)) rfl (show PsP w (okC (oE s R)) 0 (okN (oE s R)) _ _ from by rw[n.out.1,n.out.2];exact⟨_,rfl,by rw[<-a3.out.2];exact(a3.out.1.mono fun h cm b1=>(akf (by have:=ax an;omega) _ _ _).trans (((bel1 c _).block h (by have:=r.size;omega)).trans ((r.block h (by omega)).trans (u.block h b1)))).nds,aep ad _ _ _⟩)
 ·have x:=A _ _ _ _ (.cells #[.int .i64 H,.int .i64 B] 45) bo;obtain⟨bw,bx,bA,bF⟩:=row3 x;have g:=l.out;rw[aa j,aa j]at g;have n:=aq g;have bn:(H==0)=false:=by simpa using j
  have ad:Q w.heap.size w (c.alloc (.cells #[.int .i64 H,.int .i64 B] 45)):=G.trans ((bel1 c _).mono G.size);clear g l j A;go_wp2_with fail;exact bB (gi rfl _ _ w.heap.size _ _ _ _ rfl (set3 x _ _ _) Tryz.underlying27 rfl (by kernel_rfl)) rfl (show PsP w (okC (oE s R)) 0 (okN (oE s R)) _ _ from by rw[n.out.1,n.out.2];exact⟨_,rfl,DL _,aep ad _ _ _⟩)
inductive Out (s:ByteArray):Int->Int->List Nd->Prop where
 |big:65536<s.size->Out s 2 0 []
 |at_ {z:Int}:s.size<=65536->0<=z->lK s=([],z)->Out s 1 z []
 |ok {toks:List Tk}{m:Nat}{R:Fo}{lz:Int}:s.size<=65536->lK s=(toks, -1)->PF s toks m R lz->Out s (okC (oE s R)) 0 (okN (oE s R))
theorem yJ(s:ByteArray):∀(f:Nat)(st:List Int)(p:Nat)(b:Int)(c:List Tk),¬0<=(uH s f st p b c).2.2->(uH s f st p b c).2.2= -1
 |0,st,p,b,c,h=>by simp[uH]at h
 |f+1,st,p,b,c,h=>by
  rw[uH]at h⊢;split
  ·rfl
  ·rename_i g;rw[aa g]at h;split
   ·rename_i d;rw[ab d]at h;split
    ·rename_i a;rw[ab a]at h;exact yJ s f _ _ _ _ h
    ·rename_i a;rw[aa a]at h;exact yJ s f _ _ _ _ h
   ·rename_i d;rw[aa d]at h;split
    ·rename_i a;rw[ab a]at h;split
     ·rename_i e;rw[ab e]at h;exact yJ s f _ _ _ _ h
     ·rename_i e;rw[aa e]at h;exact absurd (by simp) h
    ·rename_i a;rw[aa a]at h;exact absurd (by simp) h
theorem aeq(s:ByteArray)(h:¬0<=(jq s).2.2):(jq s).2.2= -1:=yJ s _ _ _ _ _ h
theorem ajd(s:ByteArray):∃c a k,Out s c a k:=by
 by_cases j:65536<s.size
 ·exact⟨_,_,_,.big j⟩
 by_cases b:0<=(jq s).2.2
 ·exact⟨_,_,_,.at_ (by omega) b (by unfold lK;rw[ab b])⟩
 by_cases e:(ed (jq s).2.1 6).2=true
 ·obtain⟨⟨i,m,l⟩,d⟩:∃g,jq s=g:=⟨_,rfl⟩;rw[d]at b e;have f:=aeq s (by rw[d];exact b);rw[d]at f;simp only at f b e;subst f;obtain⟨o,g,n,h⟩:=aj7 (by omega) d e;exact⟨_,_,_,.ok (toks:=i) (by omega) (by unfold lK;rw[d,aa (by simp),ab e]) h⟩
 ·exact⟨_,_,_,.at_ (z:=(s.size:Nat)) (by omega) (by omega) (by unfold lK;rw[aa b,aa e])⟩
theorem Bq(w:U)(s:ByteArray)(i:s.size<=1048576){c a:Int}{e:List Nd}(h:Out s c a e):A2 T 4 #[.string s] w (PsP w c a e):=by
 cases h with
 |big b=>exact Bp w s b i
 |at_ b g d=>exact D0 w s b g d
 |ok b d f=>exact D3 w s b d f
theorem iD{b:Func}{p q:Tmp}{u:A1}(h:b.results=#[.tmp p,.cell q u])(tmps:Array X)(P:Program)(w:U)(a:Addr)(v c:X)(e:tmps.getD p A6=v)(g:tmps.getD q A6= .pointer (O a))
  (d:(loadVar u a).run P w= .ok c w):(results b tmps).run P w= .ok (A5 #[v,c]) w:=by
 have f:tmps[p]?.getD A6=v:=by simpa using e
 have i:tmps[q]?.getD A6= .pointer (O a):=by simpa using g
 simp only[results,h];simp[Result.andThen,f,i,asAddr,d]
theorem oz(w:U)(b:Nat)(c n:Int)(h:ix b w c n):(loadVar 45 ⟨b,0,M⟩).run T w= .ok (.agg #[.int .i64 c,.int .i64 n]) w:=
 run_loadVar_row w b 45 45 _ _ _ h Tryz.underlying45 rfl (by kernel_rfl)
def vg(w:U)(a:List Nd)(e:Ending)(d:U):Prop:=
 Q w.heap.size w d/\
 (((cF a).1≠0/\e= .returned (A5 #[A7,A3 #[Y Z (cF a).1,Y Z (cF a).2]]))\/
  (cF a=(0,0)/\∃f g c b,e= .returned (A5 #[nV b,A3 #[Y Z 0,Y Z 0]])/\c[a.length-1]?=O b/\c.map Im.N=a/\js d f g c/\∀b∈c,bu w b.vn b.N.nm))
theorem Gn(w:U)(v:X)(b:List Nd)(h:cg w v b)(x:b.length<=1048576)(q:gB b=true):
  A2 T 14 #[A3 #[v]] w fun e G=>e= .returned (A5 #[A7,A3 #[Y Z 1,Y Z 0]])/\Q w.heap.size w G:=by
 obtain⟨H,I,rfl⟩:=h.form;have j:∀c d,Q w.heap.size w ((w.alloc c).alloc d):=fun c d=>((aj _ w).alloc (ah _) c).alloc (by simp) d;have t:∀c (i:Array X) (m:A1),((w.alloc c).alloc (S i m)).heap[w.heap.size+1]?=O (S i m (0,0)):=fun c i m=>by
  have:=aw (w.alloc c) (S i m);rw[ba]at this;exact this
 have r:=bc q;by_cases f:b.length=0
 ·rw[f];go_in;go_wp2;exact bB (iD rfl _ _ _ ⟨w.heap.size+1,0,M⟩ _ _ rfl rfl (oz _ _ 1 0 (t _ _ _))) rfl ⟨rfl,j _ _⟩
 by_cases g:3000<b.length
 ·obtain⟨a,l⟩:∃a:Nat,b.length=a+1:=⟨b.length-1,by omega⟩;rw[l]at g x⊢;have B:decide ((a:Int)<0)=false:=aD (by omega);have C:(3000:Int)<=(a:Int):=by omega
  have F:(0:Int)<=(a:Int):=by omega
  clear h q r f g l;go_in;go_wp2;exact bB (iD rfl _ _ _ ⟨w.heap.size+1,0,M⟩ _ _ rfl rfl (oz _ _ 1 0 (t _ _ _))) rfl ⟨rfl,j _ _⟩
 ·have E:(b.getD (b.length-1) AB).k≠1:=by rcases r with e|e|e;exact absurd e f;exact absurd e g;exact e
  have s:b.length-1<b.length:=by omega
  obtain⟨n,p⟩:∃n,b[b.length-1]?=O n:=⟨_,aI s⟩;rw[bm,p,gl]at E;obtain⟨A,rfl,af,ad,u⟩:=h.get p;have o:=u.c0;obtain⟨z,y⟩:=aA b.length;rw[y]at o f g x s⊢;obtain⟨a,l⟩:∃a:Nat,z=a+1:=⟨z-1,by omega⟩;subst l;rw[mh]at o;have J:((a+1:Nat):Int)-1=(a:Int):=by omega
  have F:(0:Int)<=(a:Int):=by omega
  have B:decide ((a:Int)<0)=false:=aD (by omega);have C:decide ((3000:Int)<=(a:Int))=false:=aD (by omega);have L:(a:Int)<(a:Int)+1:=by omega
  have K:∀c d,((w.alloc c).alloc d).cell? (A.add (a*9))=O (Y Z n.k):=fun c d=>cell_kept (j c d) o;clear h q r f g p u y s;go_in;go_wp2;exact bB (iD rfl _ _ _ ⟨w.heap.size+1,0,M⟩ _ _ rfl rfl (oz _ _ 1 0 (t _ _ _))) rfl ⟨rfl,j _ _⟩
structure Gp (w0:U) (lb mb:Nat) (vs:X) (L:List Im) (W:U):Prop where
 bl:Q w0.heap.size w0 W
 lk:Lk W lb mb vs
 ns:js W w0.heap.size vs L
theorem Gp.below{w0:U}{lb mb:Nat}{e:X}{c:List Im}{a d:U}(h:Gp w0 lb mb e c a)(b:Q a.heap.size a d):Gp w0 lb mb e c d:=
 ⟨h.bl.trans (b.mono h.bl.size),h.lk.below b,h.ns.below b⟩
theorem ix.keep{b a:Nat}{d e:U}{c n:Int}(h:ix b d c n)(f:Q a d e)(g:b<a):ix b e c n:=(f.block _ g).trans h
theorem aje(c:Nat):stT c≠45:=by
 unfold stT;split<;>decide
theorem js.setFt{a:U}{base:Nat}{k:X}{g:List Im}(h:js a base k g){b:Nat}{c n:Int}(l:ix b a c n)(i:b<base)(j:Nat)(v:X):js (a.setCell ⟨b,j,M⟩ v) base k g:=
 ⟨xK h.row i _,fun f d e=>(bh a ⟨b,j,M⟩ d.b v (oF (h.box f d e) (show a.heap[b]?=O (S #[Y Z c,Y Z n] 45 (0,0)) from l) (aje _))).trans (h.box f d e),fun f d e=>xK (h.kid f d e) i _,h.far,h.rng⟩
theorem js.putFt{a:U}{base:Nat}{i:X}{d:List Im}(h:js a base i d){b:Nat}{c n:Int}(g:ix b a c n)(f:b<base)(e j:Int):js ((a.setCell ⟨b,0,M⟩ (Y Z e)).setCell ⟨b,1,M⟩ (Y Z j)) base i d:=
 (h.setFt g f 0 _).setFt (c:=e) (n:=n) (cD _ b 0 _ _ _ g) f 1 _
structure akE (w:U) (v:X) (w0:U):Prop where
 tb:w0.heap[w.heap.size]?=O (.cells #[v] 25 (0,0))
 fb:ix (w.heap.size+1) w0 0 0
 bl:Q w.heap.size w w0
 sz:w0.heap.size=w.heap.size+1+1
theorem Gq(w:U)(v:X)(c:List Nd)(h:cg w v c)(ho:c.length<=1048576)(gb:∀N∈c,fx N)(fA:nI w)(c2:A1)(fr:Nat×Nat)(fg:w.heap[0]?=O (S eE c2 fr))
  (f4:∀q,Q w.heap.size w q->A4 T q "strings.asciiSpace" .u8 A0) (cr:gB c=false):
  A2 T 14 #[A3 #[v]] w (vg w c):=by
 obtain⟨hE,C,rfl⟩:=h.form;have bD:=ig cr;have bb:=gD h gb cr;have bs:=gD fA fg f4;have fc:¬c.length=0:=fun g=>bD (.inl g);have fe:¬3000<c.length:=fun g=>bD (.inr (.inl g));have cf:(c.getD (c.length-1) AB).k=1:=by
  by_cases E:(c.getD (c.length-1) AB).k=1
  ·exact E
  ·exact absurd (.inr (.inr E)) bD
 obtain⟨N,G⟩:∃N,c[c.length-1]?=O N:=⟨_,aI (by omega)⟩;rw[bm,G,gl]at cf;obtain⟨F,rfl,i1,io,fz⟩:=h.get G;have bp:=fz.c0;rw[cf]at bp;have fv:∀av a0,Q w.heap.size w ((w.alloc av).alloc a0):=fun av a0=>((aj _ w).alloc (ah _) av).alloc (by simp) a0;obtain⟨b3,cB⟩:=aA c.length;have K:Ax (c.length=b3):=cB;rw[cB]at bb bp fc fe⊢;obtain⟨a,hp⟩:∃a:Nat,b3=a+1:=⟨b3-1,by omega⟩;have f2:b3-1=a:=by omega
 rw[f2]at bp;have h8:a<3000:=by omega
 have h3:((a+1:Nat):Int)-1=(a:Int):=by omega
 have h9:(0:Int)<=(a:Int):=by omega
 have hL:decide ((a:Int)<0)=false:=aD (by omega);have h0:decide ((3000:Int)<=(a:Int))=false:=aD (by omega);have ih:(a:Int)<(a:Int)+1:=by omega
 have ha:∀av a0,((w.alloc av).alloc a0).cell? (F.add (a*9))=O (Y Z 1):=fun av a0=>cell_kept (fv av a0) bp;clear h cr bD fc fe cf G fz cB ho gb fA fg f4 f2 bp;subst hp;go_in;go_wp2_with fail;have dk:((w.alloc (S #[V (O F) (a+1) C] 25)).alloc (S #[Y Z 0,Y Z 0] 45)).heap[w.heap.size]?=O (S #[V (O F) (a+1) C] 25 (0,0)):=(dr _ _ _ (by simp)).trans (aw w _);have c7:ix (w.heap.size+1) ((w.alloc (S #[V (O F) (a+1) C] 25)).alloc (S #[Y Z 0,Y Z 0] 45)) 0 0:=by
  have:=aw (w.alloc (S #[V (O F) (a+1) C] 25)) (S #[Y Z 0,Y Z 0] 45);rw[ba]at this;exact this
 have l:Ax (akE w (V (O F) (a+1) C) ((w.alloc (S #[V (O F) (a+1) C] 25)).alloc (S #[Y Z 0,Y Z 0] 45))):=⟨dk,c7,fv _ _,by simp⟩;generalize (w.alloc (S #[V (O F) (a+1) C] 25)).alloc (S #[Y Z 0,Y Z 0] 45)=n at l⊢;clear dk c7 ha;have b0:=ax bs.out.2.1;have bt:Ax (nI n/\n.heap[0]?=O (S eE c2 fr)/\(∀q,Q n.heap.size n q->A4 T q "strings.asciiSpace" .u8 A0)):=
  ⟨bs.out.1.below l.out.bl (ah _),(l.out.bl.block _ b0).trans bs.out.2.1,fun q g8=>bs.out.2.2 q (l.out.bl.trans (g8.mono l.out.bl.size))⟩
 refine(AF (H:=Unit) n fr c2 bt.out.2.1).mono ?_;rintro g s ⟨rfl,cy,bE⟩;obtain⟨B,cz⟩:=aA n.heap.size;have hs:=l.out.sz;have g4:s.cell? ⟨w.heap.size,0,M⟩=O (V (O F) (a+1) C):=ch ((bE.block _ (by omega)).trans l.out.tb);have ht:=bE.size;have hu:w.heap.size<s.heap.size:=by omega
 have hv:w.heap.size≠s.heap.size:=by omega
 rw[cz]at cy⊢;have a3:=gD cy bE cz;clear cy bE cz b0 hs ht;go_wp2_with fail;have c6:=aw s (S #[.map (O B),V M 0 0] 93);have cs:Q s.heap.size s (s.alloc (S #[.map (O B),V M 0 0] 93)):=(aj _ s).alloc (ah _) _;have b4:Gp n s.heap.size B (V M 0 0) [] (s.alloc (S #[.map (O B),V M 0 0] 93)):=by
  have dp:=a3.out.2.1.trans (cs.mono a3.out.2.1.size);have hq:B<s.heap.size:=by
   obtain⟨h4,hK,hj,_⟩:=a3.out.1;exact ax hj
  exact⟨dp,⟨c6,qa a3.out.1 (cs.block _ hq),bt.out.1.below dp (ah _)⟩,⟨bk _ _ _ _,fun k d j=>by simp at j,fun k d j=>by simp at j,fun d j=>by simp at j,fun k d gd j=>by simp at j⟩⟩
 have cv:n.heap.size<=s.heap.size:=a3.out.2.1.size;generalize s.alloc (S #[.map (O B),V M 0 0] 93)=g0 at b4⊢;obtain⟨ar,fB⟩:=aA s.heap.size;rw[fB]at b4 cv⊢;have gm:Ax (n.heap.size<=ar):=cv;obtain⟨bf,cp⟩:=aA (gA (eu c) (a+1) 0);have cb:Ax (gA (eu c) (a+1) 0=bf):=cp;have c8:ti (eu c) (a+1-0) 0 bf:=⟨cp⟩;have dd:Ax (Gp n ar B (V M 0 0) [] g0):=b4;clear cp g4 hu hv a3 c6 cs b4 fB cv;go_loopw [37] (fun c4 wr=>∃(f:Nat) (i:List Im) (b5:X),f<=a+1/\c4= Y Z f/\ti (eu c) (a+1-f) f bf/\Ax (Gp n ar B b5 i wr/\i.length=f/\i.map Im.N=c.take f/\∀d∈i,bu w d.vn d.N.nm)) (fun c4 _=>a+1-(intOf c4).toNat)
 case atStart=>exact⟨0,[],_,be _,rfl,c8,dd.out,rfl,rfl,fun d j=>by simp at j⟩
 case round=>
  obtain⟨f,i,b5,h5,rfl,b9,e⟩:=hrel;clear dd c8;have r:=b9.out;by_cases b0:f<a+1
  ·obtain⟨p,a5⟩:=bj K.out b0;have h7:(f:Int)<(a:Int)+1:=by omega
   have h6:(0:Int)<=(f:Int):=by omega
   obtain⟨hH,g9,i2,iv,hc⟩:=bb.out.1.get a5;obtain rfl:=db g9;have A:Q w.heap.size w wr:=l.out.bl.trans (e.out.1.bl.mono l.out.bl.size);obtain⟨ds,dz,d9,ec,ef,eg,eh,ei,el,b1,ct⟩:=hc;obtain⟨dn,dq,rfl⟩:=b1.form;obtain⟨hI,hJ,rfl⟩:=ct.form;have eo:=cell_kept A ds;have ep:=cell_kept A dz;have eq:=cell_kept A d9;have et:=cell_kept A ec;have ev:=cell_kept A ef;have ex:=cell_kept A eg;have eF:=cell_kept A eh;have cc:=cell_kept A ei;have ce:=cell_kept A el;have bn:∀af,Q wr.heap.size wr (wr.alloc af):=fun af=>(aj _ wr).alloc (ah _) af;have ap:=fun af=>adL n (wr.alloc af) bt.out.1 (e.out.1.bl.trans ((bn af).mono e.out.1.bl.size)) ar B gm.out b5 i (e.out.1.lk.below (bn af)) (e.out.1.ns.below (bn af)) p _ _ (b1.below l.out.bl) (ct.below l.out.bl) (bb.out.2.1 p (bC a5)) (by rw[e.out.2.1];omega) c (by rw[e.out.2.1];exact e.out.2.2.1) (by rw[e.out.2.1];exact a5) bt.out.2.2;rw[show a+1-f=(a+1-(f+1))+1 by omega,gA]at r;have fa:eu c f=!(gG c f p):=by unfold eu;rw[bm,a5];rfl
   have e9:Bm c i.length p=gG c f p:=by rw[agE,e.out.2.1]
   rw[fa]at r;unfold dj at ap;have bd:Ax (Bm c i.length p=gG c f p):=e9;have gf:Ax (c[f]?=O p):=a5;obtain⟨gv,co⟩:=aA p.nm.length;obtain⟨hD,fk⟩:=aA p.ks.length;have ca:Ax (bu w (V dn p.nm.length dq) p.nm):=b1;rw[co]at ap cc;replace ca:Ax (bu w (V dn gv dq) p.nm):=by rw[<-co];exact ca
   rw[fk]at ap ce;clear ds dz d9 ec ef eg eh ei el b1 ct a5 e9 fa co fk b9;cases j:gG c f p with
   |true=>
    rw[j]at r bd;rw[aa (by decide)]at r;have ge:ti (eu c) (a+1-(f+1)) (f+1) bf:=⟨r⟩;clear r j;go_wp2_with fail;refine(ap _).mono ?_;rintro g t ⟨rfl,m,b2⟩;rw[bd.out];obtain⟨hw,d,f7,br,f8,f9⟩:=b2 bd.out;have gt:Ax (Gp n ar B hw (i++[d]) t/\(i++[d]).length=f+1/\(i++[d]).map Im.N=c.take (f+1)/\∀b7∈i++[d],bu w b7.vn b7.N.nm):=
     ⟨⟨m,f8,f9⟩,by rw[aC,e.out.2.1];rfl,by rw[en,e.out.2.2.1,dG,gf.out];simp[f7],fun b7 hy=>by
      rcases List.mem_append.1 hy with hy|hy
      ·exact e.out.2.2.2 b7 hy
      ·obtain rfl:=List.mem_singleton.1 hy;rw[f7,br];exact ca.out⟩
    clear ap b2 m f8 f9 e eo ep eq et ev ex eF cc ce A bn;go_wp2_with fail;exact⟨⟨f+1,_,_,by omega,by go_num,ge,gt⟩,by simp[intOf];omega⟩
   |false=>
    rw[j]at r bd;rw[ab (by decide)]at r;have u:Ax (cF c=(2,(f:Int))):=by
     show cF c=(2,(f:Int));unfold cF;rw[bb.out.2.2,aa (by decide),K.out,cb.out,<-r];rfl
    clear r j;go_wp2_with fail;refine(ap _).mono ?_;rintro g t ⟨rfl,m,b2⟩;rw[bd.out];have z:=l.out.fb.keep m (by rw[l.out.sz];omega);obtain⟨am,bx,bA⟩:=il z;have I:Ax (ix (w.heap.size+1) t 0 0/\Q w.heap.size w t):=⟨z,l.out.bl.trans (m.mono l.out.bl.size)⟩;clear ap b2 m z e eo ep eq et ev ex eF cc ce A bn;go_wp2_with fail;exact bB (iD rfl _ _ _ ⟨w.heap.size+1,0,M⟩ _ _ rfl rfl (oz _ _ 2 f (nh I.out.1 2 f))) rfl ⟨(I.out.2.setCell (by simp) _).setCell (by simp) _,.inl ⟨(by rw[u.out];intro g;simp at g),(by rw[u.out];rfl)⟩⟩
  ·obtain rfl:f=a+1:=by omega
   rw[gj,gA]at r;have gs:Ax (bf=M):=r.symm;have fq:=ng (show gA (eu c) (a+1) 0=M by rw[cb.out];exact r.symm);have a4:i.map Im.N=c:=by rw[e.out.2.2.1];exact cw (by rw[K.out];exact ah _)
   have fu:∀(k:Nat) d,i[k]?=O d->c[k]?=O d.N:=fun k d j=>by rw[<-a4,cj,j];rfl
   have cu:∀d∈i,d.N.ks.length<=200:=fun d j=>by
    obtain⟨k,bF,g⟩:=fH j;have G:c[k]?=O d.N:=fu k d (by rw[aI bF,g]);have bF:k<a+1:=by rw[<-K.out];exact(List.getElem?_eq_some_iff.1 G).1
    have cl:=fq k (be _) (by omega);unfold eu at cl;rw[bm,G,gl]at cl;have cm:gG c k d.N=true:=by simpa using cl
    unfold gG Bg at cm;rw[aB]at cm;exact(bc cm.1).2.2.2
   have fo:xo (gC c):=sL c (fun N G gd ad=>by
    rw[<-a4]at G;obtain⟨d,j,rfl⟩:=List.mem_map.1 G;obtain⟨k,bF,g⟩:=fH j;exact(e.out.1.ns.rng k d gd (by rw[aI bF,g]) ad).1)
   obtain⟨E,bw,rfl⟩:∃E C,b5= V (O ⟨E,0,M⟩) (a+1) C:=by
    rcases bq e.out.1.ns.row with⟨h,_⟩|h
    ·rw[e.out.2.1]at h;omega
    ·rw[e.out.2.1]at h;exact h
   have b8:wr.cell? ⟨ar,1,M⟩=O (V (O ⟨E,0,M⟩) (a+1) bw):=by rw[az _ _ _ _ _ _ e.out.1.lk.b];rfl
   have y:=Au wr n.heap.size _ i e.out.1.ns c a4 (a+1) e.out.2.1 (by omega) (by omega) cu;have c9:Ax (∀q,Q wr.heap.size wr q->A2 T 36 #[V (O ⟨E,0,M⟩) (a+1) bw] q fun g hA=>g= .returned (Ke (gA (gK (Du c)) (a+1) 0))/\Q q.heap.size q hA):=
    fun q g7=>Bo q n.heap.size _ i (e.out.1.ns.below g7) c a4 (a+1) e.out.2.1 (by omega) (by omega) cu
   obtain⟨df,cq⟩:=aA (gA (fI (gC c)) (a+1) 0);have x:cF c=tf3 (gC c) (Du c) (a+1) df:=by
    unfold cF;rw[bb.out.2.2,aa (by decide),K.out,cb.out,gs.out];show tf3 (gC c) (Du c) (a+1) (gA (fI (gC c)) (a+1) 0)=_;rw[cq]
   rw[cq]at y;have hg:=l.out.sz;have am:=l.out.fb.keep e.out.1.bl (by rw[l.out.sz];omega);have o:Ax (Gp n ar B (V (O ⟨E,0,M⟩) (a+1) bw) i wr/\ix (w.heap.size+1) wr 0 0/\i.map Im.N=c/\i.length=a+1/\Q w.heap.size w wr):=⟨e.out.1,am,a4,e.out.2.1,l.out.bl.trans (e.out.1.bl.mono l.out.bl.size)⟩;have gr:Ax (∀d∈i,bu w d.vn d.N.nm):=e.out.2.2.2;have a7:=aeg fo (ii c) (by rw[K.out];omega);rw[K.out,mh]at a7;clear r fq fu cu fo b9 e am cq a4 hg;cases df with
   |some k=>
    have u:Ax (cF c=(3,(k:Int))):=x;unfold DJ at y;clear x a7;go_wp2_with fail;refine y.mono ?_;rintro g t ⟨rfl,m⟩;have z:=o.out.2.1.below m;obtain⟨am,bx,bA⟩:=il z;have I:Ax (ix (w.heap.size+1) t 0 0/\Q w.heap.size w t):=⟨z,o.out.2.2.2.2.trans (m.mono o.out.2.2.2.2.size)⟩;clear m z y b8;go_wp2_with fail;exact bB (iD rfl _ _ _ ⟨w.heap.size+1,0,M⟩ _ _ rfl rfl (oz _ _ 3 k (nh I.out.1 3 k))) rfl ⟨(I.out.2.setCell (by simp) _).setCell (by simp) _,.inl ⟨(by rw[u.out];intro g;simp at g),(by rw[u.out];rfl)⟩⟩
   |none=>
    rw[tf3,mh]at x;unfold DJ at y;rw[mh]at y;have g6:((a+1:Nat):Int)-1=(a:Int):=by omega
    rw[g6]at y x;by_cases ad:(gC c).getD a 0<((a+1:Nat):Int)
    ·rw[ab (a7.2 ad)]at x;rw[bG ad]at y;have u:Ax (cF c=(3,(a:Int))):=x;clear x a7 ad;go_wp2_with fail;refine y.mono ?_;rintro g t ⟨rfl,m⟩;have z:=o.out.2.1.below m;obtain⟨am,bx,bA⟩:=il z;have I:Ax (ix (w.heap.size+1) t 0 0/\Q w.heap.size w t):=⟨z,o.out.2.2.2.2.trans (m.mono o.out.2.2.2.2.size)⟩;clear m z y b8;go_wp2_with fail;exact bB (iD rfl _ _ _ ⟨w.heap.size+1,0,M⟩ _ _ rfl rfl (oz _ _ 3 a (nh I.out.1 3 a))) rfl ⟨(I.out.2.setCell (by simp) _).setCell (by simp) _,.inl ⟨(by rw[u.out];intro g;simp at g),(by rw[u.out];rfl)⟩⟩
    ·rw[aa (fun h=>ad (a7.1 h))]at x;rw[aD ad]at y;obtain⟨gz,fn⟩:=aA (gA (gK (Du c)) (a+1) 0);rw[fn]at x c9;clear a7 ad fn;go_wp2_with fail;refine y.mono ?_;rintro g t ⟨rfl,m⟩;have a8:=c9.out t m;have c5:=cell_kept m b8;clear y b8;cases gz with
     |some k=>
      have u:Ax (cF c=(4,(k:Int))):=x;unfold Ke at a8;clear x;have a9:Ax (Q wr.heap.size wr t):=m;clear m;go_wp2_with fail;refine a8.mono ?_;rintro g a1 ⟨rfl,a6⟩;have L:=a9.out.trans (a6.mono a9.out.size);have ao:=o.out.2.1.below L;obtain⟨am,bx,bA⟩:=il ao;have J:Ax (ix (w.heap.size+1) a1 0 0/\Q w.heap.size w a1):=⟨ao,o.out.2.2.2.2.trans (L.mono o.out.2.2.2.2.size)⟩;clear a6 L ao a8 c5;go_wp2_with fail;exact bB (iD rfl _ _ _ ⟨w.heap.size+1,0,M⟩ _ _ rfl rfl (oz _ _ 4 k (nh J.out.1 4 k))) rfl ⟨(J.out.2.setCell (by simp) _).setCell (by simp) _,.inl ⟨(by rw[u.out];intro g;simp at g),(by rw[u.out];rfl)⟩⟩
     |none=>
      have u:Ax (cF c=(0,0)):=x;unfold Ke at a8;clear x;have a9:Ax (Q wr.heap.size wr t):=m;clear m;go_wp2_with fail;refine a8.mono ?_;rintro g a1 ⟨rfl,a6⟩;have L:=a9.out.trans (a6.mono a9.out.size);have i3:=cell_kept a6 c5;have ao:=o.out.2.1.below L;have c1:=o.out.1.ns.below L;obtain⟨d,j⟩:=bj o.out.2.2.2.1 (show a<a+1 by omega);have g5:a1.cell? ⟨E,a,M⟩=O (nV d):=by have f3:=c1.row;rw[o.out.2.2.2.1]at f3;rw[f3.cellAt a (by omega),cj,j];rfl
      obtain⟨am,bx,bA⟩:=il ao;have J:Ax (ix (w.heap.size+1) a1 0 0/\Q w.heap.size w a1/\js a1 n.heap.size (V (O ⟨E,0,M⟩) (a+1) bw) i/\i[a]?=O d):=⟨ao,o.out.2.2.2.2.trans (L.mono o.out.2.2.2.2.size),c1,j⟩;obtain⟨hC,br⟩:=aA (nV d);rw[br]at g5;have gu:Ax (nV d=hC):=br;clear a6 L ao a8 c5 c1 j br;go_wp2_with fail;exact bB (iD rfl _ _ _ ⟨w.heap.size+1,0,M⟩ _ _ rfl rfl (oz _ _ 0 0 (nh J.out.1 0 0))) rfl ⟨(J.out.2.1.setCell (by simp) _).setCell (by simp) _,.inr ⟨u.out,n.heap.size,_,i,d,by rw[gu.out];rfl,by rw[K.out,mh];exact J.out.2.2.2,o.out.2.2.1,J.out.2.2.1.putFt J.out.1 (by rw[l.out.sz];omega) 0 0,gr.out⟩⟩
theorem Av(w:U)(v:X)(a:List Nd)(h:cg w v a)(d:a.length<=1048576)(k:∀N∈a,fx N)(i:nI w)(e:A1)(fr:Nat×Nat)(f:w.heap[0]?=O (S eE e fr))
  (j:∀b,Q w.heap.size w b->A4 T b "strings.asciiSpace" .u8 A0):
  A2 T 14 #[A3 #[v]] w (vg w a):=by
 cases hb:gB a with
 |true=>
  have c:cF a=(1,0):=by unfold cF;rw[ab hb]
  refine(Gn w v a h d hb).mono ?_;rintro l m ⟨rfl,g⟩;exact⟨g,.inl ⟨by rw[c];decide,by rw[c]⟩⟩
 |false=>exact Gq w v a h d k i e fr f j hb
