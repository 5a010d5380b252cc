import Derived.Test.YtoahhnnflblfaaaGreatDoorHVk25
import Derived.Test.YtoahhnnflblfaaaGreatDoorHVk31
import Derived.Test.YtoahhnnflblfaaaGreatDoorHVk35
set_option linter.all false
set_option maxRecDepth 100000
set_option maxHeartbeats 12800000
open Go renaming undef->M,World->V,Value->A0,grownBy_putObj'->A2,wpAnyH_ready->A5,TypeId->A6,Calls->A7
open Option renaming none->O,some->Q
open Go.World renaming putObj_heap_other->T
open Go.KeepsOthers renaming setCell->U
open Go.Proofs.Tryz renaming prog->X
open List renaming set->Y,replicate->A3
open Bool renaming false->Z,true->A8
open Go.RowKit renaming Below->Ax
open Go.Value renaming pointer->A1,int->A4,bool->A9,nilIface->Br,tuple->B0
namespace Go.Proofs.YtoahhnnflblfaaaGreatDoor
open Go.RowKit
def PM(E:Pe):wF->Nat->Fo->Nat->Prop
 | .unit,i,R,j=>CI E 130 #[pV E] i R j
 | .expr p,i,R,j=>CX E p i R j
 | .more p s x,i,R,j=>∃m,Ms E (CX E) p s m x i R j
 | .base,i,R,j=>CB E i R j
 | .post s x,i,R,j=>∃m,Ps E (Jh E) (CLx E) s m x i R j
 | .exprs,i,R,j=>CLx E i R j
 | .moreE,i,R,j=>∃m,Ls E (Jh E) m i R j
 | .moreB,i,R,j=>∃m,Ls E (CB E) m i R j
 | .stat,i,R,j=>CSt E i R j
 | .stats,i,R,j=>∃m,Ss E (CSt E) m i R j
 | .block,i,R,j=>CI E 84 #[pV E] i R j
 | .body s,i,R,j=>CI E 92 #[pV E,.agg (dE (nN 36 s) s0 s0)] i R j
 | .entry,i,R,j=>CEn E i R j
 | .entries,i,R,j=>∃m,Es E (CEn E) m i R j
 | .branch,i,R,j=>CI E 93 #[pV E,.agg (jL (E.tk i).k (E.tk i))] (i+1) R j
theorem alv{k:Int}(h:k=5\/k=6\/k=43):dJ k=Z:=by rcases h with rfl|rfl|rfl<;>decide
theorem alw{k:Int}(h:jk k=A8):k=25\/k=50\/k=62\/k=69:=by
 have:=aH h;omega
theorem acm{E:Pe}(x:∀q,(E.tk q).k<=78){t:wF}{i j:Nat}{R:Fo}(h:P E.tk E.n t i R j):PM E t i R j:=by
 induction h with
 |upre a b d c=>have:=d.pos;simp only[fh]at this;exact ael (alw a) rfl b c (by omega) (by omega)
 |uint a b=>exact xw (.inl ⟨rfl,rfl,rfl,rfl⟩) a b
 |uflt a b=>exact xw (.inr (.inl ⟨rfl,rfl,rfl,rfl⟩)) a b
 |ustr a b=>exact xw (.inr (.inr ⟨rfl,rfl,rfl,rfl⟩)) a b
 |unil a b=>exact tw (.inl ⟨rfl,rfl⟩) a b
 |utru a b=>exact tw (.inr (.inl ⟨rfl,rfl⟩)) a b
 |ufls a b=>exact tw (.inr (.inr (.inl ⟨rfl,rfl⟩))) a b
 |urst a b=>exact tw (.inr (.inr (.inr ⟨rfl,rfl⟩))) a b
 |ufn a b d c=>exact ahE a b c
 |utab a b d e f c=>obtain⟨g,c⟩:=c;exact aeI a b c e f
 |ubas a b d c=>exact abJ a rfl b c
 |ex a b d e m o=>obtain⟨g,c⟩:=o;exact aky a b x m c
 |mstop a b=>exact⟨0,.stop a b⟩
 |mgo a b d e f o u=>obtain⟨g,c⟩:=u;have:=e.pos;simp only[fh]at this;exact⟨g+1,.go a b d o (by omega) (by omega) c⟩
 |bname a b d c=>obtain⟨g,c⟩:=c;have:=d.pos;simp only[fh]at this;exact aeu a b (by omega) c
 |bopen a b d e f l m r=>obtain⟨g,c⟩:=r;have:=d.pos;have:=l.pos;simp only[fh]at *;exact aev a b m e (by omega) (by omega) c
 |pstop a b=>exact⟨0,.stop a b⟩
 |pdot a b d e c=>obtain⟨g,c⟩:=c;have:=e.pos;exact⟨g+1,.dot a b (by omega) c⟩
 |psq a b d e f l m r=>obtain⟨g,c⟩:=r;have:=d.pos;simp only[fh]at this;have:=l.pos;exact⟨g+1,.sq a b m e (by omega) c⟩
 |pcall0 a b d e c=>obtain⟨g,c⟩:=c;have:=e.pos;exact⟨g+1,.call0 a b (by omega) c⟩
 |pcall a b d e f l p o s=>obtain⟨g,c⟩:=s;have:=e.pos;simp only[fh]at this;have:=p.pos;exact⟨g+1,.call a b d o f (by omega) c⟩
 |es a b z A=>obtain⟨g,c⟩:=A;exact ahG z c
 |estop a b=>exact⟨0,.stop a b⟩
 |ego a b d e m o=>obtain⟨g,c⟩:=o;exact⟨g+1,.go a b m c⟩
 |bstop a b=>exact⟨0,.stop a b⟩
 |bgo a b d e m o=>obtain⟨g,c⟩:=o;exact⟨g+1,.go a b m c⟩
 |@body i k j af J L I a b d e c=>
  obtain⟨g,F,G,K,H⟩:=Pt.of d;have:=e.pos;simp only[fh]at this;obtain⟨w,rfl⟩:∃w,k=w+1:=⟨k-1,by omega⟩;exact akA a b F G H c (by omega) (by omega)
 |block a b d e f c=>obtain⟨g,c⟩:=c;exact ahF a b (LJ (.inl rfl) e c) e f
 |sstop a b=>exact⟨0,.stop b⟩
 |ssep a b d c=>obtain⟨g,c⟩:=c;exact⟨g+1,.sep a b c⟩
 |sgo a b d e f l u r=>obtain⟨g,c⟩:=r;exact⟨g+1,.go a b d e u c⟩
 |nstop a b=>exact⟨0,.stop a b⟩
 |ncom a b d e f l m r=>obtain⟨g,c⟩:=r;exact⟨g+1,.com a b m e f c⟩
 |nlast a b d e f l m r=>obtain⟨g,c⟩:=r;exact⟨g+1,.last a b m e f c⟩
 |item a b d e f c=>have:=f.pos;simp only[fh]at this;exact Ju a b d e c (by omega) (by omega)
 |pair a b d e f l p m s=>have:=d.pos;have:=p.pos;simp only[fh]at *;exact Jv a b m e f l s (by omega) (by omega)
 |named a b d e f c=>have:=f.pos;simp only[fh]at this;exact Hj a b d e c (by omega) (by omega)
 |belif a b d e f l p m o s=>have:=d.pos;have:=e.pos;have:=p.pos;simp only[fh]at *;exact Hg a rfl b m o l f (by have q:CI E 93 #[pV E,.agg (jL (E.tk _).k (E.tk _))] (_+1) _ _:=s;rw[f]at q;exact q) (by omega) (by omega)
 |belse a b d e f l p m o s=>have:=d.pos;have:=e.pos;have:=p.pos;simp only[fh]at *;exact Hh a rfl b m o l f s (by omega) (by omega)
 |bno a b d e f l p m o=>have:=d.pos;have:=e.pos;simp only[fh]at *;exact ab5 a rfl b m o p f l (by omega)
 |tlet0 a b d e f=>have:=e.pos;exact abK a (by omega) (tz d b e) (by omega) (by omega) f
 |tlet a b d e f l c=>have:=e.pos;have:=l.pos;simp only[fh]at *;exact aeo a (by omega) (tz d b e) (by omega) (by omega) f c (by omega) (by omega)
 |@tcon i j ak a b d e f c=>have:=f.pos;simp only[fh]at *;exact Jm a (by omega) (tz b (by omega) (.stop (by rw[d];decide) (by omega))) (by omega) (by omega) d c (by omega) (by omega)
 |tfn a b d e f c=>have:=f.pos;simp only[fh]at *;exact ahK a b d e c (by omega) (by omega)
 |tif a b d c=>exact ahH a b (by have q:CI E 93 #[pV E,.agg (jL (E.tk _).k (E.tk _))] (_+1) _ _:=c;rw[a]at q;exact q)
 |twhile a b d e m o=>have:=d.pos;have:=e.pos;simp only[fh]at *;exact Jl a b m o (by omega) (by omega)
 |tfor a b d e f l p r s=>have:=e.pos;have:=l.pos;have:=p.pos;simp only[fh]at *;exact G4 a (by omega) (aeH a (by omega) (tz d b e) (by omega) f r s (by omega) (by omega))
 |teach a b d e f l p v y r C=>have:=e.pos;have:=l.pos;have:=y.pos;simp only[fh]at *;exact G4 a (by omega) (ab6 a (by omega) (tz d b e) (by omega) f r C (by omega) (by omega))
 |tbreak a b=>exact Dl (.inl ⟨rfl,rfl⟩) a b
 |tnext a b=>exact Dl (.inr ⟨rfl,rfl⟩) a b
 |tret0 a b d=>exact abL a b (alv d)
 |tret a b d e c=>have:=e.pos;simp only[fh]at *;exact aep a b d c (by omega) (by omega)
 |ttry a b d e f l p v m B=>have:=d.pos;have:=p.pos;have:=v.pos;simp only[fh]at *;exact aeq a b m e f (tz l f p) B (by omega) (by omega)
 |tthrow a b d c=>have:=d.pos;simp only[fh]at *;exact Ji a b c (by omega) (by omega)
 |tdefer a b d c=>have:=d.pos;simp only[fh]at *;exact Jj a b c (by omega) (by omega)
 |tblock a b d c=>exact Jk a b c
 |tdo a b d e f l c=>have:=d.pos;simp only[fh]at *;exact yd a rfl b (ab1 a rfl b c e f l (by omega))
 |tset a b d e f l p m o s=>obtain⟨g,o⟩:=o;have:=d.pos;have:=e.pos;have:=p.pos;simp only[fh]at *;exact yd a rfl b (Jr a rfl b m o f l s (by omega) (by omega) (by omega))
open Go.Maps Go.WideMaps
theorem row3{w:V}{r:Nat}{a b c:A0}{t:A6}(h:w.heap[r]?=Q (.cells #[a,b,c] t (0,0))):w.cell? ⟨r,0,O⟩=Q a/\w.cell? ⟨r,1,O⟩=Q b/\w.cell? ⟨r,2,O⟩=Q c/\∀j,w.frozen? ⟨r,j,O⟩=Z:=
 ⟨by rw[ay _ _ _ _ _ _ h];rfl,by rw[ay _ _ _ _ _ _ h];rfl,by rw[ay _ _ _ _ _ _ h];rfl,fun j=>dI _ _ _ _ _ h⟩
theorem set3{w:V}{r:Nat}{d e f:A0}{t:A6}(h:w.heap[r]?=Q (.cells #[d,e,f] t (0,0)))(a b c:A0):(((w.setCell ⟨r,0,O⟩ a).setCell ⟨r,1,O⟩ b).setCell ⟨r,2,O⟩ c).heap[r]?=Q (.cells #[a,b,c] t (0,0)):=
 cE _ r 2 _ _ _ (cE _ r 1 _ _ _ (cE _ r 0 _ _ _ h))
theorem anf{w:V}{r k:Nat}(h:k≠r)(a b c:A0):(((w.setCell ⟨r,0,O⟩ a).setCell ⟨r,1,O⟩ b).setCell ⟨r,2,O⟩ c).heap[k]?=w.heap[k]?:=
 (bh _ _ _ _ h).trans ((bh _ _ _ _ h).trans (bh _ _ _ _ h))
theorem agf{a w:V}{r:Nat}(h:Ax r a w)(b c f:A0):Ax r a (((w.setCell ⟨r,0,O⟩ b).setCell ⟨r,1,O⟩ c).setCell ⟨r,2,O⟩ f):=by
 have d:Ax r a (w.setCell ⟨r,0,O⟩ b):=h.setCell (ag _) _;have e:Ax r a ((w.setCell ⟨r,0,O⟩ b).setCell ⟨r,1,O⟩ c):=d.setCell (ag _) _;exact e.setCell (ag _) _
theorem Fm(w:V):co w (.slice O 0 0) []:= .inl ⟨rfl,_,_,rfl⟩
theorem CE(w:V)(s:ByteArray)(c:65536<s.size)(b:s.size<=1048576):A7 X 5 #[.string s] w (PsP w 2 0 []):=by
 have d:∀w:V,(zeroValue 28).run X w= .ok (.agg #[.int .i64 0,.int .i64 0,.slice O 0 0]) w:=fun w=>by kernel_rfl
 have a:(65536:Int)<(s.size:Int):=by omega
 go_in;go_wp2_with fail;exact bB (ir rfl _ _ w.heap.size _ _ _ _ rfl (ar w _) Tryz.underlying28 rfl (by kernel_rfl)) rfl (show PsP _ _ _ _ _ _ from⟨_,rfl,Fm _,bI w _⟩)
theorem Fn(w:V)(s:ByteArray)(i:s.size<=65536){d:Int}(v:0<=d)(f:kD s=([],d)):A7 X 5 #[.string s] w (PsP w 1 d []):=by
 have u:∀w:V,(zeroValue 28).run X w= .ok (.agg #[.int .i64 0,.int .i64 0,.slice O 0 0]) w:=fun w=>by kernel_rfl
 have t:¬(65536:Int)<(s.size:Int):=by omega
 have a:=fun w=>rv w s i;unfold TkP at a;rw[f]at a;clear f;have b:=bI w (.cells #[.int .i64 0,.int .i64 0,.slice O 0 0] 28);have c:=ar w (.cells #[.int .i64 0,.int .i64 0,.slice O 0 0] 28);go_in;go_wp2_with fail;generalize w.alloc (.cells #[.int .i64 0,.int .i64 0,.slice O 0 0] 28)=k at b c⊢;refine(a _).mono ?_;rintro q j ⟨l,m,rfl,_,e⟩;have g:=(e.block _ (au c)).trans c;have h:Ax w.heap.size w j:=b.trans (e.mono b.size);obtain⟨n,o,p,r⟩:=row3 g;clear a;go_wp2_with fail;exact bB (ir rfl _ _ w.heap.size _ _ _ _ rfl (set3 g _ _ _) Tryz.underlying28 rfl (by kernel_rfl)) rfl (show PsP _ _ _ _ _ _ from⟨_,rfl,Fm _,agf h _ _ _⟩)
theorem Fp(w:V)(s:ByteArray)(b8:s.size<=65536){d:List Tk}{m:Nat}{R:Fo}{cb:Int}(ba:kD s=(d, -1))(a4:PF s d m R cb):A7 X 5 #[.string s] w (PsP w (okC (uE s R)) 0 (okN (uE s R))):=by
 have cy:∀w:V,(zeroValue 28).run X w= .ok (.agg #[.int .i64 0,.int .i64 0,.slice O 0 0]) w:=fun w=>by kernel_rfl
 have cu:¬(65536:Int)<(s.size:Int):=by omega
 have z:=fun w=>rv w s b8;unfold TkP at z;rw[ba]at z;clear ba;obtain⟨g,am⟩:=aA d.length;have a:=eH a4 am;simp only[am]at z;clear a4 am;have L:=bI w (.cells #[.int .i64 0,.int .i64 0,.slice O 0 0] 28);have an:=ar w (.cells #[.int .i64 0,.int .i64 0,.slice O 0 0] 28);go_in;go_wp2_with fail;generalize w.alloc (.cells #[.int .i64 0,.int .i64 0,.slice O 0 0] 28)=cf at L an⊢;refine(z _).mono ?_;rintro bA b ⟨q,f,rfl,bq,a7⟩;have ao:=(a7.block _ (au an)).trans an;have a9:Ax w.heap.size w b:=L.trans (a7.mono L.size);have bk:g=m+1:=by rw[<-a.out.2];exact a.out.1.len
 obtain⟨j,F,rfl,bj,bb⟩:∃j F,q=Q ⟨j,0,O⟩/\b.heap[j]?=Q (.cells F 88 (0,0))/\TkR F (uD d) g:=by
  rcases bq.2 with⟨_,k⟩|⟨bE,ck,bx,ca,cr,b4,cm,cp,cq,b1⟩
  ·omega
  ·cases ca;exact⟨bE,bx,rfl,b4,alh b1 a.out.2 (fun cc ce bl=>by rw[Bq bl];exact⟨rfl,fun _=>rfl⟩)⟩
 obtain⟨cc,hS⟩:PM ⟨b.heap.size,b.heap.size+1,j,f,g,uD d⟩ .stats 0 R m:=acm (E:=⟨b.heap.size,b.heap.size+1,j,f,g,uD d⟩) a.out.1.k78 (bk ▸ a.out.1.p);have bp:=ahJ s b j f g m (uD d) F (0,0) bj bb (by have:=a.out.1.le;omega) (by omega) (R:=R) (LJ (E:=⟨b.heap.size,b.heap.size+1,j,f,g,uD d⟩) (.inr rfl) (by show(uD d m).k=6;rw[a.out.1.end_]) hS) (by have:=a.out.1.sz;omega);clear hS;clear z bq bj bb bk;go_wp2_with fail;refine bp.mono ?_;rintro bA e ⟨br,a6,rfl,a1,al,a8⟩;have a2:co e br (uE s R):=by have:=a1.nds;rw[al]at this;exact this
 have x:=(a8.block _ (au ao)).trans ao;have af:Ax w.heap.size w e:=a9.trans (a8.mono a9.size);obtain⟨r,A,u,rfl⟩:∃q g f,br= .slice q g f:=by obtain⟨q,f,G⟩:=a2.form;exact⟨q,_,f,G⟩
 have b5:=a.out.1.ct;have b7:(uE s R).length<=1048576:=by
  have:=a.out.1.sz;unfold uE;rw[Fo.flat_len,aJ];omega
 have a0:=fun l=>rm (e.alloc l) (.slice r A u) (uE s R) (a2.below (bI e l)) b7 a.out.1.sm;have a5:Hid (Lw e b.heap.size (.slice r A u) a6/\a6.map Mb.N=uE s R):=⟨a1,al⟩;have n:Hid (okC (uE s R)=(if(cF (uE s R)).1=0 then 0 else 2)/\okN (uE s R)=(if(cF (uE s R)).1=0 then uE s R else [])):=⟨rfl,rfl⟩;obtain⟨I,ap⟩:=aA ((cF (uE s R)).1);obtain⟨C,bo⟩:=aA ((cF (uE s R)).2);rw[ap]at n;simp only[ap,bo]at a0;have bd:=ar e (.cells #[.slice r A u] 26);have v:=bI e (.cells #[.slice r A u] 26);have b9:=v.size;clear bp a2 ap bo b5 a1 al;go_wp2_with fail;refine cd (a0 _) fun c t=>?_;have bf:=(t.block _ (au bd)).trans bd;have bn:=(t.block _ (au ((v.block _ (au x)).trans x))).trans ((v.block _ (au x)).trans x);have H:Ax w.heap.size w c:=(af.trans (v.mono af.size)).trans (t.mono (dh af.size b9));have cn:=au bf;clear a0;have B:∀(i:Nat)(J:Array A0)(a3:A6)(K:Nat×Nat)(l:Obj),c.heap[i]?=Q (.cells J a3 K)->(c.alloc l).heap[i]?=Q (.cells J a3 K):=fun i J a3 K l G=>((bI c l).block _ (au G)).trans G;have cx:w.heap.size≠e.heap.size:=by have:=au x;omega
 by_cases k:I=0
 ·subst k;have y:=B _ _ _ _ (.cells #[.int .i64 0,.int .i64 C] 48) bn;obtain⟨bs,bt,bw,bD⟩:=row3 y;have cz:(c.alloc (.cells #[.int .i64 0,.int .i64 C] 48)).cell? ⟨e.heap.size,0,O⟩=Q (.slice r A u):=by rw[ay _ _ _ _ _ _ (B _ _ _ _ _ bf)];rfl
  have h:=n.out;rw[ab rfl,ab rfl]at h;have o:=aj h;have ak:Ax w.heap.size w (c.alloc (.cells #[.int .i64 0,.int .i64 C] 48)):=H.trans ((bI c _).mono H.size);clear h n B;go_wp2_with fail;exact bB (ir rfl _ _ w.heap.size _ _ _ _ rfl (set3 y _ _ _) Tryz.underlying28 rfl (by kernel_rfl)) rfl (show PsP w (okC (uE s R)) 0 (okN (uE s R)) _ _ from by rw[o.out.1,o.out.2];exact⟨_,rfl,by rw[<-a5.out.2];exact(a5.out.1.mono fun i cl b0=>(anf (by have:=au ao;omega) _ _ _).trans (((bI c _).block i (by have:=t.size;omega)).trans ((t.block i (by omega)).trans (v.block i b0)))).nds,agf ak _ _ _⟩)
 ·have y:=B _ _ _ _ (.cells #[.int .i64 I,.int .i64 C] 48) bn;obtain⟨bs,bt,bw,bD⟩:=row3 y;have h:=n.out;rw[aa k,aa k]at h;have o:=aj h;have bl:(I==0)=Z:=by simpa using k
  have ak:Ax w.heap.size w (c.alloc (.cells #[.int .i64 I,.int .i64 C] 48)):=H.trans ((bI c _).mono H.size);clear h n k B;go_wp2_with fail;exact bB (ir rfl _ _ w.heap.size _ _ _ _ rfl (set3 y _ _ _) Tryz.underlying28 rfl (by kernel_rfl)) rfl (show PsP w (okC (uE s R)) 0 (okN (uE s R)) _ _ from by rw[o.out.1,o.out.2];exact⟨_,rfl,Fm _,agf ak _ _ _⟩)
inductive Out (s:ByteArray):Int->Int->List Nd->Prop where
 |big:65536<s.size->Out s 2 0 []
 |at_ {z:Int}:s.size<=65536->0<=z->kD s=([],z)->Out s 1 z []
 |ok {toks:List Tk}{m:Nat}{R:Fo}{lz:Int}:s.size<=65536->kD s=(toks, -1)->PF s toks m R lz->Out s (okC (uE s R)) 0 (okN (uE s R))
theorem CF(w:V)(s:ByteArray)(h:s.size<=1048576){c a:Int}{ns:List Nd}(g:Out s c a ns):A7 X 5 #[.string s] w (PsP w c a ns):=by
 cases g with
 |big b=>exact CE w s b h
 |at_ b f d=>exact Fn w s b f d
 |ok b d e=>exact Fp w s b d e
attribute [local go_sem] DB
def Fq(S:List Int)(n:Nat):Option Nat->A0
 |some i=> B0 #[.int .i64 (i:Int),A9 A8]
 |none=> B0 #[.int .i64 ((n:Int)-1),A9 (decide (S.getD (n-1) 0<(n:Int)))]
structure yB (w:V) (B n:Nat) (S:List Int) (c:List Nat) (W:V):Prop where
 bl:Ax w.heap.size w W
 r0:W.heap[w.heap.size]?=Q (.cells #[.int .i64 0] 3 (0,0))
 r1:W.heap[w.heap.size+1]?=Q (.cells #[.bool Z] 4 (0,0))
 row:W.ownsRow w.heap.size 3 1 (.slice (Q ⟨w.heap.size+1+1,0,O⟩) n n) n (S.map (A4 .i64)++A3 (n-S.length) (.int .i64 0))
 bx:W.heap[B]?=Q (.cells #[.slice (Q ⟨w.heap.size+1+1,0,O⟩) n n] 31 (0,0))
 mks:ug (w.heap.size+1+1+1) c W
theorem yB.below{w:V}{d n:Nat}{S:List Int}{c:List Nat}{b e:V}(h:yB w d n S c b)(a:Ax b.heap.size b e):yB w d n S c e:=
 ⟨h.bl.trans (a.mono h.bl.size),(a.block _ (au h.r0)).trans h.r0,(a.block _ (au h.r1)).trans h.r1,aI h.row a,(a.block _ (au h.bx)).trans h.bx,h.mks.below a⟩
theorem yB.put{w:V}{a n:Nat}{S:List Int}{c:List Nat}{b:V}(h:yB w a n S c b)(i:w.heap.size+1<a){r:Loop}{k:Nat}(j:a<k)(e:b.heap[k]?=Q (.loop r))(o:Obj):yB w a n S c (b.putObj k o):=
 ⟨h.bl.grown (A2 b k o) h.bl.size (fun l g=>by cases g;omega),(T (by omega)).trans h.r0,(T (by omega)).trans h.r1,ownsRow_putObj h.row o e rfl,(T (by omega)).trans h.bx,
  ⟨h.mks.nd,h.mks.lo,fun d f=>(T (by rintro rfl;have:=(h.mks.at_ d f).symm.trans e;cases this)).trans (h.mks.at_ d f)⟩⟩
structure Ft (w:V) (B n:Nat) (S:List Int) (c:List Nat) (sz k:Nat) (kv:A0) (a:Int) (W:V):Prop where
 oo:yB w B n S c W
 b5:W.heap[sz]?=Q (.cells #[.int .i64 (k:Int)] 3 (0,0))
 b7:W.heap[sz+1]?=Q (.cells #[.int .i64 (a-1)] 3 (0,0))
 b8:W.heap[sz+1+1]?=Q (.cells #[kv] 55 (0,0))
theorem Ft.put{w:V}{b n:Nat}{S:List Int}{c:List Nat}{d k:Nat}{f:A0}{a:Int}{e:V}(h:Ft w b n S c d k f a e)(g:w.heap.size+1<b)(m:b<d){r:Loop}{j:Nat}(l:d+1+1<j)(i:e.heap[j]?=Q (.loop r))(o:Obj):Ft w b n S c d k f a (e.putObj j o):=
 ⟨h.oo.put g (by omega) i o,(T (by omega)).trans h.b5,(T (by omega)).trans h.b7,(T (by omega)).trans h.b8⟩
theorem ul{c:Func}{p q:Tmp}{t u:A6}(h:c.results=#[.cell p t,.cell q u])(tmps:Array A0)(P:Program)(w:V)(a b:Addr)(v d:A0)(g:tmps.getD p M= A1 (Q a))(j:tmps.getD q M= A1 (Q b))
  (e:(loadVar t a).run P w= .ok v w) (f:(loadVar u b).run P w= .ok d w):(results c tmps).run P w= .ok (B0 #[v,d]) w:=by
 have i:tmps[p]?.getD M= A1 (Q a):=by simpa using g
 have k:tmps[q]?.getD M= A1 (Q b):=by simpa using j
 simp only[results,h];simp[Sem.run_bind,Result.andThen,i,k,asAddr,e,f]
theorem Id(w:V)(a:Addr)(b:Int)(h:w.cell? a=Q (.int .i64 b)):(loadVar 3 a).run X w= .ok (.int .i64 b) w:=by go_simp
theorem Dy(w:V)(a:Addr)(b:Bool)(h:w.cell? a=Q (A9 b)):(loadVar 4 a).run X w= .ok (A9 b) w:=by go_simp
theorem aiw(a b:List Nd):∃t,gC (a++b)=gC a++t:=by
 refine vK (p:=fun b=>∃t,gC (a++b)=gC a++t) ⟨[],by simp⟩ (fun d e ⟨t,c⟩=>?_) b;rw[<-dC,rj,c];exact⟨t++[_],dC _ _ _⟩
theorem Ie{ns:List Nd}{k:Nat}{N:Nd}(h:ns[k]?=Q N):gC (ns.take (k+1))=gC (ns.take k)++[po (gC (ns.take k)) k N.ks]:=by
 have a:k<ns.length:=(List.getElem?_eq_some_iff.1 h).1;rw[gG,h];show gC (ns.take k++[N])=_;rw[rj,jw,gx,sI (by omega)]
theorem alx{ns:List Nd}{k:Nat}{N:Nd}(h:ns[k]?=Q N):(gC ns).getD k 0=po (gC (ns.take k)) k N.ks:=by
 have c:k<ns.length:=(List.getElem?_eq_some_iff.1 h).1;obtain⟨d,a⟩:=aiw (ns.take (k+1)) (ns.drop (k+1));rw[uH,Ie h]at a;have b:(gC (ns.take k)).length=k:=by rw[jw,gx,sI (by omega)]
 rw[a,bc,dC,gF (by omega),b];simp
def agh(L:List Im)(ks:List Int)(m:Nat):A0:=match ks[m]? with
 |some c=>(match L[c.toNat]? with|some a=> .iface (nF (ic a.N.k)) (A1 (Q ⟨a.b,0,O⟩))|none=> Br)
 |none=> Br
theorem aaD{L:List Im}{ks:List Int}{m q:Nat}{y:Im}(a:ks[m]?=Q (q:Int))(c:L[q]?=Q y):agh L ks m= .iface (nF (ic y.N.k)) (A1 (Q ⟨y.b,0,O⟩)):=by
 unfold agh;rw[a];simp[c]
structure aly (w:V) (c:List Nat) (k:Nat) (W:V):Prop where
 bl:Ax w.heap.size w W
 r0:W.heap[w.heap.size]?=Q (.cells #[.int .i64 (k:Int)] 3 (0,0))
 r1:W.heap[w.heap.size+1]?=Q (.cells #[.bool A8] 4 (0,0))
 mks:ug (w.heap.size+1+1+1) c W
theorem BH(w:V)(base:Nat)(dd:A0)(L:List Im)(a7:kF w base dd L)(ns:List Nd)(ee:L.map Im.N=ns)(n:Nat)(b4:L.length=n)(hv:1<=n)(y:n<=3000)(d9:∀x∈L,x.N.ks.length<=200):
  A7 X 26 #[dd] w fun e p=>e= .returned (Fq (gC ns) n (gp (fp (gC ns)) n 0))/\Ax w.heap.size w p:=by
 obtain⟨al,a0,rfl⟩:∃al k,dd= .slice (Q ⟨al,0,O⟩) n k:=by
  rcases bK a7.row with⟨h,_⟩|h
  ·omega
  ·rw[<-b4];exact h
 have hE:n<=a0:=by
  rcases a7.row.2 with⟨y,_⟩|⟨fA,ff,fn,y,_,_,fB,_⟩
  ·cases y
  ·cases y;omega
 obtain⟨g3,ce,gv,gz,g0⟩:=fl pJ;obtain⟨ba,b6⟩:=aA (gp (fp (gC ns)) n 0);rw[b6];have i:=ags a7 ee b4 b6 d9;clear a7 ee b4 b6 d9;refine DF (n:=5).1 ?_;refine callsIn_of_wp_marks Tryz.func26 rfl trivial ?_ rfl;simp only[Tryz.ntmps26,jG,cC,gq,Nat.reduceAdd,Nat.reduceSub,mC,mD,mE,yE,fx,fy];refine wpIn_wide.2 ?_;go_wp2_with (at_make;refine zb _ rfl _ _ 31 rfl w.heap.size 3 g3 (.int .i64 0) 1 Tryz.underlying31 ce gv gz .i64 .i64 _ _ n rfl rfl rfl rfl (by rw[g0];omega) (by unfold maxLen;omega) (by simp;omega) ?_;intro ap bk a8);rename_i g8 f3;have bb:Ax ((w.alloc (.cells #[.int .i64 0] 3)).alloc (.cells #[.bool Z] 4)).heap.size ((w.alloc (.cells #[.int .i64 0] 3)).alloc (.cells #[.bool Z] 4)) ap:=⟨a8.os,a8.tape,a8.output,a8.size,fun a d8=>a8.block a d8 (by simp)⟩;rw[show(madeCells (A4 .i64 0).cells (n*1)).toList=A3 n (A4 .i64 0) by rw[uJ];exact yJ _ n]at bk;simp only[bu]at bk bb;have gt:w.heap.size+1+1<ap.heap.size:=(bk.lt _ rfl).2;have bE:yB w ap.heap.size n [] [] (ap.alloc (.cells #[.slice (Q ⟨w.heap.size+1+1,0,O⟩) n n] 31)):=by
  refine⟨?_,?_,?_,?_,ar ap _,⟨List.nodup_nil,fun l hb=>by simp at hb,fun l hb=>by simp at hb⟩⟩
  ·exact((((ai _ w).alloc (ag _) _).alloc (by simp) _).trans (bb.mono (by omega))).alloc (by omega) _
  ·exact(dt _ _ _ (by omega)).trans ((bb.block _ (by omega)).trans ((dt _ _ _ (by simp)).trans (ar w _)))
  ·refine(dt _ _ _ (by omega)).trans ((bb.block _ (by omega)).trans ?_);have:=ar (w.alloc (.cells #[.int .i64 0] 3)) (.cells #[.bool Z] 4);rw[bu]at this;exact this
  ·exact bk.alloc _
 obtain⟨r,ds⟩:=aA ap.heap.size;have dx:r<(ap.alloc (.cells #[.slice (Q ⟨w.heap.size+1+1,0,O⟩) n n] 31)).heap.size:=by simp;omega
 rw[ds]at bE gt⊢;generalize ap.alloc (.cells #[.slice (Q ⟨w.heap.size+1+1,0,O⟩) n n] 31)=fb at bE dx⊢;clear bk a8 bb ds;have dg:Hid (yB w r n (gC (ns.take 0)) [] fb/\gp (fp (gC ns)) (n-0) 0=ba/\∀(H:Nat) q,(gC (ns.take 0))[H]?=Q q->1<=q):=⟨bE,i.out.2.2.2.1,fun H q h=>by simp[gC]at h⟩;clear bE;refine(DL (n:=5)).1 (wpIn_loop (fun am d=>∃(a:Nat) (k:List Nat),a<=n/\r<d.heap.size/\Hid (yB w r n (gC (ns.take a)) k d/\gp (fp (gC ns)) (n-a) a=ba/\∀(H:Nat) q,(gC (ns.take a))[H]?=Q q->1<=q)/\
  ∃eF eL e0 en eo ep eq er es et ev ew ex ey eA c0 c4 c6 c8 c9 da dc:A0,am={tmps:=#[.slice (Q ⟨al,0,O⟩) n a0,M,.pointer (Q ⟨w.heap.size,0,O⟩),.pointer (Q ⟨w.heap.size+1,0,O⟩),.pointer (Q ⟨r,0,O⟩),eF,eL,e0,M,M,M,.slice (Q ⟨al,0,O⟩) n a0,.int .i64 (n:Int),.slice (Q ⟨w.heap.size+1+1,0,O⟩) n n,.slice (Q ⟨al,0,O⟩) n a0,.int .i64 (n:Int),.int .i64 (a:Int),en,eo,ep,eq,er,es,et,ev,ew,ex,ey,eA,M,M,M,M,M,M,M,M,M,M,M,M,M,M,M,M,c0,c4,c6,c8,c9,da,dc,M,M,M,M,M,M,M,M,M,M,M],defers:=k.map Ew}) (fun am _=>n-(intOf (am.tmps.getD 16 M)).toNat) ?start ?round)
 case start=>exact⟨0,[],aG _,dx,dg,M,M,M,M,M,M,M,M,M,M,M,M,M,M,M,M,M,M,M,M,M,M,rfl⟩
 case round=>
  rintro am d ⟨a,k,d8,b3,m,eF,eL,e0,en,eo,ep,eq,er,es,et,ev,ew,ex,ey,eA,c0,c4,c6,c8,c9,da,dc,rfl⟩;clear dg;refine wpIn_wide.2 ?_;by_cases eb:a<n
  ·have hG:(a:Int)<(n:Int):=by omega
   have gd:(0:Int)<=(a:Int):=by omega
   obtain⟨x,a4⟩:=bH i.out.2.2.1 eb;have d6:=ah m.out.1.bl (i.out.1.at a4);have cb:=ah m.out.1.bl (i.out.1.box a x a4).cells.2.2.2.2.1;have G:=i.out.1.kid a x a4;obtain⟨v,C,bA⟩:=xD G;have ge:=i.out.2.2.2.2 x (dl a4);obtain⟨A,cf⟩:=aA x.N.ks.length;rw[bA]at cb;rw[cf]at cb ge bA;have s:=jn a4 bA cf;have bj:=fun w=>py x.N.k x.b w;have gu:x.b<d.heap.size:=jq (au (i.out.1.box a x a4)) m.out.1.bl.size;generalize nF (ic x.N.k)=cy at bj d6;clear a4 G bA cf;go_wp2_with (first|(go_at_call 222;refine(gl _ _).mono ?_;rintro e br ⟨rfl,eh⟩;subst br)|(go_at_call 52;refine(wD v A C _).mono ?_;rintro e g7 ⟨rfl,a3⟩;subst g7));rename_i g9 d1;obtain⟨S,hS⟩:=aA (gC (ns.take a));obtain⟨ak,b9⟩:=aA (rG S x.N.ks.reverse (a:Int));rw[hS]at m;obtain⟨g,bo⟩:=aA d.heap.size;have bn:Ft w r n S k g a (.slice v A C) (a:Int) (((d.alloc (.cells #[.int .i64 (a:Int)] 3)).alloc (.cells #[.int .i64 ((a:Int)-1)] 3)).alloc (.cells #[.slice v A C] 55)):=by
    refine⟨m.out.1.below ((((ai _ d).alloc (ag _) _).alloc (by simp) _).alloc (by simp;omega) _),?_,?_,?_⟩
    ·exact(dt _ _ _ (by simp;omega)).trans ((dt _ _ _ (by simp;omega)).trans (by rw[<-bo];exact ar d _))
    ·refine(dt _ _ _ (by simp;omega)).trans ?_;have:=ar (d.alloc (.cells #[.int .i64 (a:Int)] 3)) (.cells #[.int .i64 ((a:Int)-1)] 3);rw[bu,bo]at this;exact this
    ·have:=ar ((d.alloc (.cells #[.int .i64 (a:Int)] 3)).alloc (.cells #[.int .i64 ((a:Int)-1)] 3)) (.cells #[.slice v A C] 55);rw[bu,bu,bo]at this;exact this
   have a5:(((d.alloc (.cells #[.int .i64 (a:Int)] 3)).alloc (.cells #[.int .i64 ((a:Int)-1)] 3)).alloc (.cells #[.slice v A C] 55)).heap.size=g+1+1+1:=by simp;omega
   rw[bo]at b3 gu⊢;generalize ((d.alloc (.cells #[.int .i64 (a:Int)] 3)).alloc (.cells #[.int .i64 ((a:Int)-1)] 3)).alloc (.cells #[.slice v A C] 55)=hc at bn a5⊢;have d5:∀l∈k,l<g:=fun l hb=>by rw[<-bo];exact(Array.getElem?_eq_some_iff.1 (m.out.1.mks.at_ l hb)).1
   have ef:ns[a]?=Q x.N:=by rw[<-i.out.2.1,cA,s.out.1];rfl
   have bd:(gC ns).getD a 0=po S a x.N.ks:=by rw[alx ef,hS]
   clear d6 cb bj;refine(DL (n:=5)).1 ?_;refine Dc (P:=X) (gf:=110) (lb:=#[.pointer (Q ⟨g+1+1,0,O⟩)]) rfl (enters_of Tryz.func110 (by kernel_rfl) rfl)
    (fun c=>#[.int .i64 (c:Int),agh L x.N.ks c]) (fun _=>rfl) A
    (fun c d=>∃b:Int,Ft w r n S k g a (.slice v A C) b d/\0<=b/\b<=(a:Int)/\rG S (x.N.ks.take c).reverse b=ak)
    (fun c am d=>(∃b:Int,Ft w r n S k g a (.slice v A C) b d/\0<=b/\b<=(a:Int)/\rG S (x.N.ks.take (c+1)).reverse b=ak)/\am={tmps:=#[.slice (Q ⟨al,0,O⟩) n a0,M,.pointer (Q ⟨w.heap.size,0,O⟩),.pointer (Q ⟨w.heap.size+1,0,O⟩),.pointer (Q ⟨r,0,O⟩),.pointer (Q ⟨g,0,O⟩),.iface cy (.pointer (Q ⟨x.b,0,O⟩)),.pointer (Q ⟨g+1,0,O⟩),M,agh L x.N.ks c,M,.slice (Q ⟨al,0,O⟩) n a0,.int .i64 (n:Int),.slice (Q ⟨w.heap.size+1+1,0,O⟩) n n,.slice (Q ⟨al,0,O⟩) n a0,.int .i64 (n:Int),.int .i64 (a:Int),.bool A8,.int .i64 (a:Int),.pointer (Q ⟨al,a,O⟩),.iface cy (.pointer (Q ⟨x.b,0,O⟩)),.int .i64 (a:Int),.int .i64 ((a:Int)-1),.iface cy (.pointer (Q ⟨x.b,0,O⟩)),.pointer (Q ⟨x.b,0,O⟩),.pointer (Q ⟨x.b,0,O⟩),.pointer (Q ⟨x.b,5,O⟩),.slice v A C,.func (.func 110) #[] #[.pointer (Q ⟨g+1+1,0,O⟩)],.int .i64 (c:Int),agh L x.N.ks c,M,M,M,M,M,M,M,M,M,M,M,M,M,M,c0,c4,c6,c8,c9,da,dc,M,M,M,M,M,M,M,M,M,M,M],defers:=[]})
    (fun d=>aly w k a d/\ak=O)
    ?pZ ?pAx ?pX ?h0 ?assign ?body ?seq ?done ?ret
   case pZ=>
    rintro c d ek bq ⟨b,h,af⟩ an;rw[a5]at an⊢;exact⟨b,h.put (by omega) b3 (by omega) an bq,af⟩
   case pAx=>
    rintro c am d ek bq ⟨⟨b,h,af⟩,rfl⟩ an;rw[a5]at an⊢;exact⟨⟨b,h.put (by omega) b3 (by omega) an bq,af⟩,rfl⟩
   case pX=>
    rintro d ek bq ⟨h,cn⟩ an;rw[a5]at an⊢;exact⟨⟨h.bl.grown (A2 d _ bq) h.bl.size (fun H e=>by cases e;omega),(T (by omega)).trans h.r0,(T (by omega)).trans h.r1,
     ⟨h.mks.nd,h.mks.lo,fun l t=>(T (by rintro rfl;have:=(h.mks.at_ _ t).symm.trans an;cases this)).trans (h.mks.at_ l t)⟩⟩,cn⟩
   case h0=>
    intro ha hb h6;refine⟨(a:Int),⟨bn.oo.below hb,(hb.block _ (by omega)).trans bn.b5,(hb.block _ (by omega)).trans bn.b7,(hb.block _ (by omega)).trans bn.b8⟩,gd,Int.le_refl _,?_⟩;rw[cI (by rw[s.out.2.2];exact ag _)];exact b9
   case assign=>
    rintro cs c d bt t ⟨b,h,af⟩ a1;have e3:Hid (∃b:Int,Ft w r n S k g a (.slice v A C) b d/\0<=b/\b<=(a:Int)/\rG S (x.N.ks.take (c+1)).reverse b=ak):=⟨b,h,af⟩;clear h af
    gi_wp2
    exact a1 _ _ ⟨e3.out,rfl⟩ (KeepsFrom.refl _ _)
   case seq=>
    intro cs e8 e9 d0 f6 d f5;have gm:A<=C:=by
     have G:=i.out.1.kid a x s.out.1;rw[s.out.2.1,s.out.2.2]at G;rcases G.2 with⟨y,dp⟩|⟨fA,ff,fn,y,_,_,fB,_⟩
     ·omega
     ·cases y;omega
    refine Ib 4 cs (g+1+1) A C v _ (by omega) gm e8 e9 (fun c d h=>?_) (fun c d h H a2=>?_) f6 d f5
    ·obtain⟨b,af,_⟩:=d0 c d h;exact cK af.b8
    ·obtain⟨b,af,_⟩:=d0 c d h;obtain⟨q,E⟩:=bH s.out.2.2 a2;obtain⟨gk,bd⟩:∃gk,v=Q ⟨gk,0,O⟩:=by
      have G:=i.out.1.kid a x s.out.1;rw[s.out.2.1]at G;rcases bK G with⟨h,_⟩|⟨gk,k,h⟩
      ·rw[s.out.2.2]at h;omega
      ·cases h;exact⟨_,rfl⟩
     obtain⟨f,B,rfl,eg,bp,bw⟩:=i.out.1.kidAt s.out.1 (by rw[s.out.2.1,bd]) E;refine⟨_,bd,?_⟩;rw[qh,aaD E bp];exact ah af.oo.bl bw
   case body=>
    rintro cs c am j t ⟨⟨b,h,f8,f9,z⟩,rfl⟩;rw[a5];obtain⟨q,E⟩:=bH s.out.2.2 t;obtain⟨gk,gb⟩:∃gk,v=Q ⟨gk,0,O⟩:=by
     have G:=i.out.1.kid a x s.out.1;rw[s.out.2.1]at G;rcases bK G with⟨h,_⟩|⟨gk,k,h⟩
     ·rw[s.out.2.2]at h;omega
     ·cases h;exact⟨_,rfl⟩
    obtain⟨f,B,rfl,eg,bp,bw⟩:=i.out.1.kidAt s.out.1 (by rw[s.out.2.1,gb]) E;rw[aaD E bp];have gr:=ah h.oo.bl (i.out.1.box f B bp).cells.2.2.2.1;have ia:=au (i.out.1.box f B bp);have F:S.length=a:=by rw[<-hS,jw,gx,<-i.out.2.1,dL,i.out.2.2.1];omega
    obtain⟨u,a9⟩:=bH F eg;have h7:=m.out.2.2 f u a9;have h8:u<=(f:Int)+1:=by
     have gs:yu S:=by
      rw[<-hS];refine uw _ (fun N a7 q E=>?_);obtain⟨cr,ce,e⟩:=fL (ze a7);have bf:(L.map Im.N)[cr]?=Q N:=by rw[i.out.2.1,aE ce,e]
      rw[cA]at bf;cases hLi:L[cr]? with
      |none=>rw[hLi]at bf;cases bf
      |some g6=>
       rw[hLi]at bf;obtain rfl:=db bf;exact(i.out.1.rng cr g6 q hLi E).1
     exact(gs f u a9).2
    have cc:S.getD f 0=u:=by rw[bc,a9];rfl
    have a3:(if(f:Int)=b-1/\u≠0 then rG S (x.N.ks.take c).reverse (b-u) else O)=ak:=by
     rw[gG,E,D5,List.reverse_append]at z;show _=ak;rw[<-z];show _=rG S ((f:Int)::(x.N.ks.take c).reverse) b;rw[rG,fD,cc]
    have hh:=cK h.b5;have b2:=cK h.b7;have dj:=cK h.oo.bx;have ao:=h.oo.row;have fg:j.cell? ⟨w.heap.size+1+1,f,O⟩=Q (.int .i64 u):=by
     rw[ao.cellAt f (by omega),iD (by simp;omega),cA,a9];rfl
    have cu:=cK h.oo.r0;have cx:=cK h.oo.r1;have fu:j.frozen? ⟨w.heap.size,0,O⟩=Z:=dI _ _ _ _ _ h.oo.r0;have fv:j.frozen? ⟨w.heap.size+1,0,O⟩=Z:=dI _ _ _ _ _ h.oo.r1;have fz:j.frozen? ⟨g+1,0,O⟩=Z:=dI _ _ _ _ _ h.b7;have bj:=fun w=>py B.N.k B.b w;have o:j.drew.cell? ⟨g+1,0,O⟩=Q (.int .i64 (b-1))/\j.drew.cell? ⟨B.b,4,O⟩=Q (.int .i64 (f:Int)):=⟨b2,gr⟩;have df:=aj h;generalize nF (ic B.N.k)=el at bj⊢;by_cases bD:(f:Int)=b-1
    ·rw[ab ⟨bD,by omega⟩]at a3;have bs:=aj a3;clear a3 z E bw h a9 cc F ao;have fr:b=(f:Int)+1:=by omega
     subst fr;have dn:(f:Int)+1-1=(f:Int):=by omega
     rw[dn]at b2 o;clear bD dn;have h5:(f:Int)<(n:Int):=by omega
     have h3:(0:Int)<=(f:Int):=by omega
     gi_wp2
     refine ri (S:=fun p=>p.cell? ⟨g+1,0,O⟩=Q (.int .i64 (f:Int))/\p.cell? ⟨B.b,4,O⟩=Q (.int .i64 (f:Int))) (by kernel_rfl) (by kernel_rfl) (fun ⟨_,_,h⟩=>h) o (fun o=>?_);refine di 0 (.iface el (.pointer (Q ⟨B.b,0,O⟩))) rfl rfl (by kernel_rfl) (fun _ _ _=>id) o (fun p ⟨I,J⟩=>by go_simp) ?_;simp only[Y];refine di 5 (.int .i64 (f:Int)) rfl rfl (by kernel_rfl) (fun _ _ _=>id) o (fun p ⟨I,J⟩=>by go_simp) ?_;simp only[Y];refine A5 (rs:=[1]) (by kernel_rfl) (by simp) (AllReadyH.cons rfl (fun bt a1=>?_) AllReadyH.nil);go_simp;refine cd (gl _ _) fun br eh=>?_;subst br;refine a1.out _ _ o (fun o=>?_);clear a1 bt;try simp only[Act.put,dv,dw,dA]
     refine di 2 (.pointer (Q ⟨B.b,0,O⟩)) rfl rfl (by kernel_rfl) (fun _ _ _=>id) o (fun p ⟨I,J⟩=>by go_simp) ?_;simp only[Y];refine di 3 (.pointer (Q ⟨B.b,4,O⟩)) rfl rfl (by kernel_rfl) (fun _ _ _=>id) o (fun p ⟨I,J⟩=>by go_simp) ?_;simp only[Y];refine di 4 (.int .i64 (f:Int)) rfl rfl (by kernel_rfl) (fun _ _ _=>id) o (fun p ⟨I,J⟩=>by go_simp) ?_;simp only[Y];refine di 6 (.bool Z) rfl rfl (by kernel_rfl) (fun _ _ _=>id) o (fun p ⟨I,J⟩=>by go_simp) ?_;simp only[Y];refine wpAnyH_done (by kernel_rfl) ?_ _
     gi_wp2
     have hC:j.drew.cell? ⟨g+1,0,O⟩=Q (.int .i64 (f:Int))/\j.drew.cell? ⟨w.heap.size+1+1,f,O⟩=Q (.int .i64 u)/\j.drew.cell? ⟨r,0,O⟩=Q (.slice (Q ⟨w.heap.size+1+1,0,O⟩) n n)/\j.drew.frozen? ⟨g+1,0,O⟩=Z:=⟨b2,fg,dj,fz⟩;have h9:IntKind.i64.wrap ((f:Int)-u)=(f:Int)-u:=by rw[cw];omega
     have K:=df.out;have hH:g+1≠w.heap.size+1+1:=by omega
     have d7:Ft w r n S k g a (.slice v A C) ((f:Int)+1-u) (j.setCell ⟨g+1,0,O⟩ (.int .i64 ((f:Int)-u))).drew.drew:=by
      have fq:(f:Int)+1-u-1=(f:Int)-u:=by omega
      refine⟨⟨(K.oo.bl.setCell (by simp;omega) _).drew.drew,(bh _ _ _ _ (by simp;omega)).trans K.oo.r0,(bh _ _ _ _ (by simp;omega)).trans K.oo.r1,?_,(bh _ _ _ _ (by simp;omega)).trans K.oo.bx,(K.oo.mks.keeps (U _ _ _)).keeps ((KeepsOthers.drew _).trans (KeepsOthers.drew _))⟩,(bh _ _ _ _ (by simp)).trans K.b5,?_,(bh _ _ _ _ (by simp)).trans K.b8⟩
      ·exact(show(j.setCell ⟨g+1,0,O⟩ (.int .i64 ((f:Int)-u))).ownsRow _ _ _ _ _ _ from K.oo.row.kept (grownBy_setCell' j (g+1) _) (.inr (by simp[Value.ownBlock];omega)))
      ·rw[fq];exact cE _ _ 0 _ _ _ K.b7
     have e6:Hid (adx (g+1+1+1) j (fun d=>∃b:Int,Ft w r n S k g a (.slice v A C) b d/\0<=b/\b<=(a:Int)/\rG S (x.N.ks.take c).reverse b=ak) (fun d=>aly w k a d/\ak=O) .normal {tmps:=#[],defers:=[]} (j.setCell ⟨g+1,0,O⟩ (.int .i64 ((f:Int)-u))).drew.drew):=
      ⟨(((U _ _ _).trans (KeepsOthers.drew _)).trans (KeepsOthers.drew _)).from _,_,d7,by omega,by omega,bs.out⟩
     clear df bs s i m bj o K d7
     gi_region
     all_goals exact e6.out
    ·rw[aa (fun e=>bD e.1)]at a3;have bs:=aj a3;have d4:aly w k a ((j.drew.setCell ⟨w.heap.size,0,O⟩ (.int .i64 (a:Int))).setCell ⟨w.heap.size+1,0,O⟩ (.bool A8)):=
      ⟨((h.oo.bl.drew.setCell (by simp) _).setCell (by simp) _),(bh _ _ _ _ (by simp)).trans (cE _ _ 0 _ _ _ h.oo.r0),cE _ _ 0 _ _ _ ((bh _ _ _ _ (by simp)).trans h.oo.r1),
       ((h.oo.mks.keeps (KeepsOthers.drew j)).keeps (U _ _ _)).keeps (U _ _ _)⟩
     have e5:=aj d4;have hp:((f:Int)==b-1)=Z:=by rw[aL];exact bD
     clear a3 z E bw h a9 cc F ao d4
     gi_wp2
     refine ri (S:=fun p=>p.cell? ⟨g+1,0,O⟩=Q (.int .i64 (b-1))/\p.cell? ⟨B.b,4,O⟩=Q (.int .i64 (f:Int))) (by kernel_rfl) (by kernel_rfl) (fun ⟨_,_,h⟩=>h) o (fun o=>?_);refine di 0 (.iface el (.pointer (Q ⟨B.b,0,O⟩))) rfl rfl (by kernel_rfl) (fun _ _ _=>id) o (fun p ⟨I,J⟩=>by go_simp) ?_;simp only[Y];refine di 5 (.int .i64 (b-1)) rfl rfl (by kernel_rfl) (fun _ _ _=>id) o (fun p ⟨I,J⟩=>by go_simp) ?_;simp only[Y];refine A5 (rs:=[1]) (by kernel_rfl) (by simp) (AllReadyH.cons rfl (fun bt a1=>?_) AllReadyH.nil);go_simp;refine cd (gl _ _) fun br eh=>?_;subst br;refine a1.out _ _ o (fun o=>?_);clear a1 bt;try simp only[Act.put,dv,dw,dA]
     refine di 2 (.pointer (Q ⟨B.b,0,O⟩)) rfl rfl (by kernel_rfl) (fun _ _ _=>id) o (fun p ⟨I,J⟩=>by go_simp) ?_;simp only[Y];refine di 3 (.pointer (Q ⟨B.b,4,O⟩)) rfl rfl (by kernel_rfl) (fun _ _ _=>id) o (fun p ⟨I,J⟩=>by go_simp) ?_;simp only[Y];refine di 4 (.int .i64 (f:Int)) rfl rfl (by kernel_rfl) (fun _ _ _=>id) o (fun p ⟨I,J⟩=>by go_simp) ?_;simp only[Y];refine di 6 (.bool A8) rfl rfl (by kernel_rfl) (fun _ _ _=>id) o (fun p ⟨I,J⟩=>by go_simp) ?_;simp only[Y];refine wpAnyH_done (by kernel_rfl) ?_ _
     gi_wp2
     exact⟨(((KeepsOthers.drew j).from _).trans ((U _ _ _).from _)).trans ((U _ _ _).from _),e5.out,bs.out.symm⟩
   case ret=>
    rintro j ⟨h,cn⟩ a6;rw[a5]at a6⊢;have f4:ba=Q a:=by
     have y:=m.out.2.1;rw[show n-a=(n-(a+1))+1 by omega,gp,ab]at y
     ·exact y.symm
     ·unfold fp;rw[bd];unfold po;rw[b9,cn];rfl
    show LeavesInM _ _ _ _ _ _ (((g+1+1+1)::k).map Ew) .returning j;refine rk (w.heap.size+1+1+1) _ j ⟨List.nodup_cons.2 ⟨fun t=>by have:=d5 _ t;omega,h.mks.nd⟩,fun l hb=>?_,fun l hb=>?_⟩ (fun b1 z=>?_)
    ·rcases List.mem_cons.1 hb with rfl|hb
     ·omega
     ·exact h.mks.lo l hb
    ·rcases List.mem_cons.1 hb with rfl|hb
     ·exact a6
     ·exact h.mks.at_ l hb
    ·have cl:∀l∈(g+1+1+1)::k,w.heap.size+1+1+1<=l:=fun l hb=>by
      rcases List.mem_cons.1 hb with rfl|hb
      ·omega
      ·exact h.mks.lo l hb
     have cu:=(z.same w.heap.size (fun t=>by have:=cl _ t;omega)).trans h.r0;have cx:=(z.same (w.heap.size+1) (fun t=>by have:=cl _ t;omega)).trans h.r1;refine⟨_,ul rfl _ _ _ ⟨w.heap.size,0,O⟩ ⟨w.heap.size+1,0,O⟩ _ _ rfl rfl (Id _ _ _ (cK cu)) (Dy _ _ _ (cK cx)),?_,z.below h.bl (fun l hb=>by have:=cl l hb;omega) (ag _)⟩;rw[f4];rfl
   case done=>
    rintro j ⟨b,h,f8,f9,z⟩ a6;rw[a5]at a6⊢;have d2:ak=Q b:=by rw[<-z];rfl
    have cp:po S a x.N.ks=(a:Int)-(b-1):=by unfold po;rw[b9,d2];show(a:Int)-b+1=_;omega
    have F:S.length=a:=by rw[<-hS,jw,gx,<-i.out.2.1,dL,i.out.2.2.1];omega
    have ao:=h.oo.row;have hn:j.cell? ⟨w.heap.size+1+1,a,O⟩=Q (.int .i64 0):=by
     rw[ao.cellAt a (by omega),gF (by simp;omega),dL,F,gH,D1,ab (by omega)]
    have hu:=ao.frozenAt a;have ct:=(ao.stored a (.int .i64 ((a:Int)-(b-1)))).1;rw[F,Dg S n a ((a:Int)-(b-1)) F eb]at ct;have ca:gC (ns.take (a+1))=S++[(a:Int)-(b-1)]:=by rw[Ie ef,hS,cp]
    have ec:ug (w.heap.size+1+1+1) ((g+1+1+1)::k) j:=⟨List.nodup_cons.2 ⟨fun t=>by have:=d5 _ t;omega,h.oo.mks.nd⟩,fun l hb=>by
      rcases List.mem_cons.1 hb with rfl|hb
      ·omega
      ·exact h.oo.mks.lo l hb,fun l hb=>by
      rcases List.mem_cons.1 hb with rfl|hb
      ·exact a6
      ·exact h.oo.mks.at_ l hb⟩
    have cm:yB w r n (S++[(a:Int)-(b-1)]) ((g+1+1+1)::k) (j.setCell ⟨w.heap.size+1+1,a,O⟩ (.int .i64 ((a:Int)-(b-1)))):=
     ⟨h.oo.bl.setCell (by simp;omega) _,(bh _ _ _ _ (by simp;omega)).trans h.oo.r0,(bh _ _ _ _ (by simp)).trans h.oo.r1,by rw[aF,F];exact ct,(bh _ _ _ _ (by simp;omega)).trans h.oo.bx,ec.keeps (U _ _ _)⟩
    have e4:Hid (yB w r n (gC (ns.take (a+1))) ((g+1+1+1)::k) (j.setCell ⟨w.heap.size+1+1,a,O⟩ (.int .i64 ((a:Int)-(b-1))))/\gp (fp (gC ns)) (n-(a+1)) (a+1)=ba/\∀(H:Nat) q,(gC (ns.take (a+1)))[H]?=Q q->1<=q):=by
     refine⟨by rw[ca];exact cm,?_,fun H q a2=>?_⟩
     ·have y:=m.out.2.1;rw[show n-a=(n-(a+1))+1 by omega,gp,aa]at y
      ·exact y
      ·unfold fp;rw[bd,cp];simp;omega
     ·rw[ca]at a2;rcases bv H a with g1|g1
      ·rw[iD (by omega)]at a2;exact m.out.2.2 H q a2
      ·rw[gF (by omega)]at a2;obtain⟨y,dp⟩:=List.getElem?_eq_some_iff.1 a2;simp at y dp;omega
    have he:=cK h.oo.bx;have hf:=cK h.b5;have hg:=cK h.b7;have f2:r<(j.setCell ⟨w.heap.size+1+1,a,O⟩ (.int .i64 ((a:Int)-(b-1)))).heap.size:=au cm.bx;have hA:((a:Int)-(b-1))<=3001/\1<=((a:Int)-(b-1)):=by omega
    refine d1 _ _ ?_;clear d2 cp F ao ct ca ec cm h z a6 d1 f3 m;go_wp2_with fail;exact⟨⟨a+1,(g+1+1+1)::k,by omega,f2,e4,_,_,_,_,_,_,_,_,_,_,_,_,_,_,_,_,_,_,_,_,_,_,rfl⟩,by simp[intOf];omega⟩
  ·obtain rfl:a=n:=by omega
   have hL:¬(a:Int)<(a:Int):=by omega
   obtain⟨c,rfl⟩:∃c,a=c+1:=⟨a-1,by omega⟩;have hS:gC (ns.take (c+1))=gC ns:=by rw[cI (by rw[<-i.out.2.1,dL,i.out.2.2.1];exact ag _)]
   rw[hS]at m;have F:(gC ns).length=c+1:=by rw[jw,<-i.out.2.1,dL,i.out.2.2.1]
   obtain⟨q,E⟩:=bH F (show c<c+1 by omega);have d3:ba=O:=by have:=m.out.2.1;rw[gH,gp]at this;exact this.symm
   have ei:(gC ns).getD c 0=q:=by rw[bc,E];rfl
   have b0:=jn m.out.1 d3 ei;have ho:d.cell? ⟨w.heap.size+1+1,c,O⟩=Q (.int .i64 q):=by
    rw[m.out.1.row.cellAt c (by omega),iD (by simp;omega),cA,E];rfl
   have dj:=cK m.out.1.bx;have cu:=cK m.out.1.r0;have cx:=cK m.out.1.r1;have fu:d.frozen? ⟨w.heap.size,0,O⟩=Z:=dI _ _ _ _ _ m.out.1.r0;have fv:d.frozen? ⟨w.heap.size+1,0,O⟩=Z:=dI _ _ _ _ _ m.out.1.r1;have ht:(c:Int)+1-1=(c:Int):=by omega
   have ib:(0:Int)<=(c:Int):=by omega
   have ih:(c:Int)<(c:Int)+1:=by omega
   clear E ei d3 hS m i;go_wp2_with fail;have io:w.heap.size≠r:=by omega
   have ip:w.heap.size+1≠r:=by omega
   have iv:w.heap.size≠w.heap.size+1+1:=by omega
   have i1:w.heap.size+1≠w.heap.size+1+1:=by omega
   go_region_held3 (fun p=>p.cell? ⟨r,0,O⟩=Q (.slice (Q ⟨w.heap.size+1+1,0,O⟩) (c+1) (c+1))/\p.cell? ⟨w.heap.size+1+1,c,O⟩=Q (.int .i64 q)) (go_keep) (fail)
   all_goals go_wp2_with fail
   have h:=b0.out.1;show LeavesInM _ _ _ _ _ _ (k.map Ew) .returning _;refine rk (w.heap.size+1+1+1) k _ (((h.mks.keeps (U _ _ _)).keeps (U _ _ _)).keeps (KeepsOthers.drew _)) (fun b1 z=>?_);have g4:b1.heap[w.heap.size]?=Q (.cells #[.int .i64 (c:Int)] 3 (0,0)):=(z.same _ (fun t=>by have:=h.mks.lo _ t;omega)).trans ((bh _ _ _ _ (by simp)).trans (cE _ _ 0 _ _ _ h.r0));have g5:b1.heap[w.heap.size+1]?=Q (.cells #[.bool (decide (q<(c:Int)+1))] 4 (0,0)):=(z.same _ (fun t=>by have:=h.mks.lo _ t;omega)).trans (cE _ _ 0 _ _ _ ((bh _ _ _ _ (by simp)).trans h.r1));refine⟨_,ul rfl _ _ _ ⟨w.heap.size,0,O⟩ ⟨w.heap.size+1,0,O⟩ _ _ rfl rfl (Id _ _ _ (cK g4)) (Dy _ _ _ (cK g5)),?_,z.below (((h.bl.setCell (by simp) _).setCell (by simp) _).drew) (fun l hb=>by have:=h.mks.lo l hb;omega) (ag _)⟩;have fo:((c+1:Nat):Int)=(c:Int)+1:=by omega
   rw[b0.out.2.1];simp only[Fq,mG,b0.out.2.2,fo,Int.add_sub_cancel]
