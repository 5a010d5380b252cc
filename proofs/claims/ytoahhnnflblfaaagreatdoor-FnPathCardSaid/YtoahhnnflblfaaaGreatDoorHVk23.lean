import Derived.Test.YtoahhnnflblfaaaGreatDoorHVk14
set_option linter.all false
set_option maxRecDepth 100000
set_option maxHeartbeats 6400000
open Option renaming none->M,some->O
open Go.IntKind renaming i64->Q
open Go.Value renaming int->U,slice->V,int->A2,string->A4,string->A6,slice->A7,ownBlock->A9,agg->B2,bool->B3
open Go.Proofs.Tryz renaming prog->Y
open Go.RowKit renaming Hid->Z,Below->A5
open Go renaming Value->Ax,World->A3,Calls->A8,wpList_append_own_at->B1,ownsRow_succ->B4,maxLen->B5,TypeId->Ce
open Go.Ending renaming returned->A0
open Go.Obj renaming cells->A1
open Bool renaming false->Br,true->B6
open Go.World renaming news_of_block->B0
namespace Go.Proofs.YtoahhnnflblfaaaGreatDoor
open Go.RowKit
section
variable {E : Pe} {W : World} {i : Nat} {L : List Mb} {B : List (Nat × Array Value)}
theorem aej(h:Sp E W i L B)(a:i<E.n):A8 Y 41 #[pV E] W fun e w'=>e= A0 (U Q (E.tk i).k)/\A5 W.heap.size W w':=by
 obtain⟨b,c,d⟩:=h.cells;obtain⟨m,l,o,p,q,r,s,t⟩:=h.tok a;have g:(i:Int)<(E.n:Int):=by omega
 have f:(0:Int)<=(i:Int):=by omega
 clear h a;go_in;go_wp2_with fail;go_quiet (fail)
 go_wp2;go_ret;exact⟨rfl,rfl,rfl,rfl,ag _,fun _ _=>rfl⟩
structure TkW (W:A3) (E:Pe) (q:Nat):Prop where
 c0:W.cell? ⟨E.tb,q*6,M⟩=O (.int .i64 (E.tk q).k)
 c1:W.cell? ⟨E.tb,q*6+1,M⟩=O (.int .i64 (E.tk q).f)
 c2:W.cell? ⟨E.tb,q*6+2,M⟩=O (.int .i64 (E.tk q).t)
 c3:W.cell? ⟨E.tb,q*6+3,M⟩=O (.int .i64 (E.tk q).l)
 c4:W.cell? ⟨E.tb,q*6+4,M⟩=O (.int .i64 (E.tk q).n)
 c5:W.cell? ⟨E.tb,q*6+5,M⟩=O (.string (E.tk q).x)
theorem Sp.tkw(h:Sp E W i L B){q:Nat}(d:q<E.n)(b:(E.tk q).k≠6):TkW W E q:=by
 obtain⟨o,c,e,f,g,a,l,m⟩:=h.tok d;rw[c b]at a;exact⟨e,f,g,a,l,m⟩
theorem amA(h:Sp E W i L B)(a6:i<E.n)(a5:(E.tk i).k≠6):A8 Y 86 #[pV E] W fun e w'=>e= .returned (vTk (E.tk i))/\Sp E w' (i+1) L B/\Kt W w'/\A5 E.base W w':=by
 have a8:=h.lt;have u:=bI W (.cells #[.int .i64 0,.int .i64 0,.int .i64 0,.int .i64 0,.int .i64 0,.string ⟨#[]⟩] 88);have s:=h.below u;have c:=s.move (i+1);have d:=s.kmove (.int .i64 ((i+1:Nat):Int));obtain⟨a1,a2,a3⟩:=s.cells;obtain⟨q,r,an⟩:=c.cells;obtain⟨y,z,A,C,F,G⟩:=c.tkw a6 a5;have a4:((i+1:Nat):Int)=(i:Int)+1:=by omega
 rw[a4]at c d r q an y z A C F G;have bl:(i:Int)<(E.n:Int):=by omega
 have bk:(0:Int)<=(i:Int):=by omega
 have bn:=h.hn;have bo:IntKind.i64.wrap ((i:Int)+1-1)=(i:Int):=by rw[cw];omega
 have bp:IntKind.i64.wrap (i:Int)=(i:Int):=by rw[cw];omega
 have bq:IntKind.i64.wrap ((i:Int)+1)=(i:Int)+1:=by rw[cw];omega
 obtain⟨a,m⟩:=aA ((W.alloc (.cells #[.int .i64 0,.int .i64 0,.int .i64 0,.int .i64 0,.int .i64 0,.string ⟨#[]⟩] 88)).setCell ⟨E.pb,1,M⟩ (.int .i64 ((i:Int)+1)));have v:a.heap[W.heap.size]?=O (.cells #[.int .i64 0,.int .i64 0,.int .i64 0,.int .i64 0,.int .i64 0,.string ⟨#[]⟩] 88 (0,0)):=by
  rw[<-m,bh _ _ _ _ (by show W.heap.size≠E.pb;omega)];exact ar W _
 have ao:A5 E.base W a:=by rw[<-m];exact(u.mono a8.2).trans d.2
 have ap:Kt W a:=by rw[<-m];exact(Kt.of_below u).trans d.1
 rw[m]at c q r an y z A C F G;go_in;go_wp2_with fail;have p:=tH c ao ap v;have a0:=aj h;clear m s u c d a1 a2 a3 h ao ap v;obtain⟨z0,br,bs,bt,bw,bx⟩:=ur p.out.2.2.2;obtain⟨bA,bD,bE,b0,b1,b3⟩:=F6 p.out.2.2.2;have a9:E.pb≠W.heap.size:=by omega
 have av:E.tb≠W.heap.size:=by
  obtain⟨bf,bj,ba,_⟩:=a0.out.tks;have:=au ba;omega
 have H:∀j I J K af ak al,(Il a W.heap.size I J K af ak al).drew.cell? ⟨E.pb,j,M⟩=a.cell? ⟨E.pb,j,M⟩:=fun j=>F7 a9 j;have b:∀j I J K af ak al,(Il a W.heap.size I J K af ak al).drew.cell? ⟨E.tb,j,M⟩=a.cell? ⟨E.tb,j,M⟩:=fun j=>F7 av j;unfold Il at H b;go_region_held3 (fun w'=>w'.cell? ⟨E.pb,0,M⟩=O (.slice (O ⟨E.tb,0,M⟩) E.n E.cap)/\w'.cell? ⟨E.pb,1,M⟩=O (.int .i64 ((i:Int)+1))/\w'.cell? ⟨E.tb,i*6,M⟩=O (.int .i64 (E.tk i).k)/\w'.cell? ⟨E.tb,i*6+1,M⟩=O (.int .i64 (E.tk i).f)/\w'.cell? ⟨E.tb,i*6+2,M⟩=O (.int .i64 (E.tk i).t)/\w'.cell? ⟨E.tb,i*6+3,M⟩=O (.int .i64 (E.tk i).l)/\w'.cell? ⟨E.tb,i*6+4,M⟩=O (.int .i64 (E.tk i).n)/\w'.cell? ⟨E.tb,i*6+5,M⟩=O (.string (E.tk i).x)) (first|with_reducible exact⟨(H 0 _ _ _ _ _ _).trans q,(H 1 _ _ _ _ _ _).trans r,(b (i*6) _ _ _ _ _ _).trans y,(b (i*6+1) _ _ _ _ _ _).trans z,(b (i*6+2) _ _ _ _ _ _).trans A,(b (i*6+3) _ _ _ _ _ _).trans C,(b (i*6+4) _ _ _ _ _ _).trans F,(b (i*6+5) _ _ _ _ _ _).trans G⟩|exact⟨q,r,y,z,A,C,F,G⟩) (fail)
 have g:=acA a W.heap.size (.int .i64 (E.tk i).k) (.int .i64 (E.tk i).f) (.int .i64 (E.tk i).t) (.int .i64 (E.tk i).l) (.int .i64 (E.tk i).n) (.string (E.tk i).x);have o:=acz p.out.2.2.2 (.int .i64 (E.tk i).k) (.int .i64 (E.tk i).f) (.int .i64 (E.tk i).t) (.int .i64 (E.tk i).l) (.int .i64 (E.tk i).n) (.string (E.tk i).x);rw[<-wJ]at o;unfold Il at g o;generalize World.drew _=bd at g o⊢;go_wp2;obtain⟨bb,am,d,v⟩:=p.out;exact bB (ir rfl _ _ W.heap.size _ _ _ _ rfl o Tryz.underlying88 rfl (by kernel_rfl)) rfl ⟨rfl,bb.other v av g,d.past g (ag _),am.grown g (by have:=am.size;omega) (fun k a7=>by cases a7;omega)⟩
theorem ahC(k:Int)(T:Tk)(w:A3):A8 Y 87 #[.int .i64 k,vTk T] w fun e w'=>e= .returned (.agg #[.int .i64 k,.int .i64 T.f,.int .i64 0,.int .i64 T.l,.int .i64 0,.int .i64 0,.string ⟨#[]⟩,.slice M 0 0,.slice M 0 0])/\A5 w.heap.size w w':=by
 unfold vTk;go_in;go_wp2_with fail;exact bB (ir rfl _ _ (w.heap.size+1) _ _ _ _ rfl (by have:=ar (w.alloc (.cells #[.int .i64 T.k,.int .i64 T.f,.int .i64 T.t,.int .i64 T.l,.int .i64 T.n,.string T.x] 88)) (.cells #[.int .i64 k,.int .i64 T.f,.int .i64 0,.int .i64 T.l,.int .i64 0,.int .i64 0,.string ⟨#[]⟩,.slice M 0 0,.slice M 0 0] 36);rw[bu]at this;exact this) Tryz.underlying36 rfl (by kernel_rfl)) rfl ⟨rfl,(bI w _).alloc (by simp) _⟩
theorem ahD(h:Sp E W i L B)(b:i<E.n)(k:Int)(l:(E.tk i).k=k):A8 Y 42 #[pV E,U Q k] W fun e w'=>e= A0 (B3 B6)/\Sp E w' (i+1) L B/\Kt W w'/\A5 E.base W w':=by
 have v:((E.tk i).k !=k)=Br:=by simp[l]
 have m:=aej h b;have f:=aj h;have u:=h.hn;have t:=b;clear h l b;go_in;go_wp2_with fail;refine m.mono ?_;rintro e w1 ⟨rfl,a⟩;have d:=f.out.below a;obtain⟨q,r,s⟩:=d.cells;have p:=f.out.lt;have g:=aj d;clear d m;go_wp2_with fail;go_ret;have o:=g.out.move (i+1);have c:=g.out.kmove (U Q ((i+1:Nat):Int));rw[show((i+1:Nat):Int)=(i:Int)+1 by omega]at o c;exact⟨rfl,o,(Kt.of_below a).trans c.1,(a.mono p.2).trans c.2⟩
theorem aku(h:Sp E W i L B)(a:i<E.n)(k:Int)(b:(E.tk i).k≠k):A8 Y 42 #[pV E,U Q k] W fun e w'=>e= A0 (B3 Br)/\A5 W.heap.size W w':=by
 have f:((E.tk i).k !=k)=B6:=by simp[b]
 have d:=aej h a;clear h b a;go_in;go_wp2_with (go_at_call 41;refine d.mono ?_;rintro e w1 ⟨rfl,c⟩);go_ret;exact⟨rfl,c⟩
end
open Go.Maps Go.WideMaps
section
variable {E : Pe} {W : World} {i : Nat} {L : List Mb} {B : List (Nat × Array Value)}
theorem Sp.push(h:Sp E W i L B){v:Ax}(K:W.heap[E.pb]?=O (A1 #[V (O ⟨E.tb,0,M⟩) E.n E.cap,U Q i,v] 73 (0,0))){c:A3}{g r cap:Nat}(a3:L.length+1=r)(x:Mb)(ak:c.ownsRow E.base 36 9 (V (O ⟨g,0,M⟩) r cap) r (mi (L++[x])))(f:W.grownBy c v.ownBlock)(a0:v.ownBlock=O g\/g=W.heap.size)
  (on:W.ownsRow E.base 9 1 x.vn x.N.nm.length (x.N.nm.map A4)) (a7:W.ownsRow E.base 3 1 x.vk x.N.ks.length (x.N.ks.map (A2 Q))):
  Sp E (c.setCell ⟨E.pb,2,M⟩ (V (O ⟨g,0,M⟩) r cap)) i (L++[x]) B/\Kt W (c.setCell ⟨E.pb,2,M⟩ (V (O ⟨g,0,M⟩) r cap))/\A5 E.base W (c.setCell ⟨E.pb,2,M⟩ (V (O ⟨g,0,M⟩) r cap))/\c.heap[E.pb]?=O (A1 #[V (O ⟨E.tb,0,M⟩) E.n E.cap,U Q i,v] 73 (0,0)):=by
 subst a3;obtain⟨ap,p,m,u⟩:=h.tks;obtain⟨a9,l,t,I⟩:=h.row;obtain rfl:a9=v:=by rw[l]at K;cases K;rfl
 have a1:=h.lt;have z:∀{b:Nat}{G:Array Ax}{F:Ce}{p:Nat×Nat},W.heap[b]?=O (A1 G F p)->F≠36->c.heap[b]?=O (A1 G F p):=fun d a4=>(f.block _ (au d) (fun a=>gi t d a4 a.symm)).trans d;have A:=z l (by decide);have C:∀b,b≠E.pb->(c.setCell ⟨E.pb,2,M⟩ (V (O ⟨g,0,M⟩) (L.length+1) cap)).heap[b]?=c.heap[b]?:=fun b d=>bh _ _ _ _ d;have s:∀{base a size n:Nat}{am:Ax}{an:List Ax},W.ownsRow base a size am n an->a≠36->a≠73->(c.setCell ⟨E.pb,2,M⟩ (V (O ⟨g,0,M⟩) (L.length+1) cap)).ownsRow base a size am n an:=fun al m u=>by
  refine lI ?_ ?_ 2 _
  ·obtain⟨e,k⟩:=al;refine⟨e,?_⟩;rcases k with k|⟨g,cap,H,a5,f,y,a8⟩
   ·exact .inl k
   ·exact .inr ⟨g,cap,H,a5,f,z y m,a8⟩
  ·exact gi al l (iE u)
 refine⟨⟨h.lo,h.hn,⟨ap,p,(C _ (fun a=>by rw[a,l]at m;cases m)).trans (z m (by decide)),u⟩,⟨_,cE _ E.pb 2 _ _ _ A,?_,fun o J=>⟨?_,?_⟩⟩,fun ao hy=>?_,h.nb⟩,⟨?_,fun b d a6 af=>?_⟩,?_,A⟩
 ·rw[aF];exact lI ak (gi ak A (by decide)) 2 _
 ·obtain⟨e,k⟩:=I o J;have a2:o.1≠E.pb:=fun a=>by
   rw[a,l]at e;simp only[iq,lC]at e;exact absurd e.2.1 (by decide)
  exact(C _ a2).trans ((f.block _ (au e) (fun a=>k a.symm)).trans e)
 ·obtain⟨e,k⟩:=I o J;intro a;have a:g=o.1:=by simpa [A9] using a
  rcases a0 with q|q
  ·exact k (by rw[q,a])
  ·have:=au e;omega
 ·rcases List.mem_append.1 hy with hy|hy
  ·exact⟨s (h.each ao hy).1 (by decide) (by decide),s (h.each ao hy).2 (by decide) (by decide)⟩
  ·obtain rfl:=List.mem_singleton.1 hy;exact⟨s on (by decide) (by decide),s a7 (by decide) (by decide)⟩
 ·show W.heap.size<=_;simp[World.setCell];exact f.size
 ·rw[C b (fun a=>by rw[a]at af;exact af _ _ l)];refine f.block b d (fun a=>?_);rcases t.2 with⟨q,_⟩|⟨av,ba,H,q,_,y,_⟩
  ·rw[q]at a;simp[A9]at a
  ·rw[q]at a;obtain rfl:b=av:=by simpa [A9] using a
   exact a6 _ _ y
 ·exact((ai _ W).grown f a1.2 (fun b d=>(t.lt b d).1)).setCell h.lo _
theorem akv(h:Sp E W i L B)(cp:1<=i)(cs:i<=E.n)(N:Nd)(an a:Option Addr)(mn cn mk ck:Nat)(on:W.ownsRow E.base 9 1 (.slice an mn cn) N.nm.length (N.nm.map A4))(b9:W.ownsRow E.base 3 1 (.slice a mk ck) N.ks.length (N.ks.map (A2 .i64)))(bD:L.length<=50000000):
  A8 Y 90 #[pV E,.agg (dE N (.slice an mn cn) (.slice a mk ck))] W fun e w'=>e= .returned (.int .i64 (L.length:Nat))/\Sp E w' i (L++[⟨{N with t:=(E.tk (i-1)).t},.slice an mn cn,.slice a mk ck⟩]) B/\Kt W w'/\A5 E.base W w':=by
 obtain⟨q,rfl⟩:∃q,i=q+1:=⟨i-1,by omega⟩;rw[mG];obtain⟨d,a4⟩:=aA L.length;rw[a4]at bD⊢;have b0:=h.lt;have cx:=h.hn;have bx:((q+1:Nat):Int)=(q:Int)+1:=by omega
 have ap:=fun r=>(h.below (bI W r)).cells.1;have J:=fun r=>(h.below (bI W r)).cells.2.1;have I:∀r,(W.alloc r).cell? ⟨E.tb,q*6+2,M⟩=O (.int .i64 (E.tk q).t):=fun r=>by
  obtain⟨c2,ct,c4,c7,I,c8,c9,da⟩:=(h.below (bI W r)).tok (q:=q) (by omega);exact I
 have bt:=ap (.cells (dE N (.slice an mn cn) (.slice a mk ck)) 36);have a9:=J (.cells (dE N (.slice an mn cn) (.slice a mk ck)) 36);have cc:=I (.cells (dE N (.slice an mn cn) (.slice a mk ck)) 36);have cr:(q:Int)<(E.n:Int):=by omega
 have cq:(0:Int)<=(q:Int):=by omega
 have cy:IntKind.i64.wrap ((q:Int)+1-1)=(q:Int):=by rw[cw];omega
 have cz:IntKind.i64.wrap (q:Int)=(q:Int):=by rw[cw];omega
 rw[bx]at J a9;have bb:=h.alloc (dE {N with t:=(E.tk q).t} (.slice an mn cn) (.slice a mk ck));have bf:=bI W (.cells (dE {N with t:=(E.tk q).t} (.slice an mn cn) (.slice a mk ck)) 36);have am:=eH bb bf;clear bb bf;go_in;go_wp2_with fail;go_region_held3 (fun w'=>w'.cell? ⟨E.pb,0,M⟩=O (.slice (O ⟨E.tb,0,M⟩) E.n E.cap)/\w'.cell? ⟨E.pb,1,M⟩=O (.int .i64 ((q:Int)+1))/\w'.cell? ⟨E.tb,q*6+2,M⟩=O (.int .i64 (E.tk q).t)) (exact⟨ap _,J _,I _⟩) (fail)
 obtain⟨b,G⟩:=aA ((W.alloc (.cells (dE {N with t:=(E.tk q).t} (.slice an mn cn) (.slice a mk ck)) 36)).drew);have m:Z (Sp E b (q+1) L ((W.heap.size,dE {N with t:=(E.tk q).t} (.slice an mn cn) (.slice a mk ck))::B)/\A5 W.heap.size W b):=by
  rw[<-G];exact⟨am.out.1.below ⟨rfl,rfl,rfl,ag _,fun _ _=>rfl⟩,am.out.2.drew⟩
 have b1:b.heap.size=W.heap.size+1:=by rw[<-G];show(W.alloc _).heap.size=_;simp
 simp only[dE]at G;rw[G];clear G am ap J I bt a9 cc;obtain⟨v,K,a1,cm⟩:=m.out.1.row;obtain⟨A,F,rfl⟩:=cH a1;have a0:b.cell? ⟨E.pb,2,M⟩=O (.slice A L.length F):=by rw[ay _ _ _ _ _ _ K];rfl
 rw[a4]at a0 K a1;go_wp2_with fail;have a3:b.heap[W.heap.size]?=O (.cells (dE {N with t:=(E.tk q).t} (.slice an mn cn) (.slice a mk ck)) 36 (0,0)):=m.out.1.box (bz ..);refine wp_region_held_drew (S:=fun ao=>ao.heap[W.heap.size]?=O (.cells (dE {N with t:=(E.tk q).t} (.slice an mn cn) (.slice a mk ck)) 36 (0,0))) (by kernel_rfl) a3 (fun hS=>?_);simp only[jG,cC,gq,Nat.reduceAdd,mC,mD,mE,fx,fy];refine di 0 (.pointer (O ⟨E.pb,0,M⟩)) rfl rfl (by kernel_rfl) (fun _ _ _=>id) hS (fun w' y=>by go_simp) ?_;simp only[List.set];refine di 1 (.pointer (O ⟨E.pb,0,M⟩)) rfl rfl (by kernel_rfl) (fun _ _ _=>id) hS (fun w' y=>by go_simp) ?_;simp only[List.set];refine di 2 (.pointer (O ⟨E.pb,0,M⟩)) rfl rfl (by kernel_rfl) (fun _ _ _=>id) hS (fun w' y=>by go_simp) ?_;simp only[List.set];refine di 3 (.pointer (O ⟨E.pb,2,M⟩)) rfl rfl (by kernel_rfl) (fun _ _ _=>id) hS (fun w' y=>by go_simp) ?_;simp only[List.set];refine Er 5 23 (.agg #[.int .i64 N.k,.int .i64 N.f,.int .i64 (E.tk q).t,.int .i64 N.l,.int .i64 N.op,.int .i64 N.n,.string N.x,.slice an mn cn,.slice a mk ck]) rfl rfl (by kernel_rfl) (by kernel_rfl) (by kernel_rfl) (fun _ _ _ h=>h) (by rfl) hS (fun w' y=>by obtain⟨z0,dd,df,dg,dj,al,bs,dn,dp,ds⟩:=aq (N:={N with t:=(E.tk q).t}) (vn:= .slice an mn cn) (vk:= .slice a mk ck) y;go_simp) ?_;simp only[Act.put,dv,dw,dA];have bE:=a0;refine xa (S:=fun ao=>ao.cell? ⟨E.pb,2,M⟩=O (.slice A d F)) (C:=fun j=>!(j==7||j==8||j==9||j==10)) (i:=4) (v:= .slice A d F) rfl (DH (by kernel_rfl)) (fun _ _ _ h=>h) ?hC _ _ _ _ (DI rfl (by kernel_rfl)) (List.contains_iff_mem.1 (by kernel_rfl)) (Or.inl ⟨by rfl,fun w' y=>by go_simp⟩) hS bE ?_
 case hC=>
  intro j c3 bk g;simp only[Bool.not_eq_false',yK,jH]at g;rcases g with((rfl|rfl)|rfl)|rfl
  ·obtain rfl:=db bk;exact⟨{on:=4,ground:=Ground.data},by simp,rfl,rfl⟩
  all_goals
   obtain rfl:=db bk;exact⟨{on:=4,ground:=Ground.phase},by simp,rfl,rfl⟩
 simp only[Act.put,dv,dw,dA];refine jj (i:=6) (by kernel_rfl) rfl (fun l c=>?_);go_simp;have a2:A5 b.heap.size b (b.drew.alloc (.cells (dE {N with t:=(E.tk q).t} (.slice an mn cn) (.slice a mk ck)) 36)):=(be (ai _ _)).alloc (by simp) _;refine c.out _ _ ((a2.block _ (au a3)).trans a3) (fun _=>ah a2 a0) ?_;clear c l;try simp only[dv,dw,dA]
 obtain⟨z,H⟩:=aA ((b.alloc (.cells (dE {N with t:=(E.tk q).t} (.slice an mn cn) (.slice a mk ck)) 36)).drew);have o:A5 b.heap.size b z:=by rw[<-H];exact be (bI b _)
 have b2:z.heap[b.heap.size]?=O (.cells (dE {N with t:=(E.tk q).t} (.slice an mn cn) (.slice a mk ck)) 36 (0,0)):=by rw[<-H];exact ar b _
 simp only[dE]at H;rw[H];clear H a2 hS;have cb:=m.out.1.below o;have ca:=(o.block _ (au K)).trans K;have bA:=aI a1 o;have bl:=m.out.1.lt;obtain⟨b3,b4,b5,b7,b8⟩:=fl zn;refine jj (i:=7) (by kernel_rfl) rfl (fun l c=>?_);refine step_append_lies _ (by rfl) _ _ 24 (by rfl) E.base 36 b3 _ 9 112 Tryz.underlying24 b4 b5 b7 b8 rfl (by decide) (.slice A d F) d _ (by rfl) bA ⟨b.heap.size,0,M⟩ 1 1 (dE {N with t:=(E.tk q).t} (.slice an mn cn) (.slice a mk ck)).toList (by rw[b1];rfl) rfl (B0 b2) (by intro dc bn;simp at bn;rcases bn with rfl|rfl|rfl|rfl|rfl|rfl|rfl|rfl|rfl<;>rfl) (by decide) (by unfold B5;omega) (by omega) (dh bl.2 o.size) z.heap.size rfl ?_;intro u s p a5 bj bd cu;have ba:mi L++(dE {N with t:=(E.tk q).t} (.slice an mn cn) (.slice a mk ck)).toList=mi (L++[⟨{N with t:=(E.tk q).t},.slice an mn cn,.slice a mk ck⟩]):=by rw[vz];show _=mi L++(cMb _++[]);rw[fj];rfl
 rw[ba]at a5;have bq:z.ownsRow E.base 9 1 (.slice an mn cn) N.nm.length (N.nm.map A4):=aI (aI on m.out.2) o;have bp:z.ownsRow E.base 3 1 (.slice a mk ck) N.ks.length (N.ks.map (A2 .i64)):=aI (aI b9 m.out.2) o;obtain⟨af,bo,a8,a6⟩:=cb.push ca (by rw[a4]) ⟨{N with t:=(E.tk q).t},.slice an mn cn,.slice a mk ck⟩ a5 bj bd bq bp;have al:p.heap[W.heap.size]?=O (.cells (dE {N with t:=(E.tk q).t} (.slice an mn cn) (.slice a mk ck)) 36 (0,0)):=by
  have br:=af.box (bz ..);rw[bh _ _ _ _ (by show W.heap.size≠E.pb;omega)]at br;exact br
 have bs:=af.box (bz ..);have cf:p.cell? ⟨E.pb,2,M⟩=O (.slice A d F):=by rw[ay _ _ _ _ _ _ a6];rfl
 have cl:p.frozen? ⟨E.pb,2,M⟩=Br:=dI _ _ _ _ _ a6;have a7:Z (Sp E (p.setCell ⟨E.pb,2,M⟩ (.slice (O ⟨u,0,M⟩) (d+1) s)) (q+1) (L++[⟨{N with t:=(E.tk q).t},.slice an mn cn,.slice a mk ck⟩]) B/\Kt W (p.setCell ⟨E.pb,2,M⟩ (.slice (O ⟨u,0,M⟩) (d+1) s))/\A5 E.base W (p.setCell ⟨E.pb,2,M⟩ (.slice (O ⟨u,0,M⟩) (d+1) s))):=
  ⟨af.tail,((Kt.of_below m.out.2).trans (Kt.of_below o)).trans bo,((m.out.2.mono b0.2).trans (o.mono bl.2)).trans a8⟩
 clear af bo a8 bq bp ba a5 bj bd;refine c.out _ _ al (fun g=>by cases g) ?_;clear c l;simp only[Act.put,dv,dw,dA];refine jj (i:=8) (by kernel_rfl) rfl (fun l c=>?_);go_simp;refine c.out _ _ al (fun g=>by cases g) ?_;clear c l;try simp only[dv,dw,dA]
 refine jj (i:=9) (by kernel_rfl) rfl (fun l c=>?_);go_simp;refine c.out _ _ al (fun g=>by cases g) ?_;clear c l;try simp only[dv,dw,dA]
 refine jj (i:=10) (by kernel_rfl) rfl (fun l c=>?_);go_simp;refine c.out _ _ bs (fun g=>by cases g) ?_;clear c l;refine Aa (by kernel_rfl) ?_ _;have bw:(p.setCell ⟨E.pb,2,M⟩ (.slice (O ⟨u,0,M⟩) (d+1) s)).cell? ⟨E.pb,2,M⟩=O (.slice (O ⟨u,0,M⟩) (d+1) s):=by rw[ay _ _ _ _ _ _ (cE _ E.pb 2 _ _ _ a6)];rfl
 generalize p.setCell ⟨E.pb,2,M⟩ (.slice (O ⟨u,0,M⟩) (d+1) s)=ce at a7 bw⊢;have cB:IntKind.i64.wrap ((d:Int)+1-1)=(d:Int):=by rw[cw];omega
 go_wp2_with fail;go_ret;exact⟨by go_num,a7.out⟩
end
structure gL (E:Pe) (W w:A3) (i:Nat) (L:List Mb) (B:List (Nat×Array Ax)):Prop where
 sp:Sp E w i L B
 kt:Kt W w
 bl:A5 E.base W w
def TB(w:A3)(b:Nat)(T:Tk):Prop:=w.heap[b]?=O (A1 #[U Q T.k,U Q T.f,U Q T.t,U Q T.l,U Q T.n,A6 T.x] 88 (0,0))
abbrev jL(k:Int)(T:Tk):Array Ax:=#[U Q k,U Q T.f,U Q T.t,U Q T.l,U Q T.n,A6 T.x]
abbrev nN(k:Int)(T:Tk):Nd:=⟨k,T.f,0,T.l,0,0,⟨#[]⟩,[],[]⟩
abbrev s0:Ax:= V M 0 0
section
variable {E : Pe} {W w w' : World} {i j : Nat} {L L1 L' : List Mb} {B B' : List (Nat × Array Value)}
theorem gL.start(h:Sp E W i L B):Z (gL E W W i L B):=⟨h,Kt.refl _,ai _ _⟩
theorem nX(h:Z (gL E W w i L B))(s:Sp E w' j L' B'/\Kt w w'/\A5 E.base w w'):Z (gL E W w' j L' B'):=⟨s.1,h.out.kt.trans s.2.1,h.out.bl.trans s.2.2⟩
theorem nB(h:Z (gL E W w i L B))(b:A5 w.heap.size w w'):Z (gL E W w' i L B):=nX h ⟨h.out.sp.below b,Kt.of_below b,b.mono h.out.sp.lt.2⟩
theorem nA(h:Z (gL E W w i L B))(cs:Array Ax):Z (gL E W (w.alloc (A1 cs 36)) i L ((w.heap.size,cs)::B)):=nX h ⟨h.out.sp.alloc cs,Kt.of_below (bI w _),(bI w _).mono h.out.sp.lt.2⟩
theorem nP{R:Fo}(h:Z (gL E W w i L B))(p:Ld E w w' L L' B R j):Z (gL E W w' j L' B):=nX h ⟨p.sp,p.kt,p.bl⟩
theorem nS{b:Nat}{cs:Array Ax}(h:Z (gL E W w i L ((b,cs)::B)))(a:E.base<=b)(q:Nat)(u:Ax):Z (gL E W (w.setCell ⟨b,q,M⟩ u) i L ((b,cs.setIfInBounds q u)::B)):=nX h ⟨h.out.sp.set q u,h.out.sp.kset q u,(ai _ w).setCell a _⟩
theorem tN{q:Nat}{k:Int}(a:(E.tk q).k=k):Z (TB (w.alloc (A1 (jL k (E.tk q)) 88)) w.heap.size (E.tk q)):=by
 show _=_;rw[a];exact ar w _
theorem tK{b:Nat}{T:Tk}(h:Z (TB w b T))(k:Kt w w'):Z (TB w' b T):=k.blk h.out (by decide) (by decide)
theorem tB{b:Nat}{T:Tk}(h:Z (TB w b T))(k:A5 w.heap.size w w'):Z (TB w' b T):=tK h (Kt.of_below k)
theorem tC{b:Nat}{T:Tk}{k:Int}(h:Z (TB w b T))(a:T.k=k):w.cell? ⟨b,0,M⟩=O (U Q k)/\w.cell? ⟨b,1,M⟩=O (U Q T.f)/\w.cell? ⟨b,2,M⟩=O (U Q T.t)/\w.cell? ⟨b,3,M⟩=O (U Q T.l)/\w.cell? ⟨b,4,M⟩=O (U Q T.n)/\w.cell? ⟨b,5,M⟩=O (A6 T.x):=by
 rw[<-a];exact ur h.out
theorem tA{b:Nat}{T:Tk}{k:Int}(h:Z (TB w b T))(a:T.k=k)(o:Obj):(w.alloc o).cell? ⟨b,0,M⟩=O (U Q k)/\(w.alloc o).cell? ⟨b,1,M⟩=O (U Q T.f)/\(w.alloc o).cell? ⟨b,2,M⟩=O (U Q T.t)/\(w.alloc o).cell? ⟨b,3,M⟩=O (U Q T.l)/\(w.alloc o).cell? ⟨b,4,M⟩=O (U Q T.n)/\(w.alloc o).cell? ⟨b,5,M⟩=O (A6 T.x):=tC (tB h (bI w o)) a
theorem jb{k:Int}(b:(E.tk i).k=k)(h:Z (gL E W w i L B))(a:i<E.n):A8 Y 41 #[pV E] w fun e w'=>e= A0 (U Q k)/\A5 w.heap.size w w':=by
 rw[<-b];exact aej h.out.sp a
theorem ix{k:Int}(c:(E.tk i).k=k)(h:Z (gL E W w i L B))(b:i<E.n)(a:k≠6):A8 Y 86 #[pV E] w fun e w'=>e= A0 (B2 (jL k (E.tk i)))/\Sp E w' (i+1) L B/\Kt w w'/\A5 E.base w w':=by
 rw[<-c]at a⊢;exact amA h.out.sp b a
theorem du{k:Int}(c:(E.tk i).k=k)(h:Z (gL E W w i L B))(b:i<E.n):A8 Y 41 #[pV E] w fun e w'=>e= A0 (U Q k)/\Z (gL E W w' i L B):=(jb c h b).mono fun _ _ a=>⟨a.1,nB h a.2⟩
theorem jB{k:Int}(d:(E.tk i).k=k)(h:Z (gL E W w i L B))(c:i<E.n)(b:k≠6):A8 Y 86 #[pV E] w fun e w'=>e= A0 (B2 (jL k (E.tk i)))/\Z (gL E W w' (i+1) L B):=(ix d h c b).mono fun _ _ a=>⟨a.1,nX h a.2⟩
theorem gA{k:Int}{q:Nat}(b:(E.tk q).k=k)(a:Int)(w:A3):A8 Y 87 #[U Q a,B2 (jL k (E.tk q))] w fun e w'=>e= A0 (B2 (dE (nN a (E.tk q)) s0 s0))/\A5 w.heap.size w w':=by
 rw[<-b];exact ahC a (E.tk q) w
theorem ni(h:Z (gL E W w i L1 B))(o:1<=i)(p:i<=E.n)(N:Nd)(an b:Option Addr)(mn cn mk ck:Nat)(on:w.ownsRow E.base 9 1 (V an mn cn) N.nm.length (N.nm.map A4))(r:w.ownsRow E.base 3 1 (V b mk ck) N.ks.length (N.ks.map (A2 Q)))(l:L1.length<=50000000)(k:Fr W.heap.size (V an mn cn))(g:Fr W.heap.size (V b mk ck))(a:Nd){R:Fo}(ac:Ac W.heap.size L L1 R)(m:({N with t:=(E.tk (i-1)).t}:Nd)={a with ks:=R.tops L.length}):
  A8 Y 90 #[pV E,B2 (dE N (V an mn cn) (V b mk ck))] w fun e w'=>∃d L',e= A0 (U Q d)/\(one a R).tops L.length=[d]/\Z (Ld E W w' L L' B (one a R) i):=by
 refine(akv h.out.sp o p N an b mn cn mk ck on r l).mono ?_;rintro e w' ⟨rfl,c,q,f⟩;rw[m]at c;exact⟨_,_,rfl,by rw[rK,ac.len],ac.add a k g,c,h.out.kt.trans q,h.out.bl.trans f⟩
theorem pT{R:Fo}{b:Nat×Array Ax}(h:Z (Ld E W w L L' (b::B) R j)):Z (Ld E W w L L' B R j):=⟨h.out.ac,h.out.sp.tail,h.out.kt,h.out.bl⟩
theorem nQ{R:Fo}(h:Z (gL E W w i L B))(p:Ld E w w' L L' B R j):Z (Ld E W w' L L' B R j):=⟨p.ac.le h.out.kt.size,p.sp,h.out.kt.trans p.kt,h.out.bl.trans p.bl⟩
theorem tL{q:Nat}{k:Int}(b:(E.tk q).k=k)(h:Z (gL E W w i L B)):∃a,w.alloc (A1 (jL k (E.tk q)) 88)=a/\Z (gL E W a i L B)/\Z (TB a w.heap.size (E.tk q)):=⟨_,rfl,nB h (bI _ _),tN b⟩
theorem aek{t:Int}{b:Bool}(h:jk t=b)(w:A3):A8 Y 126 #[U Q t] w fun e w'=>e= A0 (B3 b)/\w'=w:=by
 rw[<-h];exact rg w t
theorem akw{t:Int}{b:Bool}(h:ie t=b)(w:A3):A8 Y 129 #[U Q t] w fun e w'=>e= A0 (B3 b)/\w'=w:=by
 rw[<-h];exact xK w t
theorem amB{t:Int}{b:Bool}(h:dJ t=b)(w:A3):A8 Y 81 #[U Q t] w fun e w'=>e= A0 (B3 b)/\w'=w:=by
 rw[<-h];exact rh w t
theorem nL{R:Fo}(h:Z (gL E W w i L B))(p:Ld E w w' L L' B R j):Z (Ac W.heap.size L L' R):=p.ac.le h.out.kt.size
end
section
variable {E : Pe} {i j : Nat}
theorem tw{k c:Int}(r:(k=24/\c=20)\/(k=29/\c=21)\/(k=17/\c=22)\/(k=49/\c=27))(a:(E.tk i).k=k)(A:i+1<E.n):CI E 130 #[pV E] i (one (iB c (E.tk i) (E.tk i).t) .nil) (i+1):=by
 intro W L B d s;have f:=gL.start d;clear d;rcases r with⟨rfl,rfl⟩|⟨rfl,rfl⟩|⟨rfl,rfl⟩|⟨rfl,rfl⟩;all_goals
  go_in;go_wp2_with fail;refine cd (du a f (by omega)) fun w1 g=>?_;go_wp2_with fail;refine cd (du a g (by omega)) fun F h=>?_;go_wp2_with fail;refine cd (jB a h (by omega) (by omega)) fun x l=>?_;obtain⟨G,e,m,p⟩:=tL (w:=x) a l;simp only[jL]at e;obtain⟨J,K,af,ak,al,am⟩:=tC p a;go_wp2_with fail;refine cd (aek (b:=Br) (by decide) _) fun w' C=>?_;subst w';clear e;go_wp2_with fail;refine cd (gA a _ _) fun H q=>?_;have o:=nB m q;go_wp2_with fail;refine(ni o (by omega) (by omega) (nN _ (E.tk i)) M M 0 0 0 0 (bi _ _ _ _) (bi _ _ _ _) (by simp only[aJ]at s;omega) (Fr.nil _ _ _) (Fr.nil _ _ _) (iB _ (E.tk i) (E.tk i).t) (Ac.nil _ L) rfl).mono ?_;rintro z I ⟨an,y,rfl,u,v⟩;go_wp2_with fail;go_ret;exact⟨_,_,rfl,u,v.out⟩
theorem xw{k d c:Int}{e:ByteArray}(z:(k=2/\d=23/\c=(E.tk i).n/\e=z0)\/(k=3/\d=24/\c=0/\e=(E.tk i).x)\/(k=4/\d=25/\c=0/\e=(E.tk i).x))(a:(E.tk i).k=k)(J:i+1<E.n):CI E 130 #[pV E] i (one (nd d (E.tk i) (E.tk i).t 0 c e []) .nil) (i+1):=by
 intro W L B p A;have r:=gL.start p;clear p;rcases z with⟨rfl,rfl,rfl,rfl⟩|⟨rfl,rfl,rfl,rfl⟩|⟨rfl,rfl,rfl,rfl⟩;all_goals
  go_in;go_wp2_with fail;refine cd (du a r (by omega)) fun w1 s=>?_;go_wp2_with fail;refine cd (du a s (by omega)) fun af u=>?_;go_wp2_with fail;refine cd (jB a u (by omega) (by omega)) fun G v=>?_;obtain⟨ak,q,y,m⟩:=tL (w:=G) a v;simp only[jL]at q;obtain⟨an,ao,ap,av,a0,a1⟩:=tC m a;go_wp2_with fail;refine cd (aek (b:=Br) (by decide) _) fun w' K=>?_;subst w';clear q;go_wp2_with fail;refine cd (gA a _ _) fun al o=>?_;have h:=tA (tB m o) a;have a2:=fun g=>(h g).2.2.2.2.1;have a3:=fun g=>(h g).2.2.2.2.2;clear h;go_wp2_with fail;refine(ni (nA (nB y o) _) (by omega) (by omega) ⟨_,(E.tk i).f,0,(E.tk i).l,0,_,_,[],[]⟩ M M 0 0 0 0 (bi _ _ _ _) (bi _ _ _ _) (by simp only[aJ]at A;omega) (Fr.nil _ _ _) (Fr.nil _ _ _) (nd _ (E.tk i) (E.tk i).t 0 _ _ []) (Ac.nil _ L) rfl).mono ?_;rintro I am ⟨a4,H,rfl,C,F⟩;go_wp2_with fail;go_ret;exact⟨_,_,rfl,C,(pT F).out⟩
theorem ahE(a:(E.tk i).k=18)(z:i<E.n){R:Fo}(q:CI E 92 #[pV E,B2 (dE (nN 36 (E.tk i)) s0 s0)] (i+1) R j):CI E 130 #[pV E] i R j:=by
 intro W L B d r;have f:=gL.start d;clear d;go_in;go_wp2_with fail;refine cd (du a f (by omega)) fun w1 g=>?_;go_wp2_with fail;refine cd (du a g (by omega)) fun C h=>?_;go_wp2_with fail;refine cd (jB a h (by omega) (by omega)) fun v l=>?_;obtain⟨F,e,m,o⟩:=tL (w:=v) a l;simp only[jL]at e;obtain⟨I,J,K,af,ak,al⟩:=tC o a;go_wp2_with fail;refine cd (aek (b:=Br) (by decide) _) fun w' A=>?_;subst w';clear e;go_wp2_with fail;refine cd (gA a _ _) fun G p=>?_;have c:=nB m p;go_wp2_with fail;refine(q _ _ _ c.out.sp r).mono ?_;rintro y H ⟨am,x,rfl,s,t⟩;have u:=nQ c t;go_wp2_with fail;go_ret;exact⟨_,_,rfl,s,u.out⟩
theorem abJ{k:Int}(q:k=1\/k=40)(b:(E.tk i).k=k)(t:i<E.n){R:Fo}(h:CI E 95 #[pV E] i R j):CI E 130 #[pV E] i R j:=by
 intro W L B g l;have f:=gL.start g;clear g;rcases q with rfl|rfl
 ·go_in;go_wp2_with fail;refine cd (du b f (by omega)) fun w1 a=>?_;go_wp2_with fail;refine(h _ _ _ a.out.sp l).mono ?_;rintro p r ⟨s,m,rfl,c,d⟩;have e:=nQ a d;go_wp2_with fail;go_ret;exact⟨_,_,rfl,c,e.out⟩
 ·go_in;go_wp2_with fail;refine cd (du b f (by omega)) fun w1 o=>?_;go_wp2_with fail;refine cd (du b o (by omega)) fun u a=>?_;go_wp2_with fail;refine(h _ _ _ a.out.sp l).mono ?_;rintro p r ⟨s,m,rfl,c,d⟩;have e:=nQ a d;go_wp2_with fail;go_ret;exact⟨_,_,rfl,c,e.out⟩
end
section
variable {E : Pe} {W w w' : World} {i j : Nat} {L L1 L' : List Mb} {B B' : List (Nat × Array Value)}
theorem nC{b:Nat}{N:Nd}{vn vk:Ax}(h:Z (gL E W w i L ((b,dE N vn vk)::B))):w.cell? ⟨b,0,M⟩=O (U Q N.k)/\w.cell? ⟨b,1,M⟩=O (U Q N.f)/\w.cell? ⟨b,2,M⟩=O (U Q N.t)/\w.cell? ⟨b,3,M⟩=O (U Q N.l)/\w.cell? ⟨b,4,M⟩=O (U Q N.op)/\w.cell? ⟨b,5,M⟩=O (U Q N.n)/\w.cell? ⟨b,6,M⟩=O (A6 N.x)/\w.cell? ⟨b,7,M⟩=O vn/\w.cell? ⟨b,8,M⟩=O vk/\∀j,w.frozen? ⟨b,j,M⟩=Br:=aq (h.out.sp.box (bz ..))
theorem oK{e n:Nat}{v:Ax}{b:List Ax}(o:Z (w.ownsRow E.base e 1 v n b))(k:Kt w w')(a:e=3\/e=9):Z (w'.ownsRow E.base e 1 v n b):=k.row o.out (by rcases a with rfl|rfl<;>decide) (by rcases a with rfl|rfl<;>decide)
theorem nK{b:Nat}{N:Nd}{vn vk:Ax}(h:Z (gL E W w i L ((b,dE N vn vk)::B)))(a:E.base<=b)(v:Ax):Z (gL E W (w.setCell ⟨b,8,M⟩ v) i L ((b,dE N vn v)::B))/\Kt w (w.setCell ⟨b,8,M⟩ v):=⟨nS h a 8 v,h.out.sp.kset 8 v⟩
theorem amC(l:List Int)(cs:Array Ax)(o:cs=(l.map (A2 Q)).toArray)(s:l.length<=100)(h:Z (gL E W w i L1 B))(p:1<=i)(q:i<=E.n)(N:Nd)(an:Option Addr)(mn cn:Nat)(on:w.ownsRow E.base 9 1 (V an mn cn) N.nm.length (N.nm.map A4))(m:Nat)(u:l.length=m)(r:N.ks=l)(g:L1.length<=50000000)(f:Fr W.heap.size (V an mn cn))(a:Nd){R:Fo}(ac:Ac W.heap.size L L1 R)(k:({N with t:=(E.tk (i-1)).t}:Nd)={a with ks:=R.tops L.length}):
  A8 Y 90 #[pV E,B2 (dE N (V an mn cn) (V (O ⟨w.heap.size+1,0,M⟩) m m))] ((w.alloc (A1 (dE N (V an mn cn) (V (O ⟨w.heap.size+1,0,M⟩) m m)) 36)).alloc (A1 cs 3)) fun e w'=>∃b L',e= A0 (U Q b)/\(one a R).tops L.length=[b]/\Z (Ld E W w' L L' B (one a R) i):=by
 subst o u;have x:=nA h (dE N (V an mn cn) (V (O ⟨w.heap.size+1,0,M⟩) l.length l.length));have c:=bI (w.alloc (A1 (dE N (V an mn cn) (V (O ⟨w.heap.size+1,0,M⟩) l.length l.length)) 36)) (A1 (l.map (A2 Q)).toArray 3);have y:=nB x c;have d:=qA (w.alloc (A1 (dE N (V an mn cn) (V (O ⟨w.heap.size+1,0,M⟩) l.length l.length)) 36)) l l.length rfl s;rw[bu]at d;refine(ni y p q N an _ mn cn _ _ (aI (aI on (bI _ _)) c) (by rw[r];exact my d (by have:=h.out.sp.lt.2;omega)) g f (Fr.new (by have:=h.out.kt.size;omega)) a ac k).mono ?_;rintro e w' ⟨b,L',rfl,v,z⟩;exact⟨b,L',rfl,v,pT z⟩
theorem nCA{b:Nat}{N:Nd}{vn vk:Ax}(h:Z (gL E W w i L ((b,dE N vn vk)::B)))(o:Obj):(w.alloc o).cell? ⟨b,8,M⟩=O vk/\∀j,(w.alloc o).frozen? ⟨b,j,M⟩=Br:=(nC (nB h (bI w o))).2.2.2.2.2.2.2.2
theorem nKI{b:Nat}{N:Nd}{vn vk:Ax}(l:List Int)(cs:Array Ax)(f:cs=(l.map (A2 Q)).toArray)(m:Nat)(k:l.length=m)(h:Z (gL E W w i L ((b,dE N vn vk)::B)))(e:E.base<=b)(g:m<=100):∃a,(w.alloc (A1 cs 3)).setCell ⟨b,8,M⟩ (V (O ⟨w.heap.size,0,M⟩) m m)=a/\Z (gL E W a i L ((b,dE N vn (V (O ⟨w.heap.size,0,M⟩) m m))::B))/\Z (a.ownsRow E.base 3 1 (V (O ⟨w.heap.size,0,M⟩) m m) l.length (l.map (A2 Q)))/\Kt w a:=by
 subst f k;have c:=bI w (A1 (l.map (A2 Q)).toArray 3);have n:=nB h c;obtain⟨o,d⟩:=nK n e (V (O ⟨w.heap.size,0,M⟩) l.length l.length);exact⟨_,rfl,o,oK (E:=E) (my (qA w l l.length rfl g) h.out.sp.lt.2) d (.inl rfl),(Kt.of_below c).trans d⟩
theorem ahF{k:Nat}(r:(E.tk i).k=42)(J:i<E.n){S:Fo}(hS:CL E 21 #[pV E,U Q 43] (i+1) S k)(K:(E.tk k).k=43)(a7:k+1<E.n):CI E 84 #[pV E] i (one (iB 1 (E.tk i) (E.tk k).t) S) (k+1):=by
 intro W L B q s;have x:=gL.start q;clear q;go_in;go_wp2_with fail;refine cd (jB r x J (by omega)) fun w1 y=>?_;go_wp2_with fail;refine cd (gA r _ _) fun a9 o=>?_;have e:=nB y o;have I:=aj e.out.sp.lt.2;have a:=nA e (dE (nN 1 (E.tk i)) s0 s0);go_wp2_with fail;refine(hS _ _ _ a.out.sp (by simp only[aJ]at s;omega)).mono ?_;rintro H ba ⟨a8,a5,rfl,⟨p,_⟩,b,c⟩;have z:=aj b;obtain⟨F,G,rfl⟩:=cH b;have g:=nP a c;have ac:=nL a c;have v:Z (Fr W.heap.size _):=p.le a.out.kt.size;clear p;obtain⟨am,an,ao,ap,av,a0,a1,a2,a3,a4⟩:=nC g;obtain⟨h,u⟩:=nK g I.out (V F S.len G);have A:=oK z u (.inl rfl);clear b c o u;go_wp2_with fail;refine cd (ix K h (by omega) (by omega)) fun bb d=>?_;have m:=nX h d;have C:=oK A d.2.1 (.inl rfl);obtain⟨am,an,ao,ap,av,a0,a1,a2,a3,a4⟩:=nC m;clear d;go_wp2_with fail;refine(ni m (by omega) (by omega) ⟨1,(E.tk i).f,0,(E.tk i).l,0,0,⟨#[]⟩,[],S.tops L.length⟩ M _ 0 0 _ _ (bi _ _ _ _) (by rw[Fo.tops_len];exact C.out) (by rw[ac.out.len];simp only[aJ]at s;omega) (Fr.nil _ _ _) v.out (iB 1 (E.tk i) (E.tk k).t) ac.out rfl).mono ?_;rintro H bd ⟨bf,a6,rfl,af,al⟩;go_wp2_with fail;go_ret;exact⟨_,_,rfl,af,(pT al).out⟩
theorem akx(k:Int)(w:A3):A8 Y 150 #[U Q k] w fun e w'=>e= A0 (U Q (Iv k))/\w'=w:=by
 unfold Iv;by_cases a:k=25
 ·subst a;go_in;go_wp2;go_ret;exact⟨rfl,rfl⟩
 by_cases b:k=50
 ·subst b;go_in;go_wp2;go_ret;exact⟨rfl,rfl⟩
 by_cases c:k=69
 ·subst c;go_in;go_wp2;go_ret;exact⟨rfl,rfl⟩
 ·rw[aa a,aa b,aa c];have d:(k==25)=Br:=by simp[a]
  have f:(k==50)=Br:=by simp[b]
  have g:(k==69)=Br:=by simp[c]
  go_in;go_wp2;go_ret;exact⟨rfl,rfl⟩
theorem ael{k:Int}(F:k=25\/k=50\/k=62\/k=69)(a:(E.tk i).k=k)(a3:i<E.n){x:Fo}(I:CI E 130 #[pV E] (i+1) x j)(a4:i+1<=j)(G:j<=E.n):CI E 130 #[pV E] i (one (nd 30 (E.tk i) (E.tk (j-1)).t (Iv (E.tk i).k) 0 z0 []) x) j:=by
 intro W L B m o;have s:=gL.start m;clear m;rw[a];rcases F with rfl|rfl|rfl|rfl;all_goals
  go_in;go_wp2_with fail;refine cd (du a s (by omega)) fun w1 u=>?_;go_wp2_with fail;refine cd (du a u (by omega)) fun a5 v=>?_;go_wp2_with fail;refine cd (jB a v (by omega) (by omega)) fun al y=>?_;obtain⟨a6,p,d,e⟩:=tL (w:=al) a y;simp only[jL]at p;obtain⟨am,an,ao,ap,av,a0⟩:=tC e a;go_wp2_with fail;refine cd (aek (b:=B6) (by decide) _) fun w' H=>?_;subst w';clear p;go_wp2_with fail;refine(I _ _ _ d.out.sp (by simp only[aJ]at o;omega)).mono ?_;rintro C a7 ⟨r,a1,rfl,J,c⟩;have z:=nP d c;have ac:=nL d c;have g:=tK e c.kt;obtain⟨am,an,ao,ap,av,a0⟩:=tC g a;clear c;go_wp2_with fail;refine cd (gA a _ _) fun a8 h=>?_;have A:=nB z h;have q:=tA (tB g h) a;have ba:=fun af=>(q af).1;clear q;go_wp2_with fail;refine cd (akx _ _) fun w' H=>?_;subst w';go_wp2_with fail;refine(amC [r] _ rfl (by simp) A (by omega) G ⟨30,(E.tk i).f,0,(E.tk i).l,_,0,⟨#[]⟩,[],[r]⟩ M 0 0 (bi _ _ _ _) 1 rfl rfl (by rw[ac.out.len];simp only[aJ]at o;omega) (Fr.nil _ _ _) (nd 30 (E.tk i) (E.tk (j-1)).t _ 0 z0 []) ac.out (by rw[J];rfl)).mono ?_;rintro C a9 ⟨bb,a2,rfl,K,ak⟩;go_wp2_with fail;go_ret;exact⟨_,_,rfl,K,ak.out⟩
theorem isY{k:Int}(b:(E.tk i).k=k)(h:Z (gL E W w i L B))(a:i<E.n):A8 Y 42 #[pV E,U Q k] w fun e w'=>e= A0 (B3 B6)/\Sp E w' (i+1) L B/\Kt w w'/\A5 E.base w w':=ahD h.out.sp a k b
theorem isN{k:Int}(b:(E.tk i).k≠k)(h:Z (gL E W w i L B))(a:i<E.n):A8 Y 42 #[pV E,U Q k] w fun e w'=>e= A0 (B3 Br)/\A5 w.heap.size w w':=aku h.out.sp a k b
theorem nM{b:Nat}{N:Nd}{vn vk:Ax}(h:Z (gL E W w i L ((b,dE N vn vk)::B)))(a:E.base<=b)(v:Ax):Z (gL E W (w.setCell ⟨b,7,M⟩ v) i L ((b,dE N v vk)::B))/\Kt w (w.setCell ⟨b,7,M⟩ v):=⟨nS h a 7 v,h.out.sp.kset 7 v⟩
def CM(E:Pe)(i:Nat)(ns:List ByteArray)(j:Nat):Prop:=
 ∀(W:A3)(L:List Mb)(B:List (Nat×Array Ax)),Sp E W i L B->A8 Y 88 #[pV E] W fun b w'=>∃a,b= A0 a/\Fr W.heap.size a/\w'.ownsRow E.base 9 1 a ns.length (ns.map A4)/\Sp E w' j L B/\Kt W w'/\A5 E.base W w'
end
section
variable {E : Pe} {W w w' : World} {i j : Nat} {L L1 L' : List Mb} {B B' : List (Nat × Array Value)}
theorem LH(l:List Int)(cs:Array Ax)(s:cs=(l.map (A2 Q)).toArray)(y:l.length<=100)(h:Z (gL E W w i L1 B))(u:1<=i)(v:i<=E.n)(N:Nd)(m:Nat)(z:l.length=m)(x:N.ks=l)(A:N.nm=[])(q:L1.length<=50000000)(a:Nd){R:Fo}(ac:Ac W.heap.size L L1 R)(r:({N with t:=(E.tk (i-1)).t}:Nd)={a with ks:=R.tops L.length}):
  A8 Y 90 #[pV E,B2 (dE N s0 (V (O ⟨w.heap.size+1,0,M⟩) m m))] ((w.alloc (A1 (dE N s0 (V (O ⟨w.heap.size+1,0,M⟩) m m)) 36)).alloc (A1 cs 3)) fun e w'=>∃k L',e= A0 (U Q k)/\(one a R).tops L.length=[k]/\Z (Ld E W w' L L' B (one a R) i)/\Kt w w':=by
 subst s z;have C:=nA h (dE N s0 (V (O ⟨w.heap.size+1,0,M⟩) l.length l.length));have p:=bI w (A1 (dE N s0 (V (O ⟨w.heap.size+1,0,M⟩) l.length l.length)) 36);have c:=bI (w.alloc (A1 (dE N s0 (V (O ⟨w.heap.size+1,0,M⟩) l.length l.length)) 36)) (A1 (l.map (A2 Q)).toArray 3);have b:=nB C c;have f:=qA (w.alloc (A1 (dE N s0 (V (O ⟨w.heap.size+1,0,M⟩) l.length l.length)) 36)) l l.length rfl y;rw[bu]at f;refine(akv b.out.sp u v N M _ 0 0 _ _ (by rw[A];exact bi _ _ _ _) (by rw[x];exact my f (by have:=h.out.sp.lt.2;omega)) q).mono ?_;rintro e w' ⟨rfl,g,d,o⟩;rw[r]at g;exact⟨_,_,rfl,by rw[rK,ac.len],⟨ac.add a (Fr.nil _ _ _) (Fr.new (by have:=h.out.kt.size;omega)),g.tail,b.out.kt.trans d,b.out.bl.trans o⟩,((Kt.of_below p).trans (Kt.of_below c)).trans d⟩
theorem amD(k:Int)(a:ie k=B6)(d:k<=78)(w:A3):A8 Y 131 #[U Q k] w fun e w'=>e= A0 (.tuple #[U Q (B7 k),U Q (rpw k)])/\w'=w:=by
 have b:k=10\/k=26\/60<k:=aH a;have c:k=10\/k=26\/k=61\/k=62\/k=63\/k=64\/k=65\/k=66\/k=67\/k=68\/k=69\/k=70\/k=71\/k=72\/k=73\/k=74\/k=75\/k=76\/k=77\/k=78:=by omega
 clear b a d;rcases c with rfl|rfl|rfl|rfl|rfl|rfl|rfl|rfl|rfl|rfl|rfl|rfl|rfl|rfl|rfl|rfl|rfl|rfl|rfl|rfl;all_goals
  go_in;go_wp2;first
   |(go_ret;exact⟨rfl,rfl⟩)
   |(go_ret2;exact⟨rfl,rfl⟩)
end
inductive Ms (E:Pe) (C:Int->Nat->Fo->Nat->Prop) (p:Int) (s:Tk):Nat->Fo->Nat->Fo->Nat->Prop where
 |stop {x:Fo}{k:Nat}:k<E.n->(ie (E.tk k).k=true->B7 (E.tk k).k<p)->Ms E C p s 0 x k x k
 |go {m k k1 j:Nat}{x y R:Fo}:k<E.n->ie (E.tk k).k=true->p<=B7 (E.tk k).k->C (rpw (E.tk k).k) (k+1) y k1->k+1<=k1->k1<=E.n->Ms E C p s m (one (qx (E.tk k).k s (E.tk (k1-1)).t) (x.app y)) k1 R j->Ms E C p s (m+1) x k R j
theorem Ms.le{E:Pe}{C:Int->Nat->Fo->Nat->Prop}{p:Int}{s:Tk}{m k j:Nat}{x R:Fo}(h:Ms E C p s m x k R j):x.sz<=R.sz:=by
 induction h with
 |stop=>exact ag _
 |go _ _ _ _ _ _ _ a=>rw[aJ,Fo.sz_app]at a;omega
section
variable {E : Pe} {i j : Nat}
abbrev CX(E:Pe)(p:Int)(i:Nat)(x:Fo)(j:Nat):Prop:=CI E 91 #[pV E,U Q p] i x j
structure ua (E:Pe) (W:A3) (L:List Mb) (B:List (Nat×Array Ax)) (w:A3) (k b q:Nat) (L1:List Mb) (X:Fo) (z:Int):Prop where
 nw:Z (gL E W w k L1 B)
 ac:Ac W.heap.size L L1 X
 tp:X.tops L.length=[z]
 tb:Z (TB w b (E.tk q))
theorem aky{p:Int}{x R:Fo}{k m:Nat}(cy:(E.tk i).k≠6)(cB:i<E.n)(a7:∀q,(E.tk q).k<=78)(bE:CI E 130 #[pV E] i x k)(a8:Ms E (CX E) p (E.tk i) m x k R j):CX E p i R j:=by
 intro W L B af dj;obtain⟨bx,bA,cu⟩:=af.cells;obtain⟨b2,b3,b4,b5,b8,b9⟩:=af.tkw cB cy;have df:(i:Int)<(E.n:Int):=by omega
 have dd:(0:Int)<=(i:Int):=by omega
 have dg:=af.hn;have dx:IntKind.i64.wrap (i:Int)=(i:Int):=by rw[cw];omega
 have bp:=gL.start af;have bk:=aj a8;have ds:=a8.le;clear af a8;go_in;go_wp2_with fail;go_region_held3 (fun w'=>w'.cell? ⟨E.pb,0,M⟩=O (V (O ⟨E.tb,0,M⟩) E.n E.cap)/\w'.cell? ⟨E.pb,1,M⟩=O (U Q (i:Int))/\w'.cell? ⟨E.tb,i*6,M⟩=O (U Q (E.tk i).k)/\w'.cell? ⟨E.tb,i*6+1,M⟩=O (U Q (E.tk i).f)/\w'.cell? ⟨E.tb,i*6+2,M⟩=O (U Q (E.tk i).t)/\w'.cell? ⟨E.tb,i*6+3,M⟩=O (U Q (E.tk i).l)/\w'.cell? ⟨E.tb,i*6+4,M⟩=O (U Q (E.tk i).n)/\w'.cell? ⟨E.tb,i*6+5,M⟩=O (A6 (E.tk i).x)) (first|go_keep|exact⟨bx,bA,b2,b3,b4,b5,b8,b9⟩) (fail)
 obtain⟨bt,al⟩:=aA ((W.alloc (A1 (jL (E.tk i).k (E.tk i)) 88)).drew);have bw:A5 W.heap.size W bt:=by rw[<-al];exact be (bI W _)
 have ao:=nB bp bw;have bq:Z (TB bt W.heap.size (E.tk i)):=by rw[<-al];exact ar W _
 simp only[jL]at al;rw[al];clear al bw bx bA cu b2 b3 b4 b5 b8 b9 bp;go_wp2_with fail;refine(bE _ _ _ ao.out.sp (by omega)).mono ?_;rintro F c5 ⟨ck,bn,rfl,b0,p2⟩;have bj:Z (ua E W L B c5 k W.heap.size i bn x ck):=⟨nP ao p2,(nL ao p2).out,b0,tK bq p2.kt⟩;clear b0 p2 ao bq bE;go_wp2_with fail;go_loopg [6] m (fun gk c4 wr=>∃(k:Nat) (A:Fo) (h:Int) (L1:List Mb),c4= U Q h/\Z (Ms E (CX E) p (E.tk i) gk A k R j/\ua E W L B wr k W.heap.size i L1 A h))
 case atStart=>exact⟨k,x,ck,bn,rfl,bk.out,bj.out⟩
 case round=>
  clear bj bk;obtain⟨b,A,h,bo,rfl,a1⟩:=hrel;obtain⟨cx,G⟩:=a1.out;cases cx with
  |stop y bD=>
   have J:=G.nw;have a:=aj G;clear G a1;cases e:ie (E.tk j).k with
   |false=>
    go_wp2_with fail;refine cd (jb rfl J y) fun ca v=>?_;go_wp2_with fail;refine cd (akw e _) fun w' a0=>?_;subst w';go_wp2_with fail;go_ret;have g:=nB a.out.nw v;exact⟨_,bo,rfl,a.out.tp,a.out.ac,g.out.sp,g.out.kt,g.out.bl⟩
   |true=>
    have dp:=bD e;go_wp2_with fail;refine cd (jb rfl J y) fun ca v=>?_;have g:=nB a.out.nw v;go_wp2_with fail;refine cd (akw e _) fun w' a0=>?_;subst w';go_wp2_with fail;refine cd (jb rfl g y) fun c6 K=>?_;have z:=nB g K;go_wp2_with fail;refine cd (amD _ e (a7 _) _) fun w' a0=>?_;subst w';go_wp2_with fail;go_ret;exact⟨_,bo,rfl,a.out.tp,a.out.ac,z.out.sp,z.out.kt,z.out.bl⟩
  |@go bb _ d _ _ bf c8 y e bD cv dc a5 a6=>
   have J:=G.nw;have a:=eH G a6;have c2:=a6.le;rw[aJ,Fo.sz_app]at c2;have dn:¬B7 (E.tk b).k<p:=by omega
   have cz:(E.tk b).k≠6:=fun F=>by rw[F]at e;revert e;decide
   clear G a1 a6;go_wp2_with fail;refine cd (jb rfl J y) fun ca v=>?_;have g:=nB J v;have cn:=tB a.out.1.tb v;go_wp2_with fail;refine cd (akw e _) fun w' a0=>?_;subst w';go_wp2_with fail;refine cd (jb rfl g y) fun c6 K=>?_;have z:=nB g K;have cp:=tB cn K;go_wp2_with fail;refine cd (amD _ e (a7 _) _) fun w' a0=>?_;subst w';clear v K;go_wp2_with fail;refine cd (ix rfl z y cz) fun cb bd=>?_;have cm:=nX z bd;have cq:=tK cp bd.2.1;clear bd;have bs:=tB cq (bI cb (A1 (jL (E.tk b).k (E.tk b)) 88));obtain⟨d3,a9,a3,ct⟩:=tL (w:=cb) (q:=b) rfl cm;rw[a9]at bs;simp only[jL]at a9;go_wp2_with fail;clear a9;refine(cv _ _ _ a3.out.sp (by rw[a.out.1.ac.len];omega)).mono ?_;rintro F d1 ⟨H,c7,rfl,ba,am⟩;have cl:=nP a3 am;have C:=nL a3 am;have cr:=tK ct am.kt;have br:=tK bs am.kt;clear am;obtain⟨d4,d5,d6,d7,d8,d9⟩:=tC br rfl;go_wp2_with fail;refine cd (gA (q:=i) rfl _ _) fun d2 ap=>?_;have a2:=nB cl ap;have cs:=tB cr ap;have a4:=tB br ap;clear ap;have ce:=tA cs (k:=(E.tk b).k) rfl;have cc:=fun c3=>(ce c3).1;clear ce;have d0:IntKind.i64.wrap ((E.tk b).k-60)=(E.tk b).k-60:=by rw[cw];have:=a7 b;have:(E.tk b).k=10\/(E.tk b).k=26\/60<(E.tk b).k:=aH e;omega
   by_cases ak:(E.tk b).k=10
   ·rw[ak]at cc;go_wp2_with fail;refine(LH [h,H] _ rfl (by simp) a2 (by omega) a5 ⟨28,(E.tk i).f,0,(E.tk i).l,0,0,⟨#[]⟩,[],[h,H]⟩ 2 rfl rfl rfl (by rw[C.out.len,a.out.1.ac.len];omega) (qx (E.tk b).k (E.tk i) (E.tk (d-1)).t) (a.out.1.ac.app C.out) (by rw[Fo.tops_app,a.out.1.tp,<-a.out.1.ac.len,ba];unfold qx;rw[ab ak];rfl)).mono ?_;rintro F an ⟨u,o,rfl,r,c,s⟩;have I:Z (ua E W L B an d W.heap.size i o (one (qx (E.tk b).k (E.tk i) (E.tk (d-1)).t) (A.app bf)) u):=⟨⟨c.out.sp,c.out.kt,c.out.bl⟩,c.out.ac,r,tK a4 s⟩;clear r c s;go_wp2_with fail;go_roundg bb
    case measure=>omega
    case rel=>exact⟨d,_,u,o,rfl,a.out.2,I.out⟩
   by_cases av:(E.tk b).k=26
   ·rw[av]at cc;go_wp2_with fail;refine(LH [h,H] _ rfl (by simp) a2 (by omega) a5 ⟨29,(E.tk i).f,0,(E.tk i).l,0,0,⟨#[]⟩,[],[h,H]⟩ 2 rfl rfl rfl (by rw[C.out.len,a.out.1.ac.len];omega) (qx (E.tk b).k (E.tk i) (E.tk (d-1)).t) (a.out.1.ac.app C.out) (by rw[Fo.tops_app,a.out.1.tp,<-a.out.1.ac.len,ba];unfold qx;rw[aa ak,ab av];rfl)).mono ?_;rintro F an ⟨u,o,rfl,r,c,s⟩;have I:Z (ua E W L B an d W.heap.size i o (one (qx (E.tk b).k (E.tk i) (E.tk (d-1)).t) (A.app bf)) u):=⟨⟨c.out.sp,c.out.kt,c.out.bl⟩,c.out.ac,r,tK a4 s⟩;clear r c s;go_wp2_with fail;go_roundg bb
    case measure=>omega
    case rel=>exact⟨d,_,u,o,rfl,a.out.2,I.out⟩
   ·have c9:((E.tk b).k==10)=Br:=by simp[ak]
    have da:((E.tk b).k==26)=Br:=by simp[av]
    go_wp2_with fail;refine(LH [h,H] _ rfl (by simp) a2 (by omega) a5 ⟨31,(E.tk i).f,0,(E.tk i).l,(E.tk b).k-60,0,⟨#[]⟩,[],[h,H]⟩ 2 rfl rfl rfl (by rw[C.out.len,a.out.1.ac.len];omega) (qx (E.tk b).k (E.tk i) (E.tk (d-1)).t) (a.out.1.ac.app C.out) (by rw[Fo.tops_app,a.out.1.tp,<-a.out.1.ac.len,ba];unfold qx;rw[aa ak,aa av];rfl)).mono ?_;rintro F an ⟨u,o,rfl,r,c,s⟩;have I:Z (ua E W L B an d W.heap.size i o (one (qx (E.tk b).k (E.tk i) (E.tk (d-1)).t) (A.app bf)) u):=⟨⟨c.out.sp,c.out.kt,c.out.bl⟩,c.out.ac,r,tK a4 s⟩;clear r c s;go_wp2_with fail;go_roundg bb
    case measure=>omega
    case rel=>exact⟨d,_,u,o,rfl,a.out.2,I.out⟩
end
theorem aem:(Tryz.prog.info? 3).map (fun i=>(i.zero,i.size,i.bytes))=O (O (U Q 0),1,8):=by kernel_rfl
theorem aen:(Tryz.prog.info? 9).map (fun i=>(i.zero,i.size,i.bytes))=O (O (A6 ⟨#[]⟩),1,16):=by kernel_rfl
theorem eJ{w:A3}{p:Array Oper}{q:List Oper}{o:Oper}{a:Act}{k:Exit->Act->A3->Prop}(y:o.guard=M)(s x:Operand)(A:o.op= .call {callee:= .builtin .append,args:=#[s,x],argTypes:=#[31,31]})(base:Nat)(c:Option Addr)(n d:Nat)(l:List Int)(F:a.eval s= .slice c n d)(al:l.length=n)(C:w.ownsRow base 3 1 (.slice c n d) n (l.map (A2 .i64)))(u:base<=w.heap.size)(b:Nat)(f:Int)(H:a.eval x= .slice (O ⟨b,0,M⟩) 1 1)(t:w.heap[b]?=O (.cells #[.int .i64 f] 3 (0,0)))(ak:n<=50000000)
  (h:∀g cap w1,w1.ownsRow base 3 1 (.slice (O ⟨g,0,M⟩) (n+1) cap) (n+1) ((l++[f]).map (A2 .i64))->w.grownBy w1 (A7 c n d).ownBlock->((A7 c n d).ownBlock=O g\/g=w.heap.size)->wpList Y p k q (a.put o.dst (.slice (O ⟨g,0,M⟩) (n+1) cap)) w1):wpList Y p k (o::q) a w:=by
 obtain⟨af,z,I,J,K⟩:=fl aem;refine B1 _ y s x 31 A base 3 af _ 1 8 Tryz.underlying31 z I J K rfl (by decide) _ _ _ F C ⟨b,0,M⟩ 1 1 [.int .i64 f] H rfl (B0 (cs:=#[.int .i64 f]) t) (by intro am G;rw[List.mem_singleton.1 G];rfl) (by unfold B5;omega) (by omega) u ?_;intro an w1 m v _ r;obtain⟨g,cap,rfl⟩:=B4 m;exact h g cap w1 (by rw[fK];exact m) v (by rcases r with e|e;exact .inl e.symm;exact .inr (by simpa [A9] using e))
section
variable {E : Pe} {W w w' : World} {i j : Nat} {L L1 L' : List Mb} {B B' : List (Nat × Array Value)}
theorem nG{v:Ax}{n:Nat}{k:List Ax}(h:Z (gL E W w i L B))(o:w.ownsRow E.base 3 1 v n k)(d:w.grownBy w' v.ownBlock)(fr:Fr W.heap.size v)(ap:Sv v L):Z (gL E W w' i L B):=by
 have y:=h.out.kt.size;obtain⟨F,H,K,af⟩:=h.out.sp.tks;obtain⟨av,I,J,u⟩:=h.out.sp.row;have f:∀{c:Nat}{t:Array Ax}{r:Ce}{fr:Nat×Nat},w.heap[c]?=O (A1 t r fr)->r≠3->w'.heap[c]?=O (A1 t r fr):=fun b am=>(d.block _ (au b) (fun a=>gi o b am a.symm)).trans b;have z:∀{base a size n:Nat}{A:Ax}{k:List Ax},w.ownsRow base a size A n k->a≠3->w'.ownsRow base a size A n k:=fun an al=>by
  obtain⟨q,e⟩:=an;refine⟨q,?_⟩;rcases e with e|⟨l,C,G,m,d,ak,ao⟩
  ·exact .inl e
  ·exact .inr ⟨l,C,G,m,d,f ak al,ao⟩
 refine⟨⟨h.out.sp.lo,h.out.sp.hn,⟨F,H,f K (by decide),af⟩,⟨av,f I (by decide),z J (by decide),fun s x=>⟨f (u s x).1 (by decide),(u s x).2⟩⟩,fun g p=>⟨z (h.out.sp.each g p).1 (by decide),(h.out.sp.each g p).2.kept d ?_⟩,h.out.sp.nb⟩,⟨dh y d.size,fun c b q e=>?_⟩,?_⟩
 ·cases m:g.vk.ownBlock with
  |none=>exact .inl rfl
  |some l=>exact .inr (fun a=>ap g p l a.symm m)
 ·rw[<-h.out.kt.block c b q e];exact d.block c (jq b y) (fun a=>by have:=fr c a.symm;omega)
 ·exact h.out.bl.trans ((ai _ w).grown d h.out.sp.lt.2 (fun c b=>(o.lt c b).1))
theorem sw(h:Sp E w i L B){b n c:Nat}(k:w.heap.size<=b):Sv (V (O ⟨b,0,M⟩) n c) L:=fun g f d e a=>by
 obtain rfl:b=d:=by simpa [A9] using e
 have:=((h.each g f).2.lt b a).2;omega
end
inductive Ls (E:Pe) (C:Nat->Fo->Nat->Prop):Nat->Nat->Fo->Nat->Prop where
 |stop {k:Nat}:(E.tk k).k≠46->k<E.n->Ls E C 0 k .nil k
 |go {m k k1 j:Nat}{x R:Fo}:(E.tk k).k=46->k<E.n->C (k+1) x k1->Ls E C m k1 R j->Ls E C (m+1) k (x.app R) j
section
variable {E : Pe} {i j : Nat}
abbrev Jh(E:Pe)(i:Nat)(x:Fo)(j:Nat):Prop:=CI E 91 #[pV E,U Q 0] i x j
structure fH (E:Pe) (W:A3) (L:List Mb) (B:List (Nat×Array Ax)) (w:A3) (k:Nat) (L1:List Mb) (D:Fo) (av:Option Addr) (n cv:Nat):Prop where
 nw:Z (gL E W w k L1 B)
 ac:Ac W.heap.size L L1 D
 ln:D.len=n
 ow:w.ownsRow E.base 3 1 (.slice av n cv) n ((D.tops L.length).map (A2 .i64))
 fr:Fr W.heap.size (.slice av n cv)
 sv:Sv (.slice av n cv) L1
theorem fH.below{W w w':A3}{L L1:List Mb}{B:List (Nat×Array Ax)}{k:Nat}{D:Fo}{a:Option Addr}{n c:Nat}(h:fH E W L B w k L1 D a n c)(b:A5 w.heap.size w w'):fH E W L B w' k L1 D a n c:=⟨nB h.nw b,h.ac,h.ln,aI h.ow b,h.fr,h.sv⟩
theorem fH.move{W w w':A3}{L L1:List Mb}{B:List (Nat×Array Ax)}{k c:Nat}{D:Fo}{a:Option Addr}{n b:Nat}(h:fH E W L B w k L1 D a n b)(q:Sp E w' c L1 B/\Kt w w'/\A5 E.base w w'):fH E W L B w' c L1 D a n b:=⟨nX h.nw q,h.ac,h.ln,q.2.1.row h.ow (by decide) (by decide),h.fr,h.sv⟩
structure pE (E:Pe) (W:A3) (L:List Mb) (B:List (Nat×Array Ax)) (w:A3) (k:Nat) (L1:List Mb) (D x:Fo) (z:Int) (av:Option Addr) (n cv:Nat):Prop where
 nw:Z (gL E W w k L1 B)
 ac:Ac W.heap.size L L1 (D.app x)
 ln:D.len=n
 one:x.len=1
 tp:(D.app x).tops L.length=D.tops L.length++[z]
 ow:w.ownsRow E.base 3 1 (.slice av n cv) n ((D.tops L.length).map (A2 .i64))
 fr:Fr W.heap.size (.slice av n cv)
 sv:Sv (.slice av n cv) L1
theorem fH.up{W w w':A3}{L L1 a:List Mb}{B:List (Nat×Array Ax)}{k e:Nat}{D x:Fo}{f:Int}{b:Option Addr}{n c:Nat}(h:fH E W L B w k L1 D b n c)(p:Ld E w w' L1 a B x e)(d:x.tops L1.length=[f]):pE E W L B w' e a D x f b n c:=
 ⟨nP h.nw p,h.ac.app (nL h.nw p).out,h.ln,by rw[<-Fo.tops_len x L1.length,d];rfl,by rw[Fo.tops_app,<-h.ac.len,d],p.kt.row h.ow (by decide) (by decide),h.fr,h.sv.next p.ac (fun g l=>(h.ow.lt g l).2)⟩
theorem pE.put{W w c:A3}{L L1:List Mb}{B:List (Nat×Array Ax)}{k:Nat}{D x:Fo}{f:Int}{a:Option Addr}{n b g cap:Nat}{o:Obj}(h:pE E W L B w k L1 D x f a n b)(r:c.ownsRow E.base 3 1 (V (O ⟨g,0,M⟩) (n+1) cap) (n+1) ((D.tops L.length++[f]).map (A2 Q)))(m:(w.alloc o).grownBy c (A7 a n b).ownBlock)(d:(A7 a n b).ownBlock=O g\/g=(w.alloc o).heap.size):fH E W L B c k L1 (D.app x) (O ⟨g,0,M⟩) (n+1) cap:=by
 have t:=h.nw.out.kt.size;refine⟨nG (nB h.nw (bI w o)) (aI h.ow (bI w o)) m h.fr h.sv,h.ac,by rw[Fo.len_app,h.ln,h.one],by rw[h.tp];exact r,?_,?_⟩
 ·rcases d with e|e
  ·exact Fr.new (h.fr g e)
  ·exact Fr.new (by rw[e,bu];omega)
 ·rcases d with e|e
  ·intro s q l p;exact h.sv s q l (by rw[e];exact p)
  ·exact sw (h.nw.out.sp.below (bI w o)) (by omega)
theorem ahG{x R:Fo}{k m:Nat}(ap:Jh E i x k)(an:Ls E (Jh E) m k R j):CL E 89 #[pV E] i (x.app R) j:=by
 intro W L B af am;have G:=gL.start af;clear af;go_in;go_wp2_with fail;refine(ap _ _ _ G.out.sp (by simp only[Fo.sz_app]at am;omega)).mono ?_;rintro J w1 ⟨A,L1,rfl,y,g⟩;have a6:Z (fH E W L B (w1.alloc (A1 #[U Q A] 3)) k L1 x (O ⟨w1.heap.size,0,M⟩) 1 1):=
  ⟨nB (nP G g) (bI _ _),g.ac,by rw[<-Fo.tops_len x L.length,y];rfl,by rw[y];exact my (qA w1 [A] 1 rfl (by decide)) g.sp.lt.2,Fr.new g.kt.size,sw g.sp (ag _)⟩
 have a8:=aj an;clear y g an ap;go_wp2_with fail;go_loopg [3,4] m (fun gk bp bo wr=>∃(k:Nat) (D t:Fo) (a5:Int) (e:Option Addr) (a f:Nat) (L1:List Mb),bp= U Q a5/\bo= V e a f/\Z (Ls E (Jh E) gk k t j/\fH E W L B wr k L1 D e a f/\D.app t=x.app R))
 case atStart=>exact⟨k,x,R,A,_,1,1,L1,rfl,rfl,a8.out,a6.out,rfl⟩
 case round=>
  obtain⟨bj,D,t,a5,e,a,f,F,rfl,rfl,q⟩:=hrel;obtain⟨bd,b,c⟩:=q.out;cases bd with
  |stop u v=>
   have s:=b.nw;have h:=eH b c;clear b c q;go_wp2_with fail;refine cd (isN u s v) fun a4 a9=>?_;go_wp2_with fail;go_ret;obtain⟨b,c⟩:=h.out;have d:=b.below a9;rw[Fo.app_nil]at c;rw[<-c];exact⟨_,F,rfl,⟨d.fr,d.sv⟩,by rw[d.ln];exact d.ow,d.ac,d.nw.out.sp,d.nw.out.kt,d.nw.out.bl⟩
  |@go bk _ z _ o H u v ba K=>
   have s:=b.nw;have h:=jn b c K;have ao:Z (L.length+(D.app (o.app H)).sz<=50000000):=by rw[c];exact am
   clear b c q K;go_wp2_with fail;refine cd (isY u s v) fun a4 a3=>?_;have p:Z (fH E W L B a4 (bj+1) F D e a f):=h.out.1.move a3;clear a3;go_wp2_with fail;refine(ba _ _ _ p.out.nw.out.sp (by have:=ao.out;rw[p.out.ac.len];simp only[Fo.sz_app]at this;omega)).mono ?_;rintro J n ⟨C,r,rfl,a0,a2⟩;have l:Z (pE E W L B n z r D o C e a f):=p.out.up a2 a0;clear a2 a0;have bf:a<=50000000:=by have bn:=ao.out;have J:=l.out.ln;have br:=D.len_le;simp only[Fo.sz_app]at bn;omega
   go_wp2_with (at_builtin;refine eJ rfl _ _ rfl E.base e a f (D.tops L.length) rfl (by rw[Fo.tops_len];exact l.out.ln) (aI l.out.ow (bI n _)) (by rw[bu];have:=l.out.nw.out.sp.lt.2;omega) n.heap.size C rfl (ar n _) bf ?_;intro bb I bq a1 al ak;have a7:Z (fH E W L B bq z r (D.app o) (O ⟨bb,0,M⟩) (a+1) I):=l.out.put a1 al ak;clear a1 al ak);go_roundg bk
   case measure=>omega
   case rel=>exact⟨z,D.app o,H,C,_,a+1,I,r,rfl,rfl,h.out.2.2,a7.out,by rw[Fo.app_app];exact h.out.2.1⟩
end
section
variable {E : Pe} {i j : Nat}
theorem Ji(a:(E.tk i).k=28)(av:i<E.n){x:Fo}(af:CI E 91 #[pV E,U Q 0] (i+1) x j)(a0:i+1<=j)(K:j<=E.n):CI E 43 #[pV E] i (one (iB 15 (E.tk i) (E.tk (j-1)).t) x) (j):=by
 intro W L B r s;have y:=gL.start r;clear r;go_in;go_wp2_with fail;refine cd (du a y (by omega)) fun w1 z=>?_;go_wp2_with fail;refine cd (du a z (by omega)) fun bf A=>?_;go_wp2_with fail;refine cd (du a A (by omega)) fun bj C=>?_;go_wp2_with fail;refine cd (jB a C (by omega) (by omega)) fun an F=>?_;obtain⟨bk,u,G,p⟩:=tL (w:=an) a F;simp only[jL]at u;obtain⟨bq,br,bs,bt,bw,bx⟩:=tC p a;go_wp2_with fail;refine cd (gA a _ _) fun bl q=>?_;clear u;have m:=nB G q;have J:=aj m.out.sp.lt.2;have c:=nA m (dE (nN 15 (E.tk i)) s0 s0);have v:=tA (tB p q) a;have bA:=fun b=>(v b).1;clear v;go_wp2_with fail;refine(af _ _ _ c.out.sp (by simp only[aJ]at s;omega)).mono ?_;rintro I bn ⟨h,ao,rfl,ak,e⟩;have d:=nP c e;have ac:=nL c e;clear e;obtain⟨bp,a1,o,H,a2⟩:=nKI [h] #[U Q h] rfl 1 rfl d J.out (by decide);have g:=nCA d;have bD:=fun b=>(g b).1;have bE:=fun b=>(g b).2;clear g;obtain⟨a3,a4,a5,a6,a7,a8,a9,ba,bb,bd⟩:=nC o;go_wp2_with fail;refine(ni o (by omega) K ⟨15,(E.tk i).f,0,(E.tk i).l,0,0,⟨#[]⟩,[],[h]⟩ M _ 0 0 _ _ (bi _ _ _ _) H.out (by rw[ac.out.len];simp only[aJ]at s;omega) (Fr.nil _ _ _) (Fr.new d.out.kt.size) (iB 15 (E.tk i) (E.tk (j-1)).t) ac.out (by rw[ak];rfl)).mono ?_;rintro I bo ⟨b0,ap,rfl,al,am⟩;go_wp2_with fail;go_ret;exact⟨_,_,rfl,al,(pT am).out⟩
theorem Jj(a:(E.tk i).k=14)(av:i<E.n){x:Fo}(af:CI E 95 #[pV E] (i+1) x j)(a0:i+1<=j)(K:j<=E.n):CI E 43 #[pV E] i (one (iB 16 (E.tk i) (E.tk (j-1)).t) x) (j):=by
 intro W L B r s;have y:=gL.start r;clear r;go_in;go_wp2_with fail;refine cd (du a y (by omega)) fun w1 z=>?_;go_wp2_with fail;refine cd (du a z (by omega)) fun bf A=>?_;go_wp2_with fail;refine cd (du a A (by omega)) fun bj C=>?_;go_wp2_with fail;refine cd (jB a C (by omega) (by omega)) fun an F=>?_;obtain⟨bk,u,G,p⟩:=tL (w:=an) a F;simp only[jL]at u;obtain⟨bq,br,bs,bt,bw,bx⟩:=tC p a;go_wp2_with fail;refine cd (gA a _ _) fun bl q=>?_;clear u;have m:=nB G q;have J:=aj m.out.sp.lt.2;have c:=nA m (dE (nN 16 (E.tk i)) s0 s0);have v:=tA (tB p q) a;have bA:=fun b=>(v b).1;clear v;go_wp2_with fail;refine(af _ _ _ c.out.sp (by simp only[aJ]at s;omega)).mono ?_;rintro I bn ⟨h,ao,rfl,ak,e⟩;have d:=nP c e;have ac:=nL c e;clear e;obtain⟨bp,a1,o,H,a2⟩:=nKI [h] #[U Q h] rfl 1 rfl d J.out (by decide);have g:=nCA d;have bD:=fun b=>(g b).1;have bE:=fun b=>(g b).2;clear g;obtain⟨a3,a4,a5,a6,a7,a8,a9,ba,bb,bd⟩:=nC o;go_wp2_with fail;refine(ni o (by omega) K ⟨16,(E.tk i).f,0,(E.tk i).l,0,0,⟨#[]⟩,[],[h]⟩ M _ 0 0 _ _ (bi _ _ _ _) H.out (by rw[ac.out.len];simp only[aJ]at s;omega) (Fr.nil _ _ _) (Fr.new d.out.kt.size) (iB 16 (E.tk i) (E.tk (j-1)).t) ac.out (by rw[ak];rfl)).mono ?_;rintro I bo ⟨b0,ap,rfl,al,am⟩;go_wp2_with fail;go_ret;exact⟨_,_,rfl,al,(pT am).out⟩
theorem Dl{k b:Int}(r:(k=11/\b=11)\/(k=23/\b=12))(a:(E.tk i).k=k)(A:i+1<E.n):CI E 43 #[pV E] i (one (iB b (E.tk i) (E.tk i).t) .nil) (i+1):=by
 intro W L B c s;have e:=gL.start c;clear c;rcases r with⟨rfl,rfl⟩|⟨rfl,rfl⟩;all_goals
  go_in;go_wp2_with fail;refine cd (du a e (by omega)) fun w1 f=>?_;go_wp2_with fail;refine cd (du a f (by omega)) fun C g=>?_;go_wp2_with fail;refine cd (du a g (by omega)) fun F h=>?_;go_wp2_with fail;refine cd (jB a h (by omega) (by omega)) fun x l=>?_;obtain⟨G,d,m,p⟩:=tL (w:=x) a l;simp only[jL]at d;obtain⟨J,K,af,ak,al,am⟩:=tC p a;go_wp2_with fail;refine cd (gA a _ _) fun H q=>?_;clear d;have o:=nB m q;go_wp2_with fail;refine(ni o (by omega) (by omega) (nN _ (E.tk i)) M M 0 0 0 0 (bi _ _ _ _) (bi _ _ _ _) (by simp only[aJ]at s;omega) (Fr.nil _ _ _) (Fr.nil _ _ _) (iB _ (E.tk i) (E.tk i).t) (Ac.nil _ L) rfl).mono ?_;rintro z I ⟨an,y,rfl,u,v⟩;go_wp2_with fail;go_ret;exact⟨_,_,rfl,u,v.out⟩
theorem Jk(d:(E.tk i).k=42)(p:i<E.n){R:Fo}(f:CI E 84 #[pV E] i R j):CI E 43 #[pV E] i (R) (j):=by
 intro W L B b e;have c:=gL.start b;clear b;go_in;go_wp2_with fail;refine cd (du d c (by omega)) fun w1 a=>?_;go_wp2_with fail;refine(f _ _ _ a.out.sp e).mono ?_;rintro o q ⟨r,m,rfl,g,h⟩;have l:=nQ a h;go_wp2_with fail;go_ret;exact⟨_,_,rfl,g,l.out⟩
theorem yd{k:Int}(r:k=1\/k=40)(b:(E.tk i).k=k)(v:i<E.n){R:Fo}(m:CI E 85 #[pV E] i R j):CI E 43 #[pV E] i (R) (j):=by
 intro W L B h l;have g:=gL.start h;clear h;rcases r with rfl|rfl
 ·go_in;go_wp2_with fail;refine cd (du b g (by omega)) fun w1 c=>?_;go_wp2_with fail;refine cd (du b c (by omega)) fun s a=>?_;go_wp2_with fail;refine(m _ _ _ a.out.sp l).mono ?_;rintro q t ⟨u,o,rfl,d,e⟩;have f:=nQ a e;go_wp2_with fail;go_ret;exact⟨_,_,rfl,d,f.out⟩
 ·go_in;go_wp2_with fail;refine cd (du b g (by omega)) fun w1 c=>?_;go_wp2_with fail;refine cd (du b c (by omega)) fun s p=>?_;go_wp2_with fail;refine cd (du b p (by omega)) fun x a=>?_;go_wp2_with fail;refine(m _ _ _ a.out.sp l).mono ?_;rintro q t ⟨u,o,rfl,d,e⟩;have f:=nQ a e;go_wp2_with fail;go_ret;exact⟨_,_,rfl,d,f.out⟩
theorem ahH(a:(E.tk i).k=20)(x:i<E.n){R:Fo}(p:CI E 93 #[pV E,B2 (jL 20 (E.tk i))] (i+1) R j):CI E 43 #[pV E] i (R) (j):=by
 intro W L B c o;have e:=gL.start c;clear c;go_in;go_wp2_with fail;refine cd (du a e (by omega)) fun w1 f=>?_;go_wp2_with fail;refine cd (du a f (by omega)) fun y g=>?_;go_wp2_with fail;refine cd (du a g (by omega)) fun z h=>?_;go_wp2_with fail;refine cd (jB a h (by omega) (by omega)) fun t l=>?_;obtain⟨A,d,b,m⟩:=tL (w:=t) a l;simp only[jL]at d;obtain⟨F,G,H,I,J,K⟩:=tC m a;go_wp2_with fail;clear d;refine(p _ _ _ b.out.sp o).mono ?_;rintro v C ⟨af,u,rfl,q,r⟩;have s:=nQ b r;go_wp2_with fail;go_ret;exact⟨_,_,rfl,q,s.out⟩
theorem G4(a:(E.tk i).k=19)(x:i<E.n){R:Fo}(p:CI E 94 #[pV E,B2 (jL 19 (E.tk i))] (i+1) R j):CI E 43 #[pV E] i (R) (j):=by
 intro W L B c o;have e:=gL.start c;clear c;go_in;go_wp2_with fail;refine cd (du a e (by omega)) fun w1 f=>?_;go_wp2_with fail;refine cd (du a f (by omega)) fun y g=>?_;go_wp2_with fail;refine cd (du a g (by omega)) fun z h=>?_;go_wp2_with fail;refine cd (jB a h (by omega) (by omega)) fun t l=>?_;obtain⟨A,d,b,m⟩:=tL (w:=t) a l;simp only[jL]at d;obtain⟨F,G,H,I,J,K⟩:=tC m a;go_wp2_with fail;clear d;refine(p _ _ _ b.out.sp o).mono ?_;rintro v C ⟨af,u,rfl,q,r⟩;have s:=nQ b r;go_wp2_with fail;go_ret;exact⟨_,_,rfl,q,s.out⟩
theorem Jl{k:Nat}(a:(E.tk i).k=31)(a8:i<E.n){x y:Fo}(af:CI E 91 #[pV E,U Q 0] (i+1) x k)(ak:CI E 84 #[pV E] k y j)(a9:i+1<=j)(K:j<=E.n):CI E 43 #[pV E] i (one (iB 8 (E.tk i) (E.tk (j-1)).t) (x.app y)) (j):=by
 intro W L B p g;have u:=gL.start p;clear p;go_in;go_wp2_with fail;refine cd (du a u (by omega)) fun w1 v=>?_;go_wp2_with fail;refine cd (du a v (by omega)) fun ba z=>?_;go_wp2_with fail;refine cd (du a z (by omega)) fun bb A=>?_;go_wp2_with fail;refine cd (jB a A (by omega) (by omega)) fun ap C=>?_;obtain⟨bd,q,d,h⟩:=tL (w:=ap) a C;simp only[jL]at q;obtain⟨av,a0,a1,a2,a3,a4⟩:=tC h a;go_wp2_with fail;refine(af _ _ _ d.out.sp (by simp only[aJ,Fo.sz_app]at g;omega)).mono ?_;rintro o bf ⟨r,a5,rfl,al,b⟩;have e:=nP d b;have ac:=nL d b;have H:=tK h b.kt;clear q;clear b;go_wp2_with fail;refine(ak _ _ _ e.out.sp (by rw[ac.out.len];simp only[aJ,Fo.sz_app]at g;omega)).mono ?_;rintro o bj ⟨s,a6,rfl,an,c⟩;have F:=nP e c;have m:=nL e c;have I:=tK H c.kt;clear c;obtain⟨av,a0,a1,a2,a3,a4⟩:=tC I a;go_wp2_with fail;refine cd (gA a _ _) fun bl J=>?_;have G:=nB F J;go_wp2_with fail;refine(amC [r,s] _ rfl (by simp) G (by omega) K ⟨8,(E.tk i).f,0,(E.tk i).l,0,0,⟨#[]⟩,[],[r,s]⟩ M 0 0 (bi _ _ _ _) 2 rfl rfl (by rw[m.out.len,ac.out.len];simp only[aJ,Fo.sz_app]at g;omega) (Fr.nil _ _ _) (iB 8 (E.tk i) (E.tk (j-1)).t) (ac.out.app m.out) (by rw[Fo.tops_app,al,<-ac.out.len,an];rfl)).mono ?_;rintro o bk ⟨bn,a7,rfl,am,ao⟩;go_wp2_with fail;go_ret;exact⟨_,_,rfl,am,ao.out⟩
end
theorem AG{w:A3}{p:Array Oper}{q:List Oper}{o:Oper}{a:Act}{k:Exit->Act->A3->Prop}(y:o.guard=M)(s x:Operand)(A:o.op= .call {callee:= .builtin .append,args:=#[s,x],argTypes:=#[34,34]})(base:Nat)(c:Option Addr)(n d:Nat)(l:List ByteArray)(F:a.eval s= .slice c n d)(al:l.length=n)(C:w.ownsRow base 9 1 (.slice c n d) n (l.map A4))(u:base<=w.heap.size)(b:Nat)(f:ByteArray)(H:a.eval x= .slice (O ⟨b,0,M⟩) 1 1)(t:w.heap[b]?=O (.cells #[.string f] 9 (0,0)))(ak:n<=50000000)
  (h:∀g cap w1,w1.ownsRow base 9 1 (.slice (O ⟨g,0,M⟩) (n+1) cap) (n+1) ((l++[f]).map A4)->w.grownBy w1 (A7 c n d).ownBlock->((A7 c n d).ownBlock=O g\/g=w.heap.size)->wpList Y p k q (a.put o.dst (.slice (O ⟨g,0,M⟩) (n+1) cap)) w1):wpList Y p k (o::q) a w:=by
 obtain⟨af,z,I,J,K⟩:=fl aen;refine B1 _ y s x 34 A base 9 af _ 1 16 Tryz.underlying34 z I J K rfl (by decide) _ _ _ F C ⟨b,0,M⟩ 1 1 [.string f] H rfl (B0 (cs:=#[.string f]) t) (by intro am G;rw[List.mem_singleton.1 G];rfl) (by unfold B5;omega) (by omega) u ?_;intro an w1 m v _ r;obtain⟨g,cap,rfl⟩:=B4 m;exact h g cap w1 (by rw[fK];exact m) v (by rcases r with e|e;exact .inl e.symm;exact .inr (by simpa [A9] using e))
section
variable {E : Pe} {W w w' : World} {i j : Nat} {L L1 L' : List Mb} {B B' : List (Nat × Array Value)}
theorem nGS{v:Ax}{n:Nat}{k:List Ax}(h:Z (gL E W w i L B))(o:w.ownsRow E.base 9 1 v n k)(d:w.grownBy w' v.ownBlock)(fr:Fr W.heap.size v)(ap:∀x∈L,∀g,v.ownBlock=O g->x.vn.ownBlock≠O g):Z (gL E W w' i L B):=by
 have y:=h.out.kt.size;obtain⟨F,H,K,af⟩:=h.out.sp.tks;obtain⟨av,I,J,t⟩:=h.out.sp.row;have f:∀{c:Nat}{s:Array Ax}{q:Ce}{fr:Nat×Nat},w.heap[c]?=O (A1 s q fr)->q≠9->w'.heap[c]?=O (A1 s q fr):=fun b am=>(d.block _ (au b) (fun a=>gi o b am a.symm)).trans b;have z:∀{base a size n:Nat}{A:Ax}{k:List Ax},w.ownsRow base a size A n k->a≠9->w'.ownsRow base a size A n k:=fun an al=>by
  obtain⟨p,e⟩:=an;refine⟨p,?_⟩;rcases e with e|⟨g,C,G,l,d,ak,ao⟩
  ·exact .inl e
  ·exact .inr ⟨g,C,G,l,d,f ak al,ao⟩
 refine⟨⟨h.out.sp.lo,h.out.sp.hn,⟨F,H,f K (by decide),af⟩,⟨av,f I (by decide),z J (by decide),fun r u=>⟨f (t r u).1 (by decide),(t r u).2⟩⟩,fun x m=>⟨(h.out.sp.each x m).1.kept d ?_,z (h.out.sp.each x m).2 (by decide)⟩,h.out.sp.nb⟩,⟨dh y d.size,fun c b p e=>?_⟩,?_⟩
 ·cases l:x.vn.ownBlock with
  |none=>exact .inl rfl
  |some g=>exact .inr (fun a=>ap x m g a.symm l)
 ·rw[<-h.out.kt.block c b p e];exact d.block c (jq b y) (fun a=>by have:=fr c a.symm;omega)
 ·exact h.out.bl.trans ((ai _ w).grown d h.out.sp.lt.2 (fun c b=>(o.lt c b).1))
theorem Dm(w:A3)(x:ByteArray):(w.alloc (A1 #[A6 x] 9)).ownsRow w.heap.size 9 1 (V (O ⟨w.heap.size,0,M⟩) 1 1) 1 [A6 x]:=by
 have:=Dz (base:=w.heap.size) (e:=9) (size:=1) w #[A6 x] 1 (ag _) (by unfold B5;omega) (by simp);simpa using this
structure sx (E:Pe) (W:A3) (L:List Mb) (B:List (Nat×Array Ax)) (w:A3) (k b:Nat) (D:List ByteArray) (av:Option Addr) (n cv:Nat):Prop where
 nw:Z (gL E W w k L B)
 bx:∃T,TB w b T
 bn:E.tb≠b
 bw:W.heap.size<=b
 lo:E.base<=W.heap.size
 ln:D.length=n
 ow:w.ownsRow E.base 9 1 (.slice av n cv) n (D.map A4)
 fr:Fr W.heap.size (.slice av n cv)
 old:∀x∈L,∀g,x.vn.ownBlock=O g->g<W.heap.size
theorem sx.below{k b:Nat}{D:List ByteArray}{a:Option Addr}{n c:Nat}(h:sx E W L B w k b D a n c)(q:A5 w.heap.size w w'):sx E W L B w' k b D a n c:=⟨nB h.nw q,by obtain⟨d,e⟩:=h.bx;exact⟨d,(tB e q).out⟩,h.bn,h.bw,h.lo,h.ln,aI h.ow q,h.fr,h.old⟩
theorem sx.move{k d b:Nat}{D:List ByteArray}{a:Option Addr}{n c:Nat}(h:sx E W L B w k b D a n c)(q:Sp E w' d L B/\Kt w w'/\A5 E.base w w'):sx E W L B w' d b D a n c:=⟨nX h.nw q,by obtain⟨e,f⟩:=h.bx;exact⟨e,(tK f q.2.1).out⟩,h.bn,h.bw,h.lo,h.ln,q.2.1.row h.ow (by decide) (by decide),h.fr,h.old⟩
theorem sx.tok{k b:Nat}{D:List ByteArray}{d:Option Addr}{n e:Nat}(h:sx E W L B w k b D d n e){q:Nat}{t:Int}(y:(E.tk q).k=t):∃o,Il w b (U Q t) (U Q (E.tk q).f) (U Q (E.tk q).t) (U Q (E.tk q).l) (U Q (E.tk q).n) (A6 (E.tk q).x)=o/\sx E W L B o k b D d n e/\TB o b (E.tk q):=by
 obtain⟨z,m⟩:=h.bx;have s:=acz m (U Q t) (U Q (E.tk q).f) (U Q (E.tk q).t) (U Q (E.tk q).l) (U Q (E.tk q).n) (A6 (E.tk q).x);have a:=CG (ai b w) (ag b) (U Q t) (U Q (E.tk q).f) (U Q (E.tk q).t) (U Q (E.tk q).l) (U Q (E.tk q).n) (A6 (E.tk q).x);have c:w.grownBy (Il w b (U Q t) (U Q (E.tk q).f) (U Q (E.tk q).t) (U Q (E.tk q).l) (U Q (E.tk q).n) (A6 (E.tk q).x)) (O b):=⟨a.os,a.tape,a.output,a.size,fun k p v=>zJ (fun g=>v (by rw[g])) _ _ _ _ _ _⟩;have r:TB (Il w b (U Q t) (U Q (E.tk q).f) (U Q (E.tk q).t) (U Q (E.tk q).l) (U Q (E.tk q).n) (A6 (E.tk q).x)) b (E.tk q):=by unfold TB;rw[y];exact s
 have u:E.base<=b:=dh h.lo h.bw;exact⟨_,rfl,⟨⟨h.nw.out.sp.other m h.bn c,h.nw.out.kt.past c h.bw,h.nw.out.bl.trans ((ai _ w).grown c h.nw.out.sp.lt.2 (fun k p=>by cases p;exact u))⟩,⟨_,r⟩,h.bn,h.bw,h.lo,h.ln,h.ow.kept c (by
  cases hv:(A7 d n e).ownBlock with
  |none=>exact .inl rfl
  |some A=>exact .inr (fun g=>gi h.ow m (by decide) (by rw[hv,g]))),h.fr,h.old⟩,r⟩
theorem sx.put{l:A3}{k b:Nat}{D:List ByteArray}{a:Option Addr}{n d g cap:Nat}{o:Obj}{x:ByteArray}(h:sx E W L B w k b D a n d)(z:l.ownsRow E.base 9 1 (V (O ⟨g,0,M⟩) (n+1) cap) (n+1) ((D++[x]).map A4))(p:(w.alloc o).grownBy l (A7 a n d).ownBlock)(u:(A7 a n d).ownBlock=O g\/g=(w.alloc o).heap.size):sx E W L B l k b (D++[x]) (O ⟨g,0,M⟩) (n+1) cap:=by
 have A:=h.nw.out.kt.size;have c:=bI w o;have q:=aI h.ow c;obtain⟨r,v⟩:=h.bx;have f:=(tB v c).out;refine⟨nGS (nB h.nw c) q p h.fr (fun x y m s t=>?_),⟨r,(p.block _ (au f) (fun e=>gi q f (by decide) e.symm)).trans f⟩,h.bn,h.bw,h.lo,by rw[aF,h.ln];rfl,z,?_,h.old⟩
 ·have C:=h.old x y m t;have F:=h.fr m s;omega
 ·rcases u with e|e
  ·exact Fr.new (h.fr g e)
  ·exact Fr.new (by rw[e,bu];omega)
theorem tz{ns:List ByteArray}(y:(E.tk i).k=1)(cf:i<E.n)(al:F8 E.tk E.n (i+1) ns j):CM E i ((E.tk i).x::ns) j:=by
 intro W L B h;have H:=gL.start h;have bs:Z (∀x∈L,∀o,x.vn.ownBlock=O o->o<W.heap.size):=fun x br o bd=>((h.each x br).1.lt o bd).2;have bk:Z (E.base<=W.heap.size/\E.tb<W.heap.size):=⟨h.lt.2,by obtain⟨b5,ce,l,_⟩:=h.tks;exact au l⟩;have ck:=h.hn;clear h;go_in;go_wp2_with fail;refine cd (ix y H (by omega) (by omega)) fun w1 l=>?_;have a6:=nX H l;have bo:=l.2.1.size;clear l;obtain⟨q,am,a7,I⟩:=tL (w:=w1) y a6;simp only[jL]at am;have bp:q.heap.size=w1.heap.size+1:=by rw[<-am];simp
 obtain⟨bD,bE,b0,b1,b2,b3⟩:=tC I y;have a3:Z (sx E W L B (q.alloc (A1 #[A6 (E.tk i).x] 9)) (i+1) w1.heap.size [(E.tk i).x] (O ⟨q.heap.size,0,M⟩) 1 1):=by
  have bj:=bk.out;refine⟨nB a7 (bI _ _),⟨_,(tB I (bI _ _)).out⟩,by omega,bo,bj.1,rfl,?_,Fr.new (by omega),bs.out⟩;exact my (Dm q (E.tk i).x) (by omega)
 have a5:=aj al;clear al;go_wp2_with fail;go_loopg [4] ns.length (fun gk bt wr=>∃(k:Nat) (D p:List ByteArray) (e:Option Addr) (n f:Nat),bt= V e n f/\gk=p.length/\Z (F8 E.tk E.n k p j/\sx E W L B wr k w1.heap.size D e n f/\D++p=(E.tk i).x::ns/\i+2*D.length=k+1))
 case atStart=>exact⟨i+1,[(E.tk i).x],ns,_,1,1,by rw[bp],rfl,a5.out,a3.out,rfl,by simp⟩
 case round=>
  obtain⟨d,D,p,e,n,f,rfl,bf,r⟩:=hrel;obtain⟨bb,a,b,c⟩:=r.out;cases bb with
  |stop t u=>
   have s:=a.nw;have g:=eH a b;clear a b r;go_wp2_with fail;refine cd (isN t s u) fun a2 a9=>?_;go_wp2_with fail;go_ret;obtain⟨a,b⟩:=g.out;have c:=a.below a9;rw[fj]at b;have ap:=congrArg List.length b;rw[c.ln,cC]at ap;exact⟨_,rfl,c.fr,by rw[<-ap,<-b];exact c.ow,c.nw.out.sp,c.nw.out.kt,c.nw.out.bl⟩
  |@go _ _ an t u v K=>
   have s:=a.nw;have g:=jn a b K;have bn:n<=50000000:=by have:=a.ln;omega
   clear a b r K;go_wp2_with fail;refine cd (isY t s (by omega)) fun a2 a0=>?_;have C:Z (sx E W L B a2 (d+1) w1.heap.size D e n f):=g.out.1.move a0;clear a0;go_wp2_with fail;refine cd (ix v C.out.nw u (by omega)) fun bw a1=>?_;have F:Z (sx E W L B bw (d+2) w1.heap.size D e n f):=C.out.move a1;clear a1;obtain⟨A,bq,G,a8⟩:=F.out.tok v;unfold Il at bq;have m:=aj G;obtain⟨b4,z⟩:=F.out.bx;obtain⟨cl,cm,cn,cp,cq,cr⟩:=ur z;obtain⟨b7,b8,b9,ca,cb,cc⟩:=F6 z;obtain⟨bD,bE,b0,b1,b2,b3⟩:=tC (h:=a8) v;clear G z;go_wp2_with (at_builtin;refine AG rfl _ _ rfl E.base e n f D rfl m.out.ln (aI m.out.ow (bI A _)) (by rw[bu];have:=m.out.nw.out.sp.lt.2;omega) A.heap.size (E.tk (d+1)).x rfl (ar A _) bn ?_;intro ba J bA ao ak af;have a4:Z (sx E W L B bA (d+2) w1.heap.size (D++[(E.tk (d+1)).x]) (O ⟨ba,0,M⟩) (n+1) J):=m.out.put ao ak af;clear ao ak af);go_roundg an.length
   case measure=>rw[bf];simp
   case rel=>exact⟨d+2,D++[(E.tk (d+1)).x],an,_,n+1,J,rfl,rfl,g.out.2.2,a4.out,by rw[dC];exact g.out.2.1,by rw[aF,uG];omega⟩
end
section
variable {E : Pe} {i j : Nat}
theorem abK(a:(E.tk i).k=22)(bd:i<E.n){b:List ByteArray}{k:Nat}(ao:CM E (i+1) b k)(bf:i+1<=k)(bj:k<E.n)(ak:(E.tk k).k≠47):CI E 43 #[pV E] i (one (nd 2 (E.tk i) (E.tk (k-1)).t 0 0 z0 b) .nil) (k):=by
 intro W L B v am;have C:=gL.start v;clear v;go_in;go_wp2_with fail;refine cd (du a C (by omega)) fun w1 F=>?_;go_wp2_with fail;refine cd (du a F (by omega)) fun bl G=>?_;go_wp2_with fail;refine cd (du a G (by omega)) fun bn H=>?_;go_wp2_with fail;refine cd (jB a H (by omega) (by omega)) fun a0 I=>?_;obtain⟨bo,x,J,K⟩:=tL (w:=a0) a I;simp only[jL]at x;obtain⟨bt,bw,bx,bA,bD,bE⟩:=tC K a;go_wp2_with fail;refine cd (gA a _ _) fun bp r=>?_;have h:=nB J r;have al:=aj h.out.sp.lt.2;have d:=nA h (dE (nN 2 (E.tk i)) s0 s0);clear r;clear x;go_wp2_with fail;refine(ao _ _ _ d.out.sp).mono ?_;rintro af bq ⟨bk,rfl,u,g,z⟩;have m:=nX d z;have c:=aj g;have A:Z (Fr W.heap.size _):=u.le d.out.kt.size;obtain⟨q,s,rfl⟩:=cH g;clear u g z;obtain⟨a1,a2,a3,a4,a5,a6,a7,a8,a9,ba⟩:=nC m;obtain⟨o,y⟩:=nM m al.out (V q b.length s);replace c:=oK c y (.inr rfl);clear y;go_wp2_with fail;refine cd (isN ak o (by omega)) fun bs e=>?_;have p:=nB o e;replace c:=oK c (Kt.of_below e) (.inr rfl);clear e;obtain⟨a1,a2,a3,a4,a5,a6,a7,a8,a9,ba⟩:=nC p;go_wp2_with fail;refine(ni p (by omega) (by omega) ⟨2,(E.tk i).f,0,(E.tk i).l,0,0,⟨#[]⟩,b,[]⟩ q M _ s 0 0 c.out (bi _ _ _ _) (by simp only[aJ]at am;omega) A.out (Fr.nil _ _ _) (nd 2 (E.tk i) (E.tk (k-1)).t 0 0 z0 b) (Ac.nil _ L) rfl).mono ?_;rintro af br ⟨b0,bb,rfl,ap,av⟩;go_wp2_with fail;go_ret;exact⟨_,_,rfl,ap,(pT av).out⟩
theorem aeo(b:(E.tk i).k=22)(bw:i<E.n){e:List ByteArray}{k:Nat}(a7:CM E (i+1) e k)(bx:i+1<=k)(bE:k<E.n)(a5:(E.tk k).k=47){h:Fo}(a6:CL E 89 #[pV E] (k+1) h j)(bA:k+1<=j)(bD:j<=E.n):CI E 43 #[pV E] i (one (nd 2 (E.tk i) (E.tk (j-1)).t 0 0 z0 e) h) (j):=by
 intro W L B I K;have ap:=gL.start I;clear I;go_in;go_wp2_with fail;refine cd (du b ap (by omega)) fun w1 av=>?_;go_wp2_with fail;refine cd (du b av (by omega)) fun cc a0=>?_;go_wp2_with fail;refine cd (du b a0 (by omega)) fun ce a1=>?_;go_wp2_with fail;refine cd (jB b a1 (by omega) (by omega)) fun bb a2=>?_;obtain⟨cf,af,a3,a4⟩:=tL (w:=bb) b a2;simp only[jL]at af;obtain⟨cr,cs,ct,cu,cv,cx⟩:=tC a4 b;go_wp2_with fail;refine cd (gA b _ _) fun cl C=>?_;have v:=nB a3 C;have J:=aj v.out.sp.lt.2;have p:=nA v (dE (nN 2 (E.tk i)) s0 s0);clear C;clear af;go_wp2_with fail;refine(a7 _ _ _ p.out.sp).mono ?_;rintro H cm ⟨ba,rfl,g,c,al⟩;have x:=nX p al;have a:=aj c;have ao:Z (Fr W.heap.size _):=g.le p.out.kt.size;obtain⟨A,G,rfl⟩:=cH c;clear g c al;obtain⟨bd,bf,bj,bk,bl,bn,bo,bp,bq,br⟩:=nC x;obtain⟨y,d⟩:=nM x J.out (V A e.length G);replace a:=oK a d (.inr rfl);clear d;go_wp2_with fail;refine cd (isY a5 y (by omega)) fun cq r=>?_;have m:=nX y r;replace a:=oK a r.2.1 (.inr rfl);clear r;go_wp2_with fail;refine(a6 _ _ _ m.out.sp (by simp only[aJ]at K;omega)).mono ?_;rintro H cb ⟨ba,bt,rfl,⟨g,_⟩,c,o⟩;have s:=nP m o;have q:=aj c;have am:Z (Fr W.heap.size _):=g.le m.out.kt.size;have ac:=nL m o;obtain⟨z,F,rfl⟩:=cH c;replace a:=oK a o.kt (.inr rfl);clear g c o;obtain⟨bd,bf,bj,bk,bl,bn,bo,bp,bq,br⟩:=nC s;obtain⟨u,d⟩:=nK s J.out (V z h.len F);replace q:=oK q d (.inl rfl);replace a:=oK a d (.inr rfl);clear d;obtain⟨b0,b1,b2,b3,b4,b6,b7,b8,b9,ca⟩:=nC u;go_wp2_with fail;refine(ni u (by omega) (by omega) ⟨2,(E.tk i).f,0,(E.tk i).l,0,0,⟨#[]⟩,e,h.tops L.length⟩ A z _ G _ F a.out (by rw[Fo.tops_len];exact q.out) (by rw[ac.out.len];simp only[aJ]at K;omega) ao.out am.out (nd 2 (E.tk i) (E.tk (j-1)).t 0 0 z0 e) ac.out rfl).mono ?_;rintro H cp ⟨cy,bs,rfl,a8,a9⟩;go_wp2_with fail;go_ret;exact⟨_,_,rfl,a8,(pT a9).out⟩
theorem abL(a:(E.tk i).k=27)(F:i+1<E.n)(s:dJ (E.tk (i+1)).k=Br):CI E 43 #[pV E] i (one (iB 13 (E.tk i) (E.tk i).t) .nil) (i+1):=by
 intro W L B e u;have g:=gL.start e;clear e;go_in;go_wp2_with fail;refine cd (du a g (by omega)) fun w1 h=>?_;go_wp2_with fail;refine cd (du a h (by omega)) fun H l=>?_;go_wp2_with fail;refine cd (du a l (by omega)) fun I m=>?_;go_wp2_with fail;refine cd (jB a m (by omega) (by omega)) fun y o=>?_;obtain⟨J,f,p,r⟩:=tL (w:=y) a o;simp only[jL]at f;obtain⟨al,am,an,ao,ap,av⟩:=tC r a;go_wp2_with fail;refine cd (gA a _ _) fun K d=>?_;have b:=nB p d;have C:=aj b.out.sp.lt.2;have q:=nA b (dE (nN 13 (E.tk i)) s0 s0);clear d;clear f;go_wp2_with fail;refine cd (du rfl q (by omega)) fun af c=>?_;go_wp2_with fail;refine cd (amB s _) fun w' G=>?_;subst w';obtain⟨a0,a1,a2,a3,a4,a5,a6,a7,a8,a9⟩:=nC c;go_wp2_with fail;refine(ni c (by omega) (by omega) (nN 13 (E.tk i)) M M 0 0 0 0 (bi _ _ _ _) (bi _ _ _ _) (by simp only[aJ]at u;omega) (Fr.nil _ _ _) (Fr.nil _ _ _) (iB 13 (E.tk i) (E.tk i).t) (Ac.nil _ L) rfl).mono ?_;rintro A ak ⟨ba,z,rfl,v,x⟩;go_wp2_with fail;go_ret;exact⟨_,_,rfl,v,(pT x).out⟩
theorem aep(a:(E.tk i).k=27)(a2:i+1<E.n)(am:dJ (E.tk (i+1)).k=B6){b:Fo}(al:CL E 89 #[pV E] (i+1) b j)(a3:i+1<=j)(a4:j<=E.n):CI E 43 #[pV E] i (one (iB 13 (E.tk i) (E.tk (j-1)).t) b) (j):=by
 intro W L B u v;have A:=gL.start u;clear u;go_in;go_wp2_with fail;refine cd (du a A (by omega)) fun w1 C=>?_;go_wp2_with fail;refine cd (du a C (by omega)) fun bo F=>?_;go_wp2_with fail;refine cd (du a F (by omega)) fun bp G=>?_;go_wp2_with fail;refine cd (jB a G (by omega) (by omega)) fun av H=>?_;obtain⟨bq,x,I,K⟩:=tL (w:=av) a H;simp only[jL]at x;obtain⟨bw,bx,bA,bD,bE,b0⟩:=tC K a;go_wp2_with fail;refine cd (gA a _ _) fun br q=>?_;have o:=nB I q;have an:=aj o.out.sp.lt.2;have J:=nA o (dE (nN 13 (E.tk i)) s0 s0);clear q;clear x;go_wp2_with fail;refine cd (du rfl J (by omega)) fun bs c=>?_;go_wp2_with fail;refine cd (amB am _) fun w' a5=>?_;subst w';go_wp2_with fail;refine(al _ _ _ c.out.sp (by simp only[aJ]at v;omega)).mono ?_;rintro af bn ⟨bl,a1,rfl,⟨s,_⟩,e,g⟩;have h:=nP c g;have d:=aj e;have z:Z (Fr W.heap.size _):=s.le c.out.kt.size;have ac:=nL c g;obtain⟨p,r,rfl⟩:=cH e;clear s e g;obtain⟨b1,b2,b3,b4,b6,b7,b8,b9,ca,cb⟩:=nC h;obtain⟨m,y⟩:=nK h an.out (V p b.len r);replace d:=oK d y (.inl rfl);clear y;obtain⟨a6,a7,a8,a9,ba,bb,bd,bf,bj,bk⟩:=nC m;go_wp2_with fail;refine(ni m (by omega) (by omega) ⟨13,(E.tk i).f,0,(E.tk i).l,0,0,⟨#[]⟩,[],b.tops L.length⟩ M p 0 0 _ r (bi _ _ _ _) (by rw[Fo.tops_len];exact d.out) (by rw[ac.out.len];simp only[aJ]at v;omega) (Fr.nil _ _ _) z.out (iB 13 (E.tk i) (E.tk (j-1)).t) ac.out rfl).mono ?_;rintro af bt ⟨cc,a0,rfl,ao,ap⟩;go_wp2_with fail;go_ret;exact⟨_,_,rfl,ao,(pT ap).out⟩
theorem Jm(b:(E.tk i).k=13)(bk:i<E.n){c:List ByteArray}{k:Nat}(a5:CM E (i+1) c k)(bl:i+1<=k)(bp:k<E.n)(a4:(E.tk k).k=47){x:Fo}(a6:CI E 91 #[pV E,U Q 0] (k+1) x j)(bn:k+1<=j)(bo:j<=E.n):CI E 43 #[pV E] i (one (nd 3 (E.tk i) (E.tk (j-1)).t 0 0 z0 c) x) (j):=by
 intro W L B I K;have am:=gL.start I;clear I;go_in;go_wp2_with fail;refine cd (du b am (by omega)) fun w1 ao=>?_;go_wp2_with fail;refine cd (du b ao (by omega)) fun b4 ap=>?_;go_wp2_with fail;refine cd (du b ap (by omega)) fun b6 av=>?_;go_wp2_with fail;refine cd (jB b av (by omega) (by omega)) fun ba a0=>?_;obtain⟨b7,af,a1,a3⟩:=tL (w:=ba) b a0;simp only[jL]at af;obtain⟨ce,cf,ck,cl,cm,cp⟩:=tC a3 b;go_wp2_with fail;refine cd (gA b _ _) fun b8 C=>?_;have u:=nB a1 C;have J:=aj u.out.sp.lt.2;have g:=nA u (dE (nN 3 (E.tk i)) s0 s0);clear C;clear af;go_wp2_with fail;refine(a5 _ _ _ g.out.sp).mono ?_;rintro G b9 ⟨b2,rfl,H,p,ak⟩;have y:=nX g ak;have a:=aj p;have al:Z (Fr W.heap.size _):=H.le g.out.kt.size;obtain⟨A,F,rfl⟩:=cH p;clear H p ak;obtain⟨cq,cr,cs,ct,cu,cv,cx,cy,bb,bd⟩:=nC y;obtain⟨z,d⟩:=nM y J.out (V A c.length F);replace a:=oK a d (.inr rfl);clear d;go_wp2_with fail;refine cd (ix a4 z (by omega) (by omega)) fun cc q=>?_;have m:=nX z q;replace a:=oK a q.2.1 (.inr rfl);clear q;go_wp2_with fail;refine(a6 _ _ _ m.out.sp (by simp only[aJ]at K;omega)).mono ?_;rintro G b3 ⟨s,bf,rfl,a7,e⟩;have h:=nP m e;have ac:=nL m e;replace a:=oK a e.kt (.inr rfl);clear e;obtain⟨cb,bq,v,a2,d⟩:=nKI [s] #[U Q s] rfl 1 rfl h J.out (by decide);have r:=nCA h;have bb:=fun o=>(r o).1;have bd:=fun o=>(r o).2;clear r;obtain⟨br,bs,bt,bw,bx,bA,bD,bE,b0,b1⟩:=nC v;replace a:=oK a d (.inr rfl);go_wp2_with fail;refine(ni v (by omega) (by omega) ⟨3,(E.tk i).f,0,(E.tk i).l,0,0,⟨#[]⟩,c,[s]⟩ A _ _ F _ _ a.out a2.out (by rw[ac.out.len];simp only[aJ]at K;omega) al.out (Fr.new h.out.kt.size) (nd 3 (E.tk i) (E.tk (j-1)).t 0 0 z0 c) ac.out (by rw[a7];rfl)).mono ?_;rintro G ca ⟨cz,bj,rfl,a8,a9⟩;go_wp2_with fail;go_ret;exact⟨_,_,rfl,a8,(pT a9).out⟩
theorem aeq{k av:Nat}(a:(E.tk i).k=30)(b2:i<E.n){x y:Fo}(bf:CI E 84 #[pV E] (i+1) x k)(bb:(E.tk k).k=12)(b6:k+1<E.n){c:List ByteArray}(bd:CM E (k+1) c av)(bj:CI E 84 #[pV E] av y j)(b3:i+1<=j)(b4:j<=E.n):CI E 43 #[pV E] i (one (nd 14 (E.tk i) (E.tk (j-1)).t 0 0 z0 c) (x.app y)) (j):=by
 intro W L B am q;have a2:=gL.start am;clear am;go_in;go_wp2_with fail;refine cd (du a a2 (by omega)) fun w1 a3=>?_;go_wp2_with fail;refine cd (du a a3 (by omega)) fun cr a4=>?_;go_wp2_with fail;refine cd (du a a4 (by omega)) fun cs a5=>?_;go_wp2_with fail;refine cd (jB a a5 (by omega) (by omega)) fun bp a6=>?_;obtain⟨ct,ap,h,I⟩:=tL (w:=bp) a a6;simp only[jL]at ap;obtain⟨bq,br,bs,bt,bw,bx⟩:=tC I a;go_wp2_with fail;refine(bf _ _ _ h.out.sp (by simp only[aJ,Fo.sz_app]at q;omega)).mono ?_;rintro p cz ⟨z,b1,rfl,bk,g⟩;have G:=nP h g;have ac:=nL h g;have a9:=tK I g.kt;clear ap;clear g;go_wp2_with fail;refine cd (ix bb G (by omega) (by omega)) fun cB u=>?_;have a7:=nX G u;have ba:=tK a9 u.2.1;clear u;obtain⟨bq,br,bs,bt,bw,bx⟩:=tC ba a;go_wp2_with fail;refine cd (gA a _ _) fun cu af=>?_;have C:=nB a7 af;have ao:=aj C.out.sp.lt.2;have m:=nA C (dE (nN 14 (E.tk i)) s0 s0);clear af;go_wp2_with fail;refine(bd _ _ _ m.out.sp).mono ?_;rintro p cv ⟨cp,rfl,al,s,a0⟩;have H:=nX m a0;have b:=aj s;have a1:Z (Fr W.heap.size _):=al.le m.out.kt.size;obtain⟨K,ak,rfl⟩:=cH s;clear al s a0;obtain⟨c0,c1,c2,c3,c4,c5,c6,c7,bA,bD⟩:=nC H;obtain⟨Nd,d⟩:=nM H ao.out (V K c.length ak);replace b:=oK b d (.inr rfl);clear d;go_wp2_with fail;refine(bj _ _ _ Nd.out.sp (by rw[ac.out.len];simp only[aJ,Fo.sz_app]at q;omega)).mono ?_;rintro p cq ⟨A,bE,rfl,bn,e⟩;have o:=nP Nd e;have J:=nL Nd e;replace b:=oK b e.kt (.inr rfl);clear e;obtain⟨cy,b7,F,a8,d⟩:=nKI [z,A] #[U Q z,U Q A] rfl 2 rfl o ao.out (by decide);have v:=nCA o;have bA:=fun r=>(v r).1;have bD:=fun r=>(v r).2;clear v;obtain⟨b8,b9,ca,cb,cc,ce,cf,ck,cl,cm⟩:=nC F;replace b:=oK b d (.inr rfl);go_wp2_with fail;refine(ni F (by omega) (by omega) ⟨14,(E.tk i).f,0,(E.tk i).l,0,0,⟨#[]⟩,c,[z,A]⟩ K _ _ ak _ _ b.out a8.out (by rw[J.out.len,ac.out.len];simp only[aJ,Fo.sz_app]at q;omega) a1.out (Fr.new o.out.kt.size) (nd 14 (E.tk i) (E.tk (j-1)).t 0 0 z0 c) (ac.out.app J.out) (by rw[Fo.tops_app,bk,<-ac.out.len,bn];rfl)).mono ?_;rintro p cx ⟨c8,b0,rfl,bl,bo⟩;go_wp2_with fail;go_ret;exact⟨_,_,rfl,bl,(pT bo).out⟩
end
