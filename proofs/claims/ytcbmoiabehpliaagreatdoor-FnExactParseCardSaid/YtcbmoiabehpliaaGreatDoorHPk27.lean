import Derived.Test.YtcbmoiabehpliaaGreatDoorHPk01
import Derived.Test.YtcbmoiabehpliaaGreatDoorHPk25
import Derived.Test.YtcbmoiabehpliaaGreatDoorHPk11
import Derived.Deep.LoopGhost
import Derived.Deep.QuietTactic
import Derived.BigQuiet
import Derived.Deep.AppendLies
set_option linter.unusedSimpArgs false
set_option linter.unusedVariables false
set_option maxRecDepth 100000
set_option maxHeartbeats 6400000
namespace Go.Proofs.YtcbmoiabehpliaaGreatDoor
open Go.RowKit
section
variable {E : Pe} {W : World} {i : Nat} {L : List Mb} {B : List (Nat × Array Value)}
theorem BO(h:Sp E W i L B)(a:i<E.n):Calls Tryz.prog 48 #[pV E] W fun e w'=>e= .returned (.int .i64 (E.tk i).k)/\Below W.heap.size W w':=by
 obtain⟨m,r,s⟩:=h.cells;obtain⟨o,q,g,b,f,d,p,c⟩:=h.tok a;have t:(i:Int)<(E.n:Int):=by omega
 have l:(0:Int)<=(i:Int):=by omega
 clear h a;go_in;go_wp2_with fail;go_quiet (fail)
 go_wp2;go_ret;exact⟨rfl,rfl,rfl,rfl,Nat.le_refl _,fun _ _=>rfl⟩
structure KG (W:World) (E:Pe) (q:Nat):Prop where
 c0:W.cell? ⟨E.tb,q*6,none⟩=some (.int .i64 (E.tk q).k)
 c1:W.cell? ⟨E.tb,q*6+1,none⟩=some (.int .i64 (E.tk q).f)
 c2:W.cell? ⟨E.tb,q*6+2,none⟩=some (.int .i64 (E.tk q).t)
 c3:W.cell? ⟨E.tb,q*6+3,none⟩=some (.int .i64 (E.tk q).l)
 c4:W.cell? ⟨E.tb,q*6+4,none⟩=some (.int .i64 (E.tk q).n)
 c5:W.cell? ⟨E.tb,q*6+5,none⟩=some (.string (E.tk q).x)
theorem Sp.tkw(h:Sp E W i L B){q:Nat}(e:q<E.n)(b:(E.tk q).k≠6):KG W E q:=by
 obtain⟨o,d,l,c,g,a,m,f⟩:=h.tok e;rw[d b]at a;exact⟨l,c,g,a,m,f⟩
theorem IQ(h:Sp E W i L B)(ap:i<E.n)(X:(E.tk i).k≠6):Calls Tryz.prog 96 #[pV E] W fun e w'=>e= .returned (vw (E.tk i))/\Sp E w' (i+1) L B/\Kt W w'/\Below E.base W w':=by
 have Z:=h.lt;have A:=ax W (.cells #[.int .i64 0,.int .i64 0,.int .i64 0,.int .i64 0,.int .i64 0,.string ⟨#[]⟩] 45);have G:=h.below A;have d:=G.move (i+1);have c:=G.kmove (.int .i64 ((i+1:Nat):Int));obtain⟨ak,an,ao⟩:=G.cells;obtain⟨o,F,Q⟩:=d.cells;obtain⟨r,u,q,p,s,v⟩:=d.tkw ap X;have am:((i+1:Nat):Int)=(i:Int)+1:=by omega
 rw[am]at d c F o Q r u q p s v;have br:(i:Int)<(E.n:Int):=by omega
 have a9:(0:Int)<=(i:Int):=by omega
 have bs:=h.hn;have bo:IntKind.i64.wrap ((i:Int)+1-1)=(i:Int):=by rw[IntKind.wrap_i64];omega
 have a3:IntKind.i64.wrap (i:Int)=(i:Int):=by rw[IntKind.wrap_i64];omega
 have a4:IntKind.i64.wrap ((i:Int)+1)=(i:Int)+1:=by rw[IntKind.wrap_i64];omega
 obtain⟨a,m⟩:=ah ((W.alloc (.cells #[.int .i64 0,.int .i64 0,.int .i64 0,.int .i64 0,.int .i64 0,.string ⟨#[]⟩] 45)).setCell ⟨E.pb,1,none⟩ (.int .i64 ((i:Int)+1)));have C:a.heap[W.heap.size]?=some (.cells #[.int .i64 0,.int .i64 0,.int .i64 0,.int .i64 0,.int .i64 0,.string ⟨#[]⟩] 45 (0,0)):=by
  rw[<-m,heap_setCell_other _ _ _ _ (by show W.heap.size≠E.pb;omega)];exact heap_alloc_new W _
 have T:Below E.base W a:=by rw[<-m];exact(A.mono Z.2).trans c.2
 have U:Kt W a:=by rw[<-m];exact(Kt.of_below A).trans c.1
 rw[m]at d o F Q r u q p s v;go_in;go_wp2_with fail;have z:=sJ d T U C;have ar:=ab h;clear m G A d c ak an ao h T U C;obtain⟨z0,a5,a2,bk,a8,av⟩:=bz z.out.2.2.2;obtain⟨bh,a0,bd,a6,bn,a1⟩:=er z.out.2.2.2;have V:E.pb≠W.heap.size:=by omega
 have R:E.tb≠W.heap.size:=by
  obtain⟨bb,bl,Y,_⟩:=ar.out.tks;have:=lt_of_block Y;omega
 have N:∀j I K O J H M,(ja a W.heap.size I K O J H M).drew.cell? ⟨E.pb,j,none⟩=a.cell? ⟨E.pb,j,none⟩:=fun j=>dI V j;have b:∀j I K O J H M,(ja a W.heap.size I K O J H M).drew.cell? ⟨E.tb,j,none⟩=a.cell? ⟨E.tb,j,none⟩:=fun j=>dI R j;unfold ja at N b;go_region_held3 (fun w'=>w'.cell? ⟨E.pb,0,none⟩=some (.slice (some ⟨E.tb,0,none⟩) E.n E.cap)/\w'.cell? ⟨E.pb,1,none⟩=some (.int .i64 ((i:Int)+1))/\w'.cell? ⟨E.tb,i*6,none⟩=some (.int .i64 (E.tk i).k)/\w'.cell? ⟨E.tb,i*6+1,none⟩=some (.int .i64 (E.tk i).f)/\w'.cell? ⟨E.tb,i*6+2,none⟩=some (.int .i64 (E.tk i).t)/\w'.cell? ⟨E.tb,i*6+3,none⟩=some (.int .i64 (E.tk i).l)/\w'.cell? ⟨E.tb,i*6+4,none⟩=some (.int .i64 (E.tk i).n)/\w'.cell? ⟨E.tb,i*6+5,none⟩=some (.string (E.tk i).x)) (first|with_reducible exact⟨(N 0 _ _ _ _ _ _).trans o,(N 1 _ _ _ _ _ _).trans F,(b (i*6) _ _ _ _ _ _).trans r,(b (i*6+1) _ _ _ _ _ _).trans u,(b (i*6+2) _ _ _ _ _ _).trans q,(b (i*6+3) _ _ _ _ _ _).trans p,(b (i*6+4) _ _ _ _ _ _).trans s,(b (i*6+5) _ _ _ _ _ _).trans v⟩|exact⟨o,F,r,u,q,p,s,v⟩) (fail)
 have g:=jP a W.heap.size (.int .i64 (E.tk i).k) (.int .i64 (E.tk i).f) (.int .i64 (E.tk i).t) (.int .i64 (E.tk i).l) (.int .i64 (E.tk i).n) (.string (E.tk i).x);have y:=kX z.out.2.2.2 (.int .i64 (E.tk i).k) (.int .i64 (E.tk i).f) (.int .i64 (E.tk i).t) (.int .i64 (E.tk i).l) (.int .i64 (E.tk i).n) (.string (E.tk i).x);rw[<-eP]at y;unfold ja at g y;generalize World.drew _=a7 at g y⊢;go_wp2;obtain⟨al,S,c,C⟩:=z.out;exact bodyPost_ret (results_cell_row rfl _ _ W.heap.size _ _ _ _ rfl y Tryz.underlying45 rfl (by kernel_rfl)) rfl ⟨rfl,al.other C R g,c.past g (Nat.le_refl _),S.grown g (by have:=S.size;omega) (fun k af=>by cases af;omega)⟩
theorem EG(k:Int)(T:Tk)(w:World):Calls Tryz.prog 97 #[.int .i64 k,vw T] w fun e w'=>e= .returned (.agg #[.int .i64 k,.int .i64 T.f,.int .i64 0,.int .i64 T.l,.int .i64 0,.int .i64 0,.string ⟨#[]⟩,.slice none 0 0,.slice none 0 0])/\Below w.heap.size w w':=by
 unfold vw;go_in;go_wp2_with fail;exact bodyPost_ret (results_cell_row rfl _ _ (w.heap.size+1) _ _ _ _ rfl (by have:=heap_alloc_new (w.alloc (.cells #[.int .i64 T.k,.int .i64 T.f,.int .i64 T.t,.int .i64 T.l,.int .i64 T.n,.string T.x] 45)) (.cells #[.int .i64 k,.int .i64 T.f,.int .i64 0,.int .i64 T.l,.int .i64 0,.int .i64 0,.string ⟨#[]⟩,.slice none 0 0,.slice none 0 0] 69);rw[World.size_alloc]at this;exact this) Tryz.underlying69 rfl (by kernel_rfl)) rfl ⟨rfl,(ax w _).alloc (by simp) _⟩
theorem EH(h:Sp E W i L B)(d:i<E.n)(k:Int)(l:(E.tk i).k=k):Calls Tryz.prog 49 #[pV E,.int .i64 k] W fun e w'=>e= .returned (.bool true)/\Sp E w' (i+1) L B/\Kt W w'/\Below E.base W w':=by
 have v:((E.tk i).k !=k)=false:=by simp[l]
 have f:=BO h d;have m:=ab h;have x:=h.hn;have r:=d;clear h l d;go_in;go_wp2_with fail;refine f.mono ?_;rintro e q ⟨rfl,c⟩;have b:=m.out.below c;obtain⟨s,t,u⟩:=b.cells;have p:=m.out.lt;have g:=ab b;clear b f;go_wp2_with fail;go_ret;have o:=g.out.move (i+1);have a:=g.out.kmove (.int .i64 ((i+1:Nat):Int));rw[show((i+1:Nat):Int)=(i:Int)+1 by omega]at o a;exact⟨rfl,o,(Kt.of_below c).trans a.1,(c.mono p.2).trans a.2⟩
theorem GN(h:Sp E W i L B)(b:i<E.n)(k:Int)(a:(E.tk i).k≠k):Calls Tryz.prog 49 #[pV E,.int .i64 k] W fun e w'=>e= .returned (.bool false)/\Below W.heap.size W w':=by
 have g:((E.tk i).k !=k)=true:=by simp[a]
 have d:=BO h b;clear h a b;go_in;go_wp2_with (go_at_call 48;refine d.mono ?_;rintro e f ⟨rfl,c⟩);go_ret;exact⟨rfl,c⟩
end
end Go.Proofs.YtcbmoiabehpliaaGreatDoor
namespace Go.Proofs.YtcbmoiabehpliaaGreatDoor
open Go.RowKit Go.Maps Go.WideMaps
theorem rK:(Tryz.prog.info? 69).map (fun i=>(i.zero,i.size,i.bytes))=some (some (.agg #[.int .i64 0,.int .i64 0,.int .i64 0,.int .i64 0,.int .i64 0,.int .i64 0,.string ⟨#[]⟩,.slice none 0 0,.slice none 0 0]),9,112):=by kernel_rfl
abbrev aW(N:Nd)(vn vk:Value):Array Value:=#[.int .i64 N.k,.int .i64 N.f,.int .i64 N.t,.int .i64 N.l,.int .i64 N.op,.int .i64 N.n,.string N.x,vn,vk]
section
variable {E : Pe} {W : World} {i : Nat} {L : List Mb} {B : List (Nat × Array Value)}
theorem Sp.push(h:Sp E W i L B){v:Value}(J:W.heap[E.pb]?=some (.cells #[.slice (some ⟨E.tb,0,none⟩) E.n E.cap,.int .i64 i,v] 65 (0,0))){c:World}{g r cap:Nat}(U:L.length+1=r)(x:Mb)(I:c.ownsRow E.base 69 9 (.slice (some ⟨g,0,none⟩) r cap) r (cQ (L++[x])))(k:W.grownBy c v.ownBlock)(an:v.ownBlock=some g\/g=W.heap.size)
  (on:W.ownsRow E.base 9 1 x.vn x.N.nm.length (x.N.nm.map Value.string)) (ao:W.ownsRow E.base 3 1 x.vk x.N.ks.length (x.N.ks.map (Value.int .i64))):
  Sp E (c.setCell ⟨E.pb,2,none⟩ (.slice (some ⟨g,0,none⟩) r cap)) i (L++[x]) B/\Kt W (c.setCell ⟨E.pb,2,none⟩ (.slice (some ⟨g,0,none⟩) r cap))/\Below E.base W (c.setCell ⟨E.pb,2,none⟩ (.slice (some ⟨g,0,none⟩) r cap))/\c.heap[E.pb]?=some (.cells #[.slice (some ⟨E.tb,0,none⟩) E.n E.cap,.int .i64 i,v] 65 (0,0)):=by
 subst U;obtain⟨al,s,m,F⟩:=h.tks;obtain⟨am,l,t,H⟩:=h.row;obtain rfl:am=v:=by rw[l]at J;cases J;rfl
 have af:=h.lt;have C:∀{b:Nat}{K:Array Value}{A:TypeId}{s:Nat×Nat},W.heap[b]?=some (.cells K A s)->A≠69->c.heap[b]?=some (.cells K A s):=fun e V=>(k.block _ (lt_of_block e) (fun a=>bZ t e V a.symm)).trans e;have z:=C l (by decide);have y:∀b,b≠E.pb->(c.setCell ⟨E.pb,2,none⟩ (.slice (some ⟨g,0,none⟩) (L.length+1) cap)).heap[b]?=c.heap[b]?:=fun b e=>heap_setCell_other _ _ _ _ e;have o:∀{base a size n:Nat}{S:Value}{G:List Value},W.ownsRow base a size S n G->a≠69->a≠65->(c.setCell ⟨E.pb,2,none⟩ (.slice (some ⟨g,0,none⟩) (L.length+1) cap)).ownsRow base a size S n G:=fun R m F=>by
  refine fE ?_ ?_ 2 _
  ·obtain⟨d,f⟩:=R;refine⟨d,?_⟩;rcases f with f|⟨g,cap,O,Y,k,u,ak⟩
   ·exact .inl f
   ·exact .inr ⟨g,cap,O,Y,k,C u m,ak⟩
  ·exact bZ R l (Ne.symm F)
 refine⟨⟨h.lo,h.hn,⟨al,s,(y _ (fun a=>by rw[a,l]at m;cases m)).trans (C m (by decide)),F⟩,⟨_,heap_setCell_same _ E.pb 2 _ _ _ z,?_,fun p M=>⟨?_,?_⟩⟩,fun T hy=>?_,h.nb⟩,⟨?_,fun b e Z Q=>?_⟩,?_,z⟩
 ·rw[List.length_append];exact fE I (bZ I z (by decide)) 2 _
 ·obtain⟨d,f⟩:=H p M;have X:p.1≠E.pb:=fun a=>by
   rw[a,l]at d;simp only[Option.some.injEq,Obj.cells.injEq]at d;exact absurd d.2.1 (by decide)
  exact(y _ X).trans ((k.block _ (lt_of_block d) (fun a=>f a.symm)).trans d)
 ·obtain⟨d,f⟩:=H p M;intro a;have a:g=p.1:=by simpa [Value.ownBlock] using a
  rcases an with q|q
  ·exact f (by rw[q,a])
  ·have:=lt_of_block d;omega
 ·rcases List.mem_append.1 hy with hy|hy
  ·exact⟨o (h.each T hy).1 (by decide) (by decide),o (h.each T hy).2 (by decide) (by decide)⟩
  ·obtain rfl:=List.mem_singleton.1 hy;exact⟨o on (by decide) (by decide),o ao (by decide) (by decide)⟩
 ·show W.heap.size<=_;simp[World.setCell];exact k.size
 ·rw[y b (fun a=>by rw[a]at Q;exact Q _ _ l)];refine k.block b e (fun a=>?_);rcases t.2 with⟨q,_⟩|⟨ap,ar,O,q,_,u,_⟩
  ·rw[q]at a;simp[Value.ownBlock]at a
  ·rw[q]at a;obtain rfl:b=ap:=by simpa [Value.ownBlock] using a
   exact Z _ _ u
 ·exact((Below.refl _ W).grown k af.2 (fun b e=>(t.lt b e).1)).setCell h.lo _
theorem GO(h:Sp E W i L B)(cw:1<=i)(c3:i<=E.n)(N:Nd)(g l:Option Addr)(b c d a:Nat)(on:W.ownsRow E.base 9 1 (.slice g b c) N.nm.length (N.nm.map Value.string))(bw:W.ownsRow E.base 3 1 (.slice l d a) N.ks.length (N.ks.map (Value.int .i64)))(b1:L.length<=50000000):
  Calls Tryz.prog 100 #[pV E,.agg (aW N (.slice g b c) (.slice l d a))] W fun e w'=>e= .returned (.int .i64 (L.length:Nat))/\Sp E w' i (L++[⟨{N with t:=(E.tk (i-1)).t},.slice g b c,.slice l d a⟩]) B/\Kt W w'/\Below E.base W w':=by
 obtain⟨q,rfl⟩:∃q,i=q+1:=⟨i-1,by omega⟩;rw[Nat.add_sub_cancel];obtain⟨p,ap⟩:=ah L.length;rw[ap]at b1⊢;have b0:=h.lt;have cI:=h.hn;have bE:((q+1:Nat):Int)=(q:Int)+1:=by omega
 have af:=fun A=>(h.below (ax W A)).cells.1;have U:=fun A=>(h.below (ax W A)).cells.2.1;have K:∀A,(W.alloc A).cell? ⟨E.tb,q*6+2,none⟩=some (.int .i64 (E.tk q).t):=fun A=>by
  obtain⟨ca,cB,cm,cq,K,cl,cf,cr⟩:=(h.below (ax W A)).tok (q:=q) (by omega);exact K
 have b5:=af (.cells (aW N (.slice g b c) (.slice l d a)) 69);have bh:=U (.cells (aW N (.slice g b c) (.slice l d a)) 69);have bs:=K (.cells (aW N (.slice g b c) (.slice l d a)) 69);have cT:(q:Int)<(E.n:Int):=by omega
 have ct:(0:Int)<=(q:Int):=by omega
 have cP:IntKind.i64.wrap ((q:Int)+1-1)=(q:Int):=by rw[IntKind.wrap_i64];omega
 have cg:IntKind.i64.wrap (q:Int)=(q:Int):=by rw[IntKind.wrap_i64];omega
 rw[bE]at U bh;have a2:=h.alloc (aW {N with t:=(E.tk q).t} (.slice g b c) (.slice l d a));have bo:=ax W (.cells (aW {N with t:=(E.tk q).t} (.slice g b c) (.slice l d a)) 69);have al:=cK a2 bo;clear a2 bo;go_in;go_wp2_with fail;go_region_held3 (fun w'=>w'.cell? ⟨E.pb,0,none⟩=some (.slice (some ⟨E.tb,0,none⟩) E.n E.cap)/\w'.cell? ⟨E.pb,1,none⟩=some (.int .i64 ((q:Int)+1))/\w'.cell? ⟨E.tb,q*6+2,none⟩=some (.int .i64 (E.tk q).t)) (exact⟨af _,U _,K _⟩) (fail)
 obtain⟨m,M⟩:=ah ((W.alloc (.cells (aW {N with t:=(E.tk q).t} (.slice g b c) (.slice l d a)) 69)).drew);have u:Hid (Sp E m (q+1) L ((W.heap.size,aW {N with t:=(E.tk q).t} (.slice g b c) (.slice l d a))::B)/\Below W.heap.size W m):=by
  rw[<-M];exact⟨al.out.1.below ⟨rfl,rfl,rfl,Nat.le_refl _,fun _ _=>rfl⟩,al.out.2.drew⟩
 have b4:m.heap.size=W.heap.size+1:=by rw[<-M];show(W.alloc _).heap.size=_;simp
 simp only[aW]at M;rw[M];clear M al af U K b5 bh bs;obtain⟨v,V,X,cc⟩:=u.out.1.row;obtain⟨I,J,rfl⟩:=aB X;have ar:m.cell? ⟨E.pb,2,none⟩=some (.slice I L.length J):=by rw[cell_of_row _ _ _ _ _ _ V];rfl
 rw[ap]at ar V X;go_wp2_with fail;have ao:m.heap[W.heap.size]?=some (.cells (aW {N with t:=(E.tk q).t} (.slice g b c) (.slice l d a)) 69 (0,0)):=u.out.1.box (List.mem_cons_self ..);refine wp_region_held_drew (S:=fun a0=>a0.heap[W.heap.size]?=some (.cells (aW {N with t:=(E.tk q).t} (.slice g b c) (.slice l d a)) 69 (0,0))) (by kernel_rfl) ao (fun hS=>?_);simp only[List.size_toArray,List.length_cons,List.length_nil,Nat.reduceAdd,Array.replicate_succ,Array.replicate_zero,List.push_toArray,List.nil_append,List.cons_append];refine aA 0 (.pointer (some ⟨E.pb,0,none⟩)) rfl rfl (by kernel_rfl) (fun _ _ _=>id) hS (fun w' F=>by go_simp) ?_;simp only[List.set];refine aA 1 (.pointer (some ⟨E.pb,0,none⟩)) rfl rfl (by kernel_rfl) (fun _ _ _=>id) hS (fun w' F=>by go_simp) ?_;simp only[List.set];refine aA 2 (.pointer (some ⟨E.pb,0,none⟩)) rfl rfl (by kernel_rfl) (fun _ _ _=>id) hS (fun w' F=>by go_simp) ?_;simp only[List.set];refine aA 3 (.pointer (some ⟨E.pb,2,none⟩)) rfl rfl (by kernel_rfl) (fun _ _ _=>id) hS (fun w' F=>by go_simp) ?_;simp only[List.set];refine wv 5 23 (.agg #[.int .i64 N.k,.int .i64 N.f,.int .i64 (E.tk q).t,.int .i64 N.l,.int .i64 N.op,.int .i64 N.n,.string N.x,.slice g b c,.slice l d a]) rfl rfl (by kernel_rfl) (by kernel_rfl) (by kernel_rfl) (fun _ _ _ h=>h) (by rfl) hS (fun w' F=>by obtain⟨z0,c9,c8,cF,cs,R,bd,cx,df,c4⟩:=ad (N:={N with t:=(E.tk q).t}) (vn:= .slice g b c) (vk:= .slice l d a) F;go_simp) ?_;simp only[Act.put,List.setIfInBounds_toArray,List.set_cons_zero,List.set_cons_succ];have br:=ar;refine gg (S:=fun a0=>a0.cell? ⟨E.pb,2,none⟩=some (.slice I p J)) (C:=fun j=>!(j==7||j==8||j==9||j==10)) (i:=4) (v:= .slice I p J) rfl (Region.noSelect_spec (by kernel_rfl)) (fun _ _ _ h=>h) ?hC _ _ _ _ (Region.free_spec rfl (by kernel_rfl)) (List.contains_iff_mem.1 (by kernel_rfl)) (Or.inl ⟨by rfl,fun w' F=>by go_simp⟩) hS br ?_
 case hC=>
  intro j ch a3 r;simp only[Bool.not_eq_false',Bool.or_eq_true,beq_iff_eq]at r;rcases r with((rfl|rfl)|rfl)|rfl
  ·obtain rfl:=Option.some.inj a3;exact⟨{on:=4,ground:=Ground.data},by simp,rfl,rfl⟩
  all_goals
   obtain rfl:=Option.some.inj a3;exact⟨{on:=4,ground:=Ground.phase},by simp,rfl,rfl⟩
 simp only[Act.put,List.setIfInBounds_toArray,List.set_cons_zero,List.set_cons_succ];refine aR (i:=6) (by kernel_rfl) rfl (fun s o=>?_);go_simp;have am:Below m.heap.size m (m.drew.alloc (.cells (aW {N with t:=(E.tk q).t} (.slice g b c) (.slice l d a)) 69)):=(aE (Below.refl _ _)).alloc (by simp) _;refine o.out _ _ ((am.block _ (lt_of_block ao)).trans ao) (fun _=>aa am ar) ?_;clear o s;try simp only[List.setIfInBounds_toArray,List.set_cons_zero,List.set_cons_succ]
 obtain⟨O,Q⟩:=ah ((m.alloc (.cells (aW {N with t:=(E.tk q).t} (.slice g b c) (.slice l d a)) 69)).drew);have z:Below m.heap.size m O:=by rw[<-Q];exact aE (ax m _)
 have b7:O.heap[m.heap.size]?=some (.cells (aW {N with t:=(E.tk q).t} (.slice g b c) (.slice l d a)) 69 (0,0)):=by rw[<-Q];exact heap_alloc_new m _
 simp only[aW]at Q;rw[Q];clear Q am hS;have b2:=u.out.1.below z;have b3:=(z.block _ (lt_of_block V)).trans V;have b9:=ai X z;have a1:=u.out.1.lt;obtain⟨bN,bt,bD,b8,bx⟩:=info_parts rK;refine aR (i:=7) (by kernel_rfl) rfl (fun s o=>?_);refine step_append_lies _ (by rfl) _ _ 22 (by rfl) E.base 69 bN _ 9 112 Tryz.underlying22 bt bD b8 bx rfl (by decide) (.slice I p J) p _ (by rfl) b9 ⟨m.heap.size,0,none⟩ 1 1 (aW {N with t:=(E.tk q).t} (.slice g b c) (.slice l d a)).toList (by rw[b4];rfl) rfl (World.news_of_block b7) (by intro dn a5;simp at a5;rcases a5 with rfl|rfl|rfl|rfl|rfl|rfl|rfl|rfl|rfl<;>rfl) (by decide) (by unfold maxLen;omega) (by omega) (Nat.le_trans a1.2 z.size) O.heap.size rfl ?_;intro H G y Z bk a8 dk;have a9:cQ L++(aW {N with t:=(E.tk q).t} (.slice g b c) (.slice l d a)).toList=cQ (L++[⟨{N with t:=(E.tk q).t},.slice g b c,.slice l d a⟩]):=by rw[iv];show _=cQ L++(zB _++[]);rw[List.append_nil];rfl
 rw[a9]at Z;have a6:O.ownsRow E.base 9 1 (.slice g b c) N.nm.length (N.nm.map Value.string):=ai (ai on u.out.2) z;have a7:O.ownsRow E.base 3 1 (.slice l d a) N.ks.length (N.ks.map (Value.int .i64)):=ai (ai bw u.out.2) z;obtain⟨T,a4,bn,Y⟩:=b2.push b3 (by rw[ap]) ⟨{N with t:=(E.tk q).t},.slice g b c,.slice l d a⟩ Z bk a8 a6 a7;have R:y.heap[W.heap.size]?=some (.cells (aW {N with t:=(E.tk q).t} (.slice g b c) (.slice l d a)) 69 (0,0)):=by
  have bl:=T.box (List.mem_cons_self ..);rw[heap_setCell_other _ _ _ _ (by show W.heap.size≠E.pb;omega)]at bl;exact bl
 have bd:=T.box (List.mem_cons_self ..);have c2:y.cell? ⟨E.pb,2,none⟩=some (.slice I p J):=by rw[cell_of_row _ _ _ _ _ _ Y];rfl
 have cb:y.frozen? ⟨E.pb,2,none⟩=false:=frozen_of_row _ _ _ _ _ Y;have bb:Hid (Sp E (y.setCell ⟨E.pb,2,none⟩ (.slice (some ⟨H,0,none⟩) (p+1) G)) (q+1) (L++[⟨{N with t:=(E.tk q).t},.slice g b c,.slice l d a⟩]) B/\Kt W (y.setCell ⟨E.pb,2,none⟩ (.slice (some ⟨H,0,none⟩) (p+1) G))/\Below E.base W (y.setCell ⟨E.pb,2,none⟩ (.slice (some ⟨H,0,none⟩) (p+1) G))):=
  ⟨T.tail,((Kt.of_below u.out.2).trans (Kt.of_below z)).trans a4,((u.out.2.mono b0.2).trans (z.mono a1.2)).trans bn⟩
 clear T a4 bn a6 a7 a9 Z bk a8;refine o.out _ _ R (fun r=>by cases r) ?_;clear o s;simp only[Act.put,List.setIfInBounds_toArray,List.set_cons_zero,List.set_cons_succ];refine aR (i:=8) (by kernel_rfl) rfl (fun s o=>?_);go_simp;refine o.out _ _ R (fun r=>by cases r) ?_;clear o s;try simp only[List.setIfInBounds_toArray,List.set_cons_zero,List.set_cons_succ]
 refine aR (i:=9) (by kernel_rfl) rfl (fun s o=>?_);go_simp;refine o.out _ _ R (fun r=>by cases r) ?_;clear o s;try simp only[List.setIfInBounds_toArray,List.set_cons_zero,List.set_cons_succ]
 refine aR (i:=10) (by kernel_rfl) rfl (fun s o=>?_);go_simp;refine o.out _ _ bd (fun r=>by cases r) ?_;clear o s;refine ix (by kernel_rfl) ?_ _;have bA:(y.setCell ⟨E.pb,2,none⟩ (.slice (some ⟨H,0,none⟩) (p+1) G)).cell? ⟨E.pb,2,none⟩=some (.slice (some ⟨H,0,none⟩) (p+1) G):=by rw[cell_of_row _ _ _ _ _ _ (heap_setCell_same _ E.pb 2 _ _ _ Y)];rfl
 generalize y.setCell ⟨E.pb,2,none⟩ (.slice (some ⟨H,0,none⟩) (p+1) G)=c7 at bb bA⊢;have cz:IntKind.i64.wrap ((p:Int)+1-1)=(p:Int):=by rw[IntKind.wrap_i64];omega
 go_wp2_with fail;go_ret;exact⟨by go_num,bb.out⟩
end
structure bU (E:Pe) (W w:World) (i:Nat) (L:List Mb) (B:List (Nat×Array Value)):Prop where
 sp:Sp E w i L B
 kt:Kt W w
 bl:Below E.base W w
def TB(w:World)(b:Nat)(T:Tk):Prop:=w.heap[b]?=some (.cells #[.int .i64 T.k,.int .i64 T.f,.int .i64 T.t,.int .i64 T.l,.int .i64 T.n,.string T.x] 45 (0,0))
abbrev bg(k:Int)(T:Tk):Array Value:=#[.int .i64 k,.int .i64 T.f,.int .i64 T.t,.int .i64 T.l,.int .i64 T.n,.string T.x]
abbrev nN(k:Int)(T:Tk):Nd:=⟨k,T.f,0,T.l,0,0,⟨#[]⟩,[],[]⟩
abbrev s0:Value:= .slice none 0 0
section
variable {E : Pe} {W w w' : World} {i j : Nat} {L L1 L' : List Mb} {B B' : List (Nat × Array Value)}
theorem bU.start(h:Sp E W i L B):Hid (bU E W W i L B):=⟨h,Kt.refl _,Below.refl _ _⟩
theorem nX(h:Hid (bU E W w i L B))(s:Sp E w' j L' B'/\Kt w w'/\Below E.base w w'):Hid (bU E W w' j L' B'):=⟨s.1,h.out.kt.trans s.2.1,h.out.bl.trans s.2.2⟩
theorem nB(h:Hid (bU E W w i L B))(b:Below w.heap.size w w'):Hid (bU E W w' i L B):=nX h ⟨h.out.sp.below b,Kt.of_below b,b.mono h.out.sp.lt.2⟩
theorem nA(h:Hid (bU E W w i L B))(cs:Array Value):Hid (bU E W (w.alloc (.cells cs 69)) i L ((w.heap.size,cs)::B)):=nX h ⟨h.out.sp.alloc cs,Kt.of_below (ax w _),(ax w _).mono h.out.sp.lt.2⟩
theorem nP{R:Fo}(h:Hid (bU E W w i L B))(p:xY E w w' L L' B R j):Hid (bU E W w' j L' B):=nX h ⟨p.sp,p.kt,p.bl⟩
theorem nS{b:Nat}{cs:Array Value}(h:Hid (bU E W w i L ((b,cs)::B)))(a:E.base<=b)(q:Nat)(u:Value):Hid (bU E W (w.setCell ⟨b,q,none⟩ u) i L ((b,cs.setIfInBounds q u)::B)):=nX h ⟨h.out.sp.set q u,h.out.sp.kset q u,(Below.refl _ w).setCell a _⟩
theorem tN{q:Nat}{k:Int}(a:(E.tk q).k=k):Hid (TB (w.alloc (.cells (bg k (E.tk q)) 45)) w.heap.size (E.tk q)):=by
 show _=_;rw[a];exact heap_alloc_new w _
theorem tK{b:Nat}{T:Tk}(h:Hid (TB w b T))(k:Kt w w'):Hid (TB w' b T):=k.blk h.out (by decide) (by decide)
theorem tB{b:Nat}{T:Tk}(h:Hid (TB w b T))(k:Below w.heap.size w w'):Hid (TB w' b T):=tK h (Kt.of_below k)
theorem tC{b:Nat}{T:Tk}{k:Int}(h:Hid (TB w b T))(a:T.k=k):w.cell? ⟨b,0,none⟩=some (.int .i64 k)/\w.cell? ⟨b,1,none⟩=some (.int .i64 T.f)/\w.cell? ⟨b,2,none⟩=some (.int .i64 T.t)/\w.cell? ⟨b,3,none⟩=some (.int .i64 T.l)/\w.cell? ⟨b,4,none⟩=some (.int .i64 T.n)/\w.cell? ⟨b,5,none⟩=some (.string T.x):=by
 rw[<-a];exact bz h.out
theorem tA{b:Nat}{T:Tk}{k:Int}(h:Hid (TB w b T))(a:T.k=k)(o:Obj):(w.alloc o).cell? ⟨b,0,none⟩=some (.int .i64 k)/\(w.alloc o).cell? ⟨b,1,none⟩=some (.int .i64 T.f)/\(w.alloc o).cell? ⟨b,2,none⟩=some (.int .i64 T.t)/\(w.alloc o).cell? ⟨b,3,none⟩=some (.int .i64 T.l)/\(w.alloc o).cell? ⟨b,4,none⟩=some (.int .i64 T.n)/\(w.alloc o).cell? ⟨b,5,none⟩=some (.string T.x):=tC (tB h (ax w o)) a
theorem cH{k:Int}(a:(E.tk i).k=k)(h:Hid (bU E W w i L B))(b:i<E.n):Calls Tryz.prog 48 #[pV E] w fun e w'=>e= .returned (.int .i64 k)/\Below w.heap.size w w':=by
 rw[<-a];exact BO h.out.sp b
theorem co{k:Int}(b:(E.tk i).k=k)(h:Hid (bU E W w i L B))(c:i<E.n)(a:k≠6):Calls Tryz.prog 96 #[pV E] w fun e w'=>e= .returned (.agg (bg k (E.tk i)))/\Sp E w' (i+1) L B/\Kt w w'/\Below E.base w w':=by
 rw[<-b]at a⊢;exact IQ h.out.sp c a
theorem aK{k:Int}(b:(E.tk i).k=k)(h:Hid (bU E W w i L B))(c:i<E.n):Calls Tryz.prog 48 #[pV E] w fun e w'=>e= .returned (.int .i64 k)/\Hid (bU E W w' i L B):=(cH b h c).mono fun _ _ a=>⟨a.1,nB h a.2⟩
theorem dc{k:Int}(b:(E.tk i).k=k)(h:Hid (bU E W w i L B))(d:i<E.n)(c:k≠6):Calls Tryz.prog 96 #[pV E] w fun e w'=>e= .returned (.agg (bg k (E.tk i)))/\Hid (bU E W w' (i+1) L B):=(co b h d c).mono fun _ _ a=>⟨a.1,nX h a.2⟩
theorem bQ{k:Int}{q:Nat}(a:(E.tk q).k=k)(nk:Int)(w:World):Calls Tryz.prog 97 #[.int .i64 nk,.agg (bg k (E.tk q))] w fun e w'=>e= .returned (.agg (aW (nN nk (E.tk q)) s0 s0))/\Below w.heap.size w w':=by
 rw[<-a];exact EG nk (E.tk q) w
theorem eC(h:Hid (bU E W w i L1 B))(u:1<=i)(v:i<=E.n)(N:Nd)(c k:Option Addr)(g a b d:Nat)(on:w.ownsRow E.base 9 1 (.slice c g a) N.nm.length (N.nm.map Value.string))(r:w.ownsRow E.base 3 1 (.slice k b d) N.ks.length (N.ks.map (Value.int .i64)))(s:L1.length<=50000000)(fn:Fr W.heap.size (.slice c g a))(p:Fr W.heap.size (.slice k b d))(f:Nd){R:Fo}(ac:Ac W.heap.size L L1 R)(q:({N with t:=(E.tk (i-1)).t}:Nd)={f with ks:=R.tops L.length}):
  Calls Tryz.prog 100 #[pV E,.agg (aW N (.slice c g a) (.slice k b d))] w fun e w'=>∃z L',e= .returned (.int .i64 z)/\(one f R).tops L.length=[z]/\Hid (xY E W w' L L' B (one f R) i):=by
 refine(GO h.out.sp u v N c k g a b d on r s).mono ?_;rintro e w' ⟨rfl,l,o,m⟩;rw[q]at l;exact⟨_,_,rfl,by rw[kG,ac.len],ac.add f fn p,l,h.out.kt.trans o,h.out.bl.trans m⟩
theorem pT{R:Fo}{b:Nat×Array Value}(h:Hid (xY E W w L L' (b::B) R j)):Hid (xY E W w L L' B R j):=⟨h.out.ac,h.out.sp.tail,h.out.kt,h.out.bl⟩
theorem nQ{R:Fo}(h:Hid (bU E W w i L B))(p:xY E w w' L L' B R j):Hid (xY E W w' L L' B R j):=⟨p.ac.le h.out.kt.size,p.sp,h.out.kt.trans p.kt,h.out.bl.trans p.bl⟩
theorem iV{q:Nat}{k:Int}(b:(E.tk q).k=k)(h:Hid (bU E W w i L B)):∃a,w.alloc (.cells (bg k (E.tk q)) 45)=a/\Hid (bU E W a i L B)/\Hid (TB a w.heap.size (E.tk q)):=⟨_,rfl,nB h (ax _ _),tN b⟩
theorem BP{t:Int}{b:Bool}(h:dM t=b)(w:World):Calls Tryz.prog 149 #[.int .i64 t] w fun e w'=>e= .returned (.bool b)/\w'=w:=by
 rw[<-h];exact gF w t
theorem GP{t:Int}{b:Bool}(h:cu t=b)(w:World):Calls Tryz.prog 152 #[.int .i64 t] w fun e w'=>e= .returned (.bool b)/\w'=w:=by
 rw[<-h];exact lY w t
theorem IR{t:Int}{b:Bool}(h:aZ t=b)(w:World):Calls Tryz.prog 91 #[.int .i64 t] w fun e w'=>e= .returned (.bool b)/\w'=w:=by
 rw[<-h];exact gG w t
theorem nL{R:Fo}(h:Hid (bU E W w i L B))(p:xY E w w' L L' B R j):Hid (Ac W.heap.size L L' R):=p.ac.le h.out.kt.size
end
section
variable {E : Pe} {i j : Nat}
theorem iS{k nk:Int}(g:(k=24/\nk=20)\/(k=29/\nk=21)\/(k=17/\nk=22)\/(k=49/\nk=27))(a:(E.tk i).k=k)(Q:i+1<E.n):CI E 153 #[pV E] i (one (bH nk (E.tk i) (E.tk i).t) .nil) (i+1):=by
 intro W L B c e;have q:=bU.start c;clear c;rcases g with⟨rfl,rfl⟩|⟨rfl,rfl⟩|⟨rfl,rfl⟩|⟨rfl,rfl⟩;all_goals
  go_in;go_wp2_with fail;refine au (aK a q (by omega)) fun G o=>?_;go_wp2_with fail;refine au (aK a o (by omega)) fun K l=>?_;go_wp2_with fail;refine au (dc a l (by omega) (by omega)) fun p u=>?_;obtain⟨O,d,m,h⟩:=iV (w:=p) a u;simp only[bg]at d;obtain⟨J,M,z,I,H,N⟩:=tC h a;go_wp2_with fail;refine au (BP (b:=false) (by decide) _) fun w' A=>?_;subst w';clear d;go_wp2_with fail;refine au (bQ a _ _) fun y r=>?_;have f:=nB m r;go_wp2_with fail;refine(eC f (by omega) (by omega) (nN _ (E.tk i)) none none 0 0 0 0 (World.ownsRow_nil _ _ _ _) (World.ownsRow_nil _ _ _ _) (by simp only[ag]at e;omega) (Fr.nil _ _ _) (Fr.nil _ _ _) (bH _ (E.tk i) (E.tk i).t) (Ac.nil _ L) rfl).mono ?_;rintro x R ⟨F,C,rfl,s,v⟩;go_wp2_with fail;go_ret;exact⟨_,_,rfl,s,v.out⟩
theorem lI{k nk d:Int}{c:ByteArray}(r:(k=2/\nk=23/\d=(E.tk i).n/\c=z0)\/(k=3/\nk=24/\d=0/\c=(E.tk i).x)\/(k=4/\nk=25/\d=0/\c=(E.tk i).x))(a:(E.tk i).k=k)(Z:i+1<E.n):CI E 153 #[pV E] i (one (nd nk (E.tk i) (E.tk i).t 0 d c []) .nil) (i+1):=by
 intro W L B h q;have z:=bU.start h;clear h;rcases r with⟨rfl,rfl,rfl,rfl⟩|⟨rfl,rfl,rfl,rfl⟩|⟨rfl,rfl,rfl,rfl⟩;all_goals
  go_in;go_wp2_with fail;refine au (aK a z (by omega)) fun Q v=>?_;go_wp2_with fail;refine au (aK a v (by omega)) fun U s=>?_;go_wp2_with fail;refine au (dc a s (by omega) (by omega)) fun y C=>?_;obtain⟨Y,m,u,o⟩:=iV (w:=y) a C;simp only[bg]at m;obtain⟨T,V,K,S,R,X⟩:=tC o a;go_wp2_with fail;refine au (BP (b:=false) (by decide) _) fun w' M=>?_;subst w';clear m;go_wp2_with fail;refine au (bQ a _ _) fun J p=>?_;have e:=tA (tB o p) a;have G:=fun g=>(e g).2.2.2.2.1;have H:=fun g=>(e g).2.2.2.2.2;clear e;go_wp2_with fail;refine(eC (nA (nB u p) _) (by omega) (by omega) ⟨_,(E.tk i).f,0,(E.tk i).l,0,_,_,[],[]⟩ none none 0 0 0 0 (World.ownsRow_nil _ _ _ _) (World.ownsRow_nil _ _ _ _) (by simp only[ag]at q;omega) (Fr.nil _ _ _) (Fr.nil _ _ _) (nd _ (E.tk i) (E.tk i).t 0 _ _ []) (Ac.nil _ L) rfl).mono ?_;rintro I af ⟨O,N,rfl,A,F⟩;go_wp2_with fail;go_ret;exact⟨_,_,rfl,A,(pT F).out⟩
theorem EI(a:(E.tk i).k=18)(Q:i<E.n){R:Fo}(r:CI E 102 #[pV E,.agg (aW (nN 36 (E.tk i)) s0 s0)] (i+1) R j):CI E 153 #[pV E] i R j:=by
 intro W L B c l;have p:=bU.start c;clear c;go_in;go_wp2_with fail;refine au (aK a p (by omega)) fun C m=>?_;go_wp2_with fail;refine au (aK a m (by omega)) fun I g=>?_;go_wp2_with fail;refine au (dc a g (by omega) (by omega)) fun o u=>?_;obtain⟨N,d,h,f⟩:=iV (w:=o) a u;simp only[bg]at d;obtain⟨J,K,x,G,F,M⟩:=tC f a;go_wp2_with fail;refine au (BP (b:=false) (by decide) _) fun w' y=>?_;subst w';clear d;go_wp2_with fail;refine au (bQ a _ _) fun O q=>?_;have e:=nB h q;go_wp2_with fail;refine(r _ _ _ e.out.sp l).mono ?_;rintro H S ⟨A,z,rfl,t,v⟩;have s:=nQ e v;go_wp2_with fail;go_ret;exact⟨_,_,rfl,t,s.out⟩
theorem zE{k:Int}(t:k=1\/k=40)(b:(E.tk i).k=k)(u:i<E.n){R:Fo}(h:CI E 105 #[pV E] i R j):CI E 153 #[pV E] i R j:=by
 intro W L B f l;have g:=bU.start f;clear f;rcases t with rfl|rfl
 ·go_in;go_wp2_with fail;refine au (aK b g (by omega)) fun q a=>?_;go_wp2_with fail;refine(h _ _ _ a.out.sp l).mono ?_;rintro r s ⟨o,m,rfl,d,e⟩;have c:=nQ a e;go_wp2_with fail;go_ret;exact⟨_,_,rfl,d,c.out⟩
 ·go_in;go_wp2_with fail;refine au (aK b g (by omega)) fun q p=>?_;go_wp2_with fail;refine au (aK b p (by omega)) fun v a=>?_;go_wp2_with fail;refine(h _ _ _ a.out.sp l).mono ?_;rintro r s ⟨o,m,rfl,d,e⟩;have c:=nQ a e;go_wp2_with fail;go_ret;exact⟨_,_,rfl,d,c.out⟩
end
section
variable {E : Pe} {W w w' : World} {i j : Nat} {L L1 L' : List Mb} {B B' : List (Nat × Array Value)}
theorem nC{b:Nat}{N:Nd}{vn vk:Value}(h:Hid (bU E W w i L ((b,aW N vn vk)::B))):w.cell? ⟨b,0,none⟩=some (.int .i64 N.k)/\w.cell? ⟨b,1,none⟩=some (.int .i64 N.f)/\w.cell? ⟨b,2,none⟩=some (.int .i64 N.t)/\w.cell? ⟨b,3,none⟩=some (.int .i64 N.l)/\w.cell? ⟨b,4,none⟩=some (.int .i64 N.op)/\w.cell? ⟨b,5,none⟩=some (.int .i64 N.n)/\w.cell? ⟨b,6,none⟩=some (.string N.x)/\w.cell? ⟨b,7,none⟩=some vn/\w.cell? ⟨b,8,none⟩=some vk/\∀j,w.frozen? ⟨b,j,none⟩=false:=ad (h.out.sp.box (List.mem_cons_self ..))
theorem oK{e n:Nat}{v:Value}{b:List Value}(o:Hid (w.ownsRow E.base e 1 v n b))(k:Kt w w')(a:e=3\/e=9):Hid (w'.ownsRow E.base e 1 v n b):=k.row o.out (by rcases a with rfl|rfl<;>decide) (by rcases a with rfl|rfl<;>decide)
theorem nK{b:Nat}{N:Nd}{vn vk:Value}(h:Hid (bU E W w i L ((b,aW N vn vk)::B)))(a:E.base<=b)(v:Value):Hid (bU E W (w.setCell ⟨b,8,none⟩ v) i L ((b,aW N vn v)::B))/\Kt w (w.setCell ⟨b,8,none⟩ v):=⟨nS h a 8 v,h.out.sp.kset 8 v⟩
theorem IS(l:List Int)(cs:Array Value)(v:cs=(l.map (Value.int .i64)).toArray)(s:l.length<=100)(h:Hid (bU E W w i L1 B))(y:1<=i)(C:i<=E.n)(N:Nd)(c:Option Addr)(b a:Nat)(on:w.ownsRow E.base 9 1 (.slice c b a) N.nm.length (N.nm.map Value.string))(m:Nat)(A:l.length=m)(o:N.ks=l)(x:L1.length<=50000000)(fn:Fr W.heap.size (.slice c b a))(d:Nd){R:Fo}(ac:Ac W.heap.size L L1 R)(q:({N with t:=(E.tk (i-1)).t}:Nd)={d with ks:=R.tops L.length}):
  Calls Tryz.prog 100 #[pV E,.agg (aW N (.slice c b a) (.slice (some ⟨w.heap.size+1,0,none⟩) m m))] ((w.alloc (.cells (aW N (.slice c b a) (.slice (some ⟨w.heap.size+1,0,none⟩) m m)) 69)).alloc (.cells cs 3)) fun e w'=>∃z L',e= .returned (.int .i64 z)/\(one d R).tops L.length=[z]/\Hid (xY E W w' L L' B (one d R) i):=by
 subst v A;have p:=nA h (aW N (.slice c b a) (.slice (some ⟨w.heap.size+1,0,none⟩) l.length l.length));have g:=ax (w.alloc (.cells (aW N (.slice c b a) (.slice (some ⟨w.heap.size+1,0,none⟩) l.length l.length)) 69)) (.cells (l.map (Value.int .i64)).toArray 3);have r:=nB p g;have f:=fY (w.alloc (.cells (aW N (.slice c b a) (.slice (some ⟨w.heap.size+1,0,none⟩) l.length l.length)) 69)) l l.length rfl s;rw[World.size_alloc]at f;refine(eC r y C N c _ b a _ _ (ai (ai on (ax _ _)) g) (by rw[o];exact cU f (by have:=h.out.sp.lt.2;omega)) x fn (Fr.new (by have:=h.out.kt.size;omega)) d ac q).mono ?_;rintro e w' ⟨z,L',rfl,u,k⟩;exact⟨z,L',rfl,u,pT k⟩
theorem Ag{b:Nat}{N:Nd}{vn vk:Value}(h:Hid (bU E W w i L ((b,aW N vn vk)::B)))(o:Obj):(w.alloc o).cell? ⟨b,8,none⟩=some vk/\∀j,(w.alloc o).frozen? ⟨b,j,none⟩=false:=(nC (nB h (ax w o))).2.2.2.2.2.2.2.2
theorem Ah{b:Nat}{N:Nd}{vn vk:Value}(l:List Int)(cs:Array Value)(n:cs=(l.map (Value.int .i64)).toArray)(m:Nat)(k:l.length=m)(h:Hid (bU E W w i L ((b,aW N vn vk)::B)))(o:E.base<=b)(f:m<=100):∃a,(w.alloc (.cells cs 3)).setCell ⟨b,8,none⟩ (.slice (some ⟨w.heap.size,0,none⟩) m m)=a/\Hid (bU E W a i L ((b,aW N vn (.slice (some ⟨w.heap.size,0,none⟩) m m))::B))/\Hid (a.ownsRow E.base 3 1 (.slice (some ⟨w.heap.size,0,none⟩) m m) l.length (l.map (Value.int .i64)))/\Kt w a:=by
 subst n k;have d:=ax w (.cells (l.map (Value.int .i64)).toArray 3);have g:=nB h d;obtain⟨e,c⟩:=nK g o (.slice (some ⟨w.heap.size,0,none⟩) l.length l.length);exact⟨_,rfl,e,oK (E:=E) (cU (fY w l l.length rfl f) h.out.sp.lt.2) c (.inl rfl),(Kt.of_below d).trans c⟩
theorem EJ{k:Nat}(u:(E.tk i).k=42)(Y:i<E.n){S:Fo}(hS:CL E 24 #[pV E,.int .i64 43] (i+1) S k)(N:(E.tk k).k=43)(am:k+1<E.n):CI E 94 #[pV E] i (one (bH 1 (E.tk i) (E.tk k).t) S) (k+1):=by
 intro W L B e m;have Q:=bU.start e;clear e;go_in;go_wp2_with fail;refine au (dc u Q Y (by omega)) fun ap J=>?_;go_wp2_with fail;refine au (bQ u _ _) fun ar s=>?_;have q:=nB J s;have V:=ab q.out.sp.lt.2;have a:=nA q (aW (nN 1 (E.tk i)) s0 s0);go_wp2_with fail;refine(hS _ _ _ a.out.sp (by simp only[ag]at m;omega)).mono ?_;rintro y a1 ⟨av,a0,rfl,⟨h,_⟩,d,c⟩;have K:=ab d;obtain⟨Z,z,rfl⟩:=aB d;have r:=nP a c;have ac:=nL a c;have A:Hid (Fr W.heap.size _):=h.le a.out.kt.size;clear h;obtain⟨O,T,G,F,v,x,C,af,H,U⟩:=nC r;obtain⟨g,p⟩:=nK r V.out (.slice Z S.len z);have I:=oK K p (.inl rfl);clear d c s p;go_wp2_with fail;refine au (co N g (by omega) (by omega)) fun al b=>?_;have o:=nX g b;have M:=oK I b.2.1 (.inl rfl);obtain⟨O,T,G,F,v,x,C,af,H,U⟩:=nC o;clear b;go_wp2_with fail;refine(eC o (by omega) (by omega) ⟨1,(E.tk i).f,0,(E.tk i).l,0,0,⟨#[]⟩,[],S.tops L.length⟩ none _ 0 0 _ _ (World.ownsRow_nil _ _ _ _) (by rw[Fo.tops_len];exact M.out) (by rw[ac.out.len];simp only[ag]at m;omega) (Fr.nil _ _ _) A.out (bH 1 (E.tk i) (E.tk k).t) ac.out rfl).mono ?_;rintro y a2 ⟨ao,an,rfl,R,X⟩;go_wp2_with fail;go_ret;exact⟨_,_,rfl,R,(pT X).out⟩
theorem GR(k:Int)(w:World):Calls Tryz.prog 181 #[.int .i64 k] w fun e w'=>e= .returned (.int .i64 (Ez k))/\w'=w:=by
 unfold Ez;by_cases c:k=25
 ·subst c;go_in;go_wp2;go_ret;exact⟨rfl,rfl⟩
 by_cases b:k=50
 ·subst b;go_in;go_wp2;go_ret;exact⟨rfl,rfl⟩
 by_cases a:k=69
 ·subst a;go_in;go_wp2;go_ret;exact⟨rfl,rfl⟩
 ·rw[if_neg c,if_neg b,if_neg a];have f:(k==25)=false:=by simp[c]
  have d:(k==50)=false:=by simp[b]
  have g:(k==69)=false:=by simp[a]
  go_in;go_wp2;go_ret;exact⟨rfl,rfl⟩
theorem BQ{k:Int}(z:k=25\/k=50\/k=62\/k=69)(a:(E.tk i).k=k)(ar:i<E.n){x:Fo}(T:CI E 153 #[pV E] (i+1) x j)(af:i+1<=j)(y:j<=E.n):CI E 153 #[pV E] i (one (nd 30 (E.tk i) (E.tk (j-1)).t (Ez (E.tk i).k) 0 z0 []) x) j:=by
 intro W L B e g;have N:=bU.start e;clear e;rw[a];rcases z with rfl|rfl|rfl|rfl;all_goals
  go_in;go_wp2_with fail;refine au (aK a N (by omega)) fun al I=>?_;go_wp2_with fail;refine au (aK a I (by omega)) fun am F=>?_;go_wp2_with fail;refine au (dc a F (by omega) (by omega)) fun J S=>?_;obtain⟨ap,h,d,o⟩:=iV (w:=J) a S;simp only[bg]at h;obtain⟨K,M,A,H,G,O⟩:=tC o a;go_wp2_with fail;refine au (BP (b:=true) (by decide) _) fun w' C=>?_;subst w';clear h;go_wp2_with fail;refine(T _ _ _ d.out.sp (by simp only[ag]at g;omega)).mono ?_;rintro u Z ⟨p,ao,rfl,R,c⟩;have s:=nP d c;have ac:=nL d c;have q:=tK o c.kt;obtain⟨K,M,A,H,G,O⟩:=tC q a;clear c;go_wp2_with fail;refine au (bQ a _ _) fun X r=>?_;have v:=nB s r;have m:=tA (tB q r) a;have an:=fun Q=>(m Q).1;clear m;go_wp2_with fail;refine au (GR _ _) fun w' C=>?_;subst w';go_wp2_with fail;refine(IS [p] _ rfl (by simp) v (by omega) y ⟨30,(E.tk i).f,0,(E.tk i).l,_,0,⟨#[]⟩,[],[p]⟩ none 0 0 (World.ownsRow_nil _ _ _ _) 1 rfl rfl (by rw[ac.out.len];simp only[ag]at g;omega) (Fr.nil _ _ _) (nd 30 (E.tk i) (E.tk (j-1)).t _ 0 z0 []) ac.out (by rw[R];rfl)).mono ?_;rintro u av ⟨Y,ak,rfl,V,U⟩;go_wp2_with fail;go_ret;exact⟨_,_,rfl,V,U.out⟩
theorem EK{k:Int}(a:(E.tk i).k=k)(h:Hid (bU E W w i L B))(b:i<E.n):Calls Tryz.prog 49 #[pV E,.int .i64 k] w fun e w'=>e= .returned (.bool true)/\Sp E w' (i+1) L B/\Kt w w'/\Below E.base w w':=EH h.out.sp b k a
theorem Dv{k:Int}(a:(E.tk i).k≠k)(h:Hid (bU E W w i L B))(b:i<E.n):Calls Tryz.prog 49 #[pV E,.int .i64 k] w fun e w'=>e= .returned (.bool false)/\Below w.heap.size w w':=GN h.out.sp b k a
theorem nM{b:Nat}{N:Nd}{vn vk:Value}(h:Hid (bU E W w i L ((b,aW N vn vk)::B)))(a:E.base<=b)(v:Value):Hid (bU E W (w.setCell ⟨b,7,none⟩ v) i L ((b,aW N v vk)::B))/\Kt w (w.setCell ⟨b,7,none⟩ v):=⟨nS h a 7 v,h.out.sp.kset 7 v⟩
def CM(E:Pe)(i:Nat)(ns:List ByteArray)(j:Nat):Prop:=
 ∀(W:World)(L:List Mb)(B:List (Nat×Array Value)),Sp E W i L B->Calls Tryz.prog 98 #[pV E] W fun b w'=>∃a,b= .returned a/\Fr W.heap.size a/\w'.ownsRow E.base 9 1 a ns.length (ns.map Value.string)/\Sp E w' j L B/\Kt W w'/\Below E.base W w'
end
theorem uj:(Tryz.prog.info? 3).map (fun i=>(i.zero,i.size,i.bytes))=some (some (.int .i64 0),1,8):=by kernel_rfl
theorem oE:(Tryz.prog.info? 9).map (fun i=>(i.zero,i.size,i.bytes))=some (some (.string ⟨#[]⟩),1,16):=by kernel_rfl
theorem be{w:World}{k:Array Oper}{m:List Oper}{o:Oper}{a:Act}{Q:Exit->Act->World->Prop}(v:o.guard=none)(s x:Operand)(F:o.op= .call {callee:= .builtin .append,args:=#[s,x],argTypes:=#[67,67]})(base:Nat)(d:Option Addr)(n f:Nat)(l:List Int)(t:a.eval s= .slice d n f)(N:l.length=n)(r:w.ownsRow base 3 1 (.slice d n f) n (l.map (Value.int .i64)))(A:base<=w.heap.size)(b:Nat)(z:Int)(K:a.eval x= .slice (some ⟨b,0,none⟩) 1 1)(u:w.heap[b]?=some (.cells #[.int .i64 z] 3 (0,0)))(O:n<=50000000)
  (h:∀g cap c,c.ownsRow base 3 1 (.slice (some ⟨g,0,none⟩) (n+1) cap) (n+1) ((l++[z]).map (Value.int .i64))->w.grownBy c (Value.slice d n f).ownBlock->((Value.slice d n f).ownBlock=some g\/g=w.heap.size)->wpList Tryz.prog k Q m (a.put o.dst (.slice (some ⟨g,0,none⟩) (n+1) cap)) c):wpList Tryz.prog k Q (o::m) a w:=by
 obtain⟨q,M,J,I,G⟩:=info_parts uj;refine wpList_append_own_at _ v s x 67 F base 3 q _ 1 8 Tryz.underlying67 M J I G rfl (by decide) _ _ _ t r ⟨b,0,none⟩ 1 1 [.int .i64 z] K rfl (World.news_of_block (cs:=#[.int .i64 z]) u) (by intro S H;rw[List.mem_singleton.1 H];rfl) (by unfold maxLen;omega) (by omega) A ?_;intro R c p y _ C;obtain⟨g,cap,rfl⟩:=ownsRow_succ p;exact h g cap c (by rw[List.map_append];exact p) y (by rcases C with e|e;exact .inl e.symm;exact .inr (by simpa [Value.ownBlock] using e))
section
variable {E : Pe} {W w w' : World} {i j : Nat} {L L1 L' : List Mb} {B B' : List (Nat × Array Value)}
theorem nG{v:Value}{n:Nat}{g:List Value}(h:Hid (bU E W w i L B))(o:w.ownsRow E.base 3 1 v n g)(d:w.grownBy w' v.ownBlock)(fr:Fr W.heap.size v)(O:Sv v L):Hid (bU E W w' i L B):=by
 have u:=h.out.kt.size;obtain⟨K,T,M,U⟩:=h.out.sp.tks;obtain⟨R,F,C,s⟩:=h.out.sp.row;have k:∀{b:Nat}{y:Array Value}{q:TypeId}{fr:Nat×Nat},w.heap[b]?=some (.cells y q fr)->q≠3->w'.heap[b]?=some (.cells y q fr):=fun c H=>(d.block _ (lt_of_block c) (fun a=>bZ o c H a.symm)).trans c;have x:∀{base a size n:Nat}{A:Value}{g:List Value},w.ownsRow base a size A n g->a≠3->w'.ownsRow base a size A n g:=fun S N=>by
  obtain⟨p,e⟩:=S;refine⟨p,?_⟩;rcases e with e|⟨m,Q,I,l,d,G,J⟩
  ·exact .inl e
  ·exact .inr ⟨m,Q,I,l,d,k G N,J⟩
 refine⟨⟨h.out.sp.lo,h.out.sp.hn,⟨K,T,k M (by decide),U⟩,⟨R,k F (by decide),x C (by decide),fun t z=>⟨k (s t z).1 (by decide),(s t z).2⟩⟩,fun f r=>⟨x (h.out.sp.each f r).1 (by decide),(h.out.sp.each f r).2.kept d ?_⟩,h.out.sp.nb⟩,⟨Nat.le_trans u d.size,fun b c p e=>?_⟩,?_⟩
 ·cases l:f.vk.ownBlock with
  |none=>exact .inl rfl
  |some m=>exact .inr (fun a=>O f r m a.symm l)
 ·rw[<-h.out.kt.block b c p e];exact d.block b (Nat.lt_of_lt_of_le c u) (fun a=>by have:=fr b a.symm;omega)
 ·exact h.out.bl.trans ((Below.refl _ w).grown d h.out.sp.lt.2 (fun b c=>(o.lt b c).1))
theorem iB(h:Sp E w i L B){b n c:Nat}(k:w.heap.size<=b):Sv (.slice (some ⟨b,0,none⟩) n c) L:=fun g e a f d=>by
 obtain rfl:b=a:=by simpa [Value.ownBlock] using f
 have:=((h.each g e).2.lt b d).2;omega
end
inductive Ls (E:Pe) (C:Nat->Fo->Nat->Prop):Nat->Nat->Fo->Nat->Prop where
 |stop {k:Nat}:(E.tk k).k≠46->k<E.n->Ls E C 0 k .nil k
 |go {m k k1 j:Nat}{x R:Fo}:(E.tk k).k=46->k<E.n->C (k+1) x k1->Ls E C m k1 R j->Ls E C (m+1) k (x.app R) j
section
variable {E : Pe} {i j : Nat}
abbrev wC(E:Pe)(i:Nat)(x:Fo)(j:Nat):Prop:=CI E 101 #[pV E,.int .i64 0] i x j
structure bG (E:Pe) (W:World) (L:List Mb) (B:List (Nat×Array Value)) (w:World) (k:Nat) (L1:List Mb) (D:Fo) (av:Option Addr) (n cv:Nat):Prop where
 nw:Hid (bU E W w k L1 B)
 ac:Ac W.heap.size L L1 D
 ln:D.len=n
 ow:w.ownsRow E.base 3 1 (.slice av n cv) n ((D.tops L.length).map (Value.int .i64))
 fr:Fr W.heap.size (.slice av n cv)
 sv:Sv (.slice av n cv) L1
theorem bG.below{W w w':World}{L L1:List Mb}{B:List (Nat×Array Value)}{k:Nat}{D:Fo}{c:Option Addr}{n a:Nat}(h:bG E W L B w k L1 D c n a)(b:Below w.heap.size w w'):bG E W L B w' k L1 D c n a:=⟨nB h.nw b,h.ac,h.ln,ai h.ow b,h.fr,h.sv⟩
theorem bG.move{W w w':World}{L L1:List Mb}{B:List (Nat×Array Value)}{k c:Nat}{D:Fo}{b:Option Addr}{n a:Nat}(h:bG E W L B w k L1 D b n a)(q:Sp E w' c L1 B/\Kt w w'/\Below E.base w w'):bG E W L B w' c L1 D b n a:=⟨nX h.nw q,h.ac,h.ln,q.2.1.row h.ow (by decide) (by decide),h.fr,h.sv⟩
structure ft (E:Pe) (W:World) (L:List Mb) (B:List (Nat×Array Value)) (w:World) (k:Nat) (L1:List Mb) (D x:Fo) (z:Int) (av:Option Addr) (n cv:Nat):Prop where
 nw:Hid (bU E W w k L1 B)
 ac:Ac W.heap.size L L1 (D.app x)
 ln:D.len=n
 one:x.len=1
 tp:(D.app x).tops L.length=D.tops L.length++[z]
 ow:w.ownsRow E.base 3 1 (.slice av n cv) n ((D.tops L.length).map (Value.int .i64))
 fr:Fr W.heap.size (.slice av n cv)
 sv:Sv (.slice av n cv) L1
theorem bG.up{W w w':World}{L L1 a:List Mb}{B:List (Nat×Array Value)}{k c:Nat}{D x:Fo}{z:Int}{b:Option Addr}{n e:Nat}(h:bG E W L B w k L1 D b n e)(p:xY E w w' L1 a B x c)(d:x.tops L1.length=[z]):ft E W L B w' c a D x z b n e:=
 ⟨nP h.nw p,h.ac.app (nL h.nw p).out,h.ln,by rw[<-Fo.tops_len x L1.length,d];rfl,by rw[Fo.tops_app,<-h.ac.len,d],p.kt.row h.ow (by decide) (by decide),h.fr,h.sv.next p.ac (fun g f=>(h.ow.lt g f).2)⟩
theorem ft.put{W w a:World}{L L1:List Mb}{B:List (Nat×Array Value)}{k:Nat}{D x:Fo}{z:Int}{b:Option Addr}{n c g cap:Nat}{o:Obj}(h:ft E W L B w k L1 D x z b n c)(p:a.ownsRow E.base 3 1 (.slice (some ⟨g,0,none⟩) (n+1) cap) (n+1) ((D.tops L.length++[z]).map (Value.int .i64)))(q:(w.alloc o).grownBy a (Value.slice b n c).ownBlock)(d:(Value.slice b n c).ownBlock=some g\/g=(w.alloc o).heap.size):bG E W L B a k L1 (D.app x) (some ⟨g,0,none⟩) (n+1) cap:=by
 have s:=h.nw.out.kt.size;refine⟨nG (nB h.nw (ax w o)) (ai h.ow (ax w o)) q h.fr h.sv,h.ac,by rw[Fo.len_app,h.ln,h.one],by rw[h.tp];exact p,?_,?_⟩
 ·rcases d with e|e
  ·exact Fr.new (h.fr g e)
  ·exact Fr.new (by rw[e,World.size_alloc];omega)
 ·rcases d with e|e
  ·intro r m f l;exact h.sv r m f (by rw[e];exact l)
  ·exact iB (h.nw.out.sp.below (ax w o)) (by omega)
theorem EL{x R:Fo}{k m:Nat}(al:wC E i x k)(H:Ls E (wC E) m k R j):CL E 99 #[pV E] i (x.app R) j:=by
 intro W L B G N;have Z:=bU.start G;clear G;go_in;go_wp2_with fail;refine(al _ _ _ Z.out.sp (by simp only[Fo.sz_app]at N;omega)).mono ?_;rintro O v ⟨u,L1,rfl,F,f⟩;have a2:Hid (bG E W L B (v.alloc (.cells #[.int .i64 u] 3)) k L1 x (some ⟨v.heap.size,0,none⟩) 1 1):=
  ⟨nB (nP Z f) (ax _ _),f.ac,by rw[<-Fo.tops_len x L.length,F];rfl,by rw[F];exact cU (fY v [u] 1 rfl (by decide)) f.sp.lt.2,Fr.new f.kt.size,iB f.sp (Nat.le_refl _)⟩
 have a7:=ab H;clear F f H al;go_wp2_with fail;go_loopg [3,4] m (fun gk a1 a0 wr=>∃(k:Nat) (D A:Fo) (K:Int) (e:Option Addr) (a g:Nat) (L1:List Mb),a1= .int .i64 K/\a0= .slice e a g/\Hid (Ls E (wC E) gk k A j/\bG E W L B wr k L1 D e a g/\D.app A=x.app R))
 case atStart=>exact⟨k,x,R,u,_,1,1,L1,rfl,rfl,a7.out,a2.out,rfl⟩
 case round=>
  obtain⟨a6,D,A,K,e,a,g,U,rfl,rfl,C⟩:=hrel;obtain⟨a4,d,b⟩:=C.out;cases a4 with
  |stop q p=>
   have y:=d.nw;have l:=cK d b;clear d b C;go_wp2_with fail;refine au (Dv q y p) fun Y a5=>?_;go_wp2_with fail;go_ret;obtain⟨d,b⟩:=l.out;have c:=d.below a5;rw[Fo.app_nil]at b;rw[<-b];exact⟨_,U,rfl,⟨c.fr,c.sv⟩,by rw[c.ln];exact c.ow,c.ac,c.nw.out.sp,c.nw.out.kt,c.nw.out.bl⟩
  |@go an _ z _ n Q q p ao ak=>
   have y:=d.nw;have l:=cS d b ak;have V:Hid (L.length+(D.app (n.app Q)).sz<=50000000):=by rw[b];exact N
   clear d b C ak;go_wp2_with fail;refine au (EK q y p) fun Y M=>?_;have r:Hid (bG E W L B Y (a6+1) U D e a g):=l.out.1.move M;clear M;go_wp2_with fail;refine(ao _ _ _ r.out.nw.out.sp (by have:=V.out;rw[r.out.ac.len];simp only[Fo.sz_app]at this;omega)).mono ?_;rintro O o ⟨t,s,rfl,af,I⟩;have h:Hid (ft E W L B o z s D n t e a g):=r.out.up I af;clear I af;have ap:a<=50000000:=by have ar:=V.out;have O:=h.out.ln;have a9:=D.len_le;simp only[Fo.sz_app]at ar;omega
   go_wp2_with (at_builtin;refine be rfl _ _ rfl E.base e a g (D.tops L.length) rfl (by rw[Fo.tops_len];exact h.out.ln) (ai h.out.ow (ax o _)) (by rw[World.size_alloc];have:=h.out.nw.out.sp.lt.2;omega) o.heap.size t rfl (heap_alloc_new o _) ap ?_;intro am S a3 X T J;have a8:Hid (bG E W L B a3 z s (D.app n) (some ⟨am,0,none⟩) (a+1) S):=h.out.put X T J;clear X T J);go_roundg an
   case measure=>omega
   case rel=>exact⟨z,D.app n,Q,t,_,a+1,S,s,rfl,rfl,l.out.2.2,a8.out,by rw[Fo.app_app];exact l.out.2.1⟩
end
end Go.Proofs.YtcbmoiabehpliaaGreatDoor
