import Derived.Test.YtcbmoiabehpliaaGreatDoorHPk01
import Derived.Test.YtcbmoiabehpliaaGreatDoorHPk45
import Derived.Test.YtcbmoiabehpliaaGreatDoorHPk32
import Derived.Test.YtcbmoiabehpliaaGreatDoorHPk40
import Derived.Test.YtcbmoiabehpliaaGreatDoorHPk25
import Derived.Test.YtcbmoiabehpliaaGreatDoorHPk38
import Derived.Deep.AppendLies
set_option linter.unusedSimpArgs false
set_option linter.unusedVariables false
set_option maxRecDepth 100000
set_option maxHeartbeats 6400000
namespace Go.Proofs.YtcbmoiabehpliaaGreatDoor
open Go.RowKit Go.Maps Go.WideMaps
section
variable {E : Pe} {i j k k1 : Nat} {x y R Ex : Fo}
theorem Sw.lam{W w g w4:World}{b:Nat}{s:Tk}{v vn kv:Value}{J:List ByteArray}{r:Bool}{T:Bxs}{M:List (Value×List ByteArray)}(h:Sw E W w i s0 [] .nil [] ((b,153,lN vn r)::T) ((vn,J)::M))(d:Sw E w g j kv [v] R [v] [] []){e:Int}(O:w4.heap[b]?=some (.cells #[.int .i64 36,.int .i64 s.f,.int .i64 e,.int .i64 s.l,.int .i64 0,kv,vn,.bool r] 153 (0,0)))(B:g.grownBy w4 (some b)):Sw E W w4 j s0 [] (one (nd 36 s e (IA r) 0 z0 J) R) [.iface 151 (.pointer (some ⟨b,0,none⟩))] [] []:=by
 obtain⟨C,af,u⟩:=h.tb _ (List.mem_cons_self ..);have X:=lt_of_block u;simp only at C X;have Q:=h.lt;have Y:=h.gr.size;have F:∀k,k<g.heap.size->k≠b->w4.heap[k]?=g.heap[k]?:=fun k p o=>B.block k p (fun e=>o (by cases e;rfl));have Z:=d.gr.size;obtain⟨I,G,V⟩:=d.nb;refine⟨d.pp.other (by omega) (fun e=>?_) (by omega) B,(h.gr.trans d.gr).andThen B (fun k U=> .inl (by cases U;exact C)),Q,World.ownsRow_nil _ _ _ _,⟨_,⟨b,0,vn,kv,[v],[],I,[],⟨rfl,rfl⟩,⟨C,by simp[Value.ownBlock],?_,?_⟩,⟨?_,fun m _=>by simp[Value.ownBlock]⟩,⟨?_,fun m _=>by simp[Value.ownBlock]⟩,?_,rfl,rfl⟩,?_⟩,fun K A=>(by cases A),fun K A=>(by cases A)⟩
 ·obtain⟨ak,al,z,_⟩:=h.pp.tks;rw[<-e,u]at z;simp only[Option.some.injEq,Obj.cells.injEq]at z;exact absurd z.2.1 (by decide)
 ·unfold bK;rw[O];cases r<;>rfl
 ·cases r<;>rfl
 ·have q:=h.nm _ (List.mem_cons_self ..);refine eB (w:=w) q (fun m H p o=>⟨?_,p⟩);rw[F m (by omega) (fun e=>bZ q u (show 153≠9 by decide) (by rw[<-e];exact H))];exact d.gr.block m o (fun e=>by cases e;omega)
 ·exact eB (w:=g) d.ro (fun m H p o=>⟨F m o (by omega),by omega⟩)
 ·exact gK.mono (w:=g) (fun k p o S=>⟨F k S (by omega),by omega,by simp[Value.ownBlock]⟩) _ _ _ G
 ·rw[show mB []=[] from rfl,List.append_nil,List.append_nil];have q:=h.nm _ (List.mem_cons_self ..);have:=I6 (a:=vn.ownBlock.toList) (b:=I) (c:=[]) (n:=w.heap.size) (by rw[List.append_nil];exact sa _) (by simpa [mB] using V) (fun x t=>by rw[List.append_nil]at t;exact(q.lt x (by simpa using t)).2) (fun x t=>(G.lt _ _ _ x t).1);rw[List.append_nil]at this;exact this
theorem Jp{s:Tk}{q:Int}{Y:List ByteArray}{r:Bool}(a9:s.k=q)(cs:(E.tk i).k=40)(cw:i+1<E.n)(b2:xW E.tk E.n (i+1) Y r k)(ct:CN E 136 #[pV E] k x j)(al:k+1<=j)(c0:j<=E.n):CN E 167 #[pV E,.agg (bg q s)] i (one (nd 36 s (E.tk (j-1)).t (IA r) 0 z0 Y) x) j:=by
 intro w W cx;have ch:=Sw.start W;have b5:=ab b2;have c7:=W.hn;have cP:=Fg;simp only[ag]at cx;clear W b2;obtain⟨dn,ck,b1⟩:=dv ch a9;simp only[bg]at ck;go_in;go_wp2_with fail;refine au (aU b1 cs (by omega) (by decide)) fun c b3=>?_;clear ck;have cb:Hid (Sw E w (c.alloc (.cells (lN s0 false) 153)) (i+1) s0 [] .nil [] [(c.heap.size,153,lN (s0) false),tkB w.heap.size s] [(s0,[])]):=by
  have V:=b3.out.boxg (lN s0 false) 153 (by decide) (by decide);exact⟨V.pp,V.gr,V.lt,V.ro,⟨[],⟨rfl,rfl⟩,by simp[mB,Value.ownBlock]⟩,V.tb,fun bx X=>by obtain rfl:=List.mem_singleton.1 X;exact World.ownsRow_nil _ _ _ _⟩
 go_wp2_with fail;clear ch b1 b3;go_loopg [13] (E.n-(i+1)) (fun gk c1 wr=>∃(d:Nat) (D a6:List ByteArray) (u a1:Bool) (m:Option Addr) (n o:Nat),gk=E.n-d/\D.length=n/\n<=d/\d<E.n/\Hid (xW E.tk E.n d a6 a1 k/\Sw E w wr d s0 [] .nil [] [(c.heap.size,153,lN (.slice m n o) u),tkB w.heap.size s] [(.slice m n o,D)]/\D++a6=Y/\(u||a1)=r))
 case atStart=>exact⟨i+1,[],Y,false,r,none,0,0,rfl,rfl,by omega,cw,b5.out,cb.out,rfl,by simp⟩
 case round=>
  clear cb b5;obtain⟨d,D,a6,u,a1,m,n,o,rfl,Z,d4,ds,b6⟩:=hrel;obtain⟨V,b8,Q,T⟩:=b6.out;have a3:=ab b8;clear b8 b6;cases V with
  |close p K=>
   rw[List.append_nil]at Q;rw[Bool.or_false]at T;subst Q T;go_wp2_with fail;refine au (iG a3 p (by omega)) fun w4 B=>?_;go_wp2_with fail;refine(ct _ B.out.pp (by omega)).mono ?_;rintro e G ⟨d2,rfl,h⟩;obtain⟨bl,bh,rfl⟩:=mo.form h.out.nn;have bA:=B.out.step h.out.gr h.out.pp;obtain⟨cI,b7,H⟩:=fe h [.iface bl bh] #[.iface bl bh] rfl 1 rfl (by decide);have cg:=sB bA (ax G (.cells #[.iface bl bh] 51));rw[b7]at cg;obtain⟨d0,c3,dk,dq,c2,d3⟩:=dZ (sT (b:=(c.heap.size,153,lN (.slice m n o) u)) bA) a9;go_wp2_with fail;clear b7;refine au (bL H a9 (by omega) (by omega) 36 _ _ _) fun l F=>?_;have cl:=B.out.step F.out.gr F.out.pp;have J:=(cl.tb _ (List.mem_cons_self ..)).2.2;have d1:l.cell? ⟨c.heap.size,0,none⟩=some (.int .i64 0):=by rw[cell_of_row _ _ _ _ _ _ J];rfl
   have d5:l.cell? ⟨c.heap.size,1,none⟩=some (.int .i64 0):=by rw[cell_of_row _ _ _ _ _ _ J];rfl
   have c9:l.cell? ⟨c.heap.size,2,none⟩=some (.int .i64 0):=by rw[cell_of_row _ _ _ _ _ _ J];rfl
   have c8:l.cell? ⟨c.heap.size,3,none⟩=some (.int .i64 0):=by rw[cell_of_row _ _ _ _ _ _ J];rfl
   have cN:l.cell? ⟨c.heap.size,4,none⟩=some (.int .i64 0):=by rw[cell_of_row _ _ _ _ _ _ J];rfl
   have cT:l.cell? ⟨c.heap.size,5,none⟩=some (.slice none 0 0):=by rw[cell_of_row _ _ _ _ _ _ J];rfl
   have c4:∀j,l.frozen? ⟨c.heap.size,j,none⟩=false:=fun j=>frozen_of_row _ _ _ _ _ J;have cn:=ab J;clear J cl bA cg;go_wp2_with fail;go_ret;exact⟨_,rfl,B.out.lam (s:=s) (e:=(E.tk (j-1)).t) F.out (heap_setCell_same _ _ 5 _ _ _ (heap_setCell_same _ _ 4 _ _ _ (heap_setCell_same _ _ 3 _ _ _ (heap_setCell_same _ _ 2 _ _ _ (heap_setCell_same _ _ 1 _ _ _ (heap_setCell_same _ _ 0 _ _ _ cn.out)))))) (ci (ci (ci (ci (ci (ci (dt l _) 0 _) 1 _) 2 _) 3 _) 4 _) 5 _)⟩
  |rest p K b4=>
   have O:Hid (D++[]=Y/\(true||false)=r):=⟨Q,by rw[<-T,Bool.or_true];rfl⟩;clear Q T;go_wp2_with fail;refine au (iY a3 (by rw[p];decide) (by omega)) fun b9 ar=>?_;go_wp2_with fail;refine au (iG ar p (by omega)) fun w4 B=>?_;obtain⟨am,a5,a4⟩:=Fh B;have h:Hid (Sw E w (w4.setCell ⟨c.heap.size,7,none⟩ (.bool true)) (d+1) s0 [] .nil [] [(c.heap.size,153,lN (.slice m n o) true),tkB w.heap.size s] [(.slice m n o,D)]):=B.out.setL (by intro bx X;obtain rfl:=List.mem_singleton.1 X;show 45≠153;decide);go_wp2_with fail;refine au (iY h (by rw[K];decide) (by omega)) fun cf a0=>?_;go_wp2_with fail;go_roundg (E.n-(d+1))
   case measure=>omega
   case rel=>exact⟨d+1,D,[],true,false,m,n,o,rfl,Z,by omega,by omega,.close K (by omega),a0.out,O.out.1,O.out.2⟩
  |last p K b4=>
   have O:Hid ((D++[(E.tk d).x])++[]=Y/\(u||false)=r):=⟨by rw[List.append_nil];exact Q,T⟩;clear Q T;have cB:n<=50000000:=by omega
   go_wp2_with fail;refine au (iY a3 (by rw[p];decide) (by omega)) fun b9 ar=>?_;go_wp2_with fail;refine au (iY ar (by rw[p];decide) (by omega)) fun w4 B=>?_;go_wp2_with fail;have U:=sB B (aE (Below.refl _ _));obtain⟨am,a5,a4⟩:=Fh U;refine wp_region_held_drew (S:=fun _=>True) (by kernel_rfl) trivial (fun hS=>?_);simp only[List.size_toArray,List.length_cons,List.length_nil,Nat.reduceAdd,Array.replicate_succ,Array.replicate_zero,List.push_toArray,List.nil_append,List.cons_append];refine aA 0 (.pointer (some ⟨c.heap.size,0,none⟩)) rfl rfl (by kernel_rfl) (fun _ _ _=>id) hS (fun w' z=>by go_simp) ?_;simp only[List.set];refine aA 1 (.pointer (some ⟨c.heap.size,0,none⟩)) rfl rfl (by kernel_rfl) (fun _ _ _=>id) hS (fun w' z=>by go_simp) ?_;simp only[List.set];refine aA 2 (.pointer (some ⟨c.heap.size,0,none⟩)) rfl rfl (by kernel_rfl) (fun _ _ _=>id) hS (fun w' z=>by go_simp) ?_;simp only[List.set];refine aA 3 (.pointer (some ⟨c.heap.size,6,none⟩)) rfl rfl (by kernel_rfl) (fun _ _ _=>id) hS (fun w' z=>by go_simp) ?_;simp only[List.set];refine aA 5 (.pointer (some ⟨E.pb,0,none⟩)) rfl rfl (by kernel_rfl) (fun _ _ _=>id) hS (fun w' z=>by go_simp) ?_;simp only[List.set];refine gg (S:=fun b0=>b0.cell? ⟨c.heap.size,6,none⟩=some (.slice m n o)) (C:=fun j=>!(j==9||j==10||j==11||j==12)) (i:=4) (v:= .slice m n o) rfl (Region.noSelect_spec (by kernel_rfl)) (fun _ _ _ W=>W) ?hC _ _ _ _ (Region.free_spec rfl (by kernel_rfl)) (List.contains_iff_mem.1 (by kernel_rfl)) (Or.inl ⟨by rfl,fun w' z=>by go_simp⟩) hS am ?_
   case hC=>
    intro j cq al g;simp only[Bool.not_eq_false',Bool.or_eq_true,beq_iff_eq]at g;rcases g with((rfl|rfl)|rfl)|rfl
    ·obtain rfl:=Option.some.inj al;exact⟨{on:=4,ground:=Ground.data},by simp,rfl,rfl⟩
    all_goals
     obtain rfl:=Option.some.inj al;exact⟨{on:=4,ground:=Ground.phase},by simp,rfl,rfl⟩
   simp only[Act.put,List.setIfInBounds_toArray,List.set_cons_zero,List.set_cons_succ];refine aR (i:=6) (by kernel_rfl) rfl (fun f a=>?_);go_simp;refine au (aU U p (by omega) (by decide)) fun G h=>?_;have af:=(Fh h).1;refine a.out _ _ trivial (fun _=>af) ?_;clear a f;try simp only[List.setIfInBounds_toArray,List.set_cons_zero,List.set_cons_succ]
   refine aR (i:=7) (by kernel_rfl) rfl (fun f a=>?_);simp only[bg];go_simp;refine a.out _ _ trivial (fun _=>af) ?_;clear a f;try simp only[List.setIfInBounds_toArray,List.set_cons_zero,List.set_cons_succ]
   refine aR (i:=8) (by kernel_rfl) rfl (fun f a=>?_);go_simp;have H:=sB h (ax G (.cells #[.string (E.tk d).x] 9));have ap:=(Fh H).1;have ak:=H.out.nm _ (List.mem_cons_self ..);rw[List.length_map,Z]at ak;refine a.out _ _ trivial (fun _=>ap) ?_;clear a f;try simp only[List.setIfInBounds_toArray,List.set_cons_zero,List.set_cons_succ]
   obtain⟨bt,a7,bo,bN,a8⟩:=info_parts oE;refine aR (i:=9) (by kernel_rfl) rfl (fun f a=>?_);refine step_append_lies _ (by rfl) _ _ 66 (by rfl) w.heap.size 9 bt _ 1 16 Tryz.underlying66 a7 bo bN a8 rfl (by decide) (.slice m n o) n _ (by rfl) ak ⟨G.heap.size,0,none⟩ 1 1 [.string (E.tk d).x] (by rfl) rfl (World.news_of_block (heap_alloc_new G _)) (by intro cF bn;rw[List.mem_singleton.1 bn];rfl) (by decide) (by unfold maxLen;omega) (by omega) (Nat.le_trans h.out.gr.size (ax G _).size) _ rfl ?_;intro I A l a2 ao bD bw;have F:Hid (Sw E w l (d+1) s0 [] .nil [] [(c.heap.size,153,lN (.slice m n o) u),tkB w.heap.size s] [(.slice (some ⟨I,0,none⟩) (n+1) A,D++[(E.tk d).x])]):=H.out.putN (by rw[List.length_map,List.length_append,Z,List.map_append];exact a2) ao;obtain⟨bb,bE,bs⟩:=Fh F;clear a2 ao bD bw ak;refine a.out _ _ trivial (fun g=>by cases g) ?_;clear a f;simp only[Act.put,List.setIfInBounds_toArray,List.set_cons_zero,List.set_cons_succ];refine aR (i:=10) (by kernel_rfl) rfl (fun f a=>?_);go_simp;refine a.out _ _ trivial (fun g=>by cases g) ?_;clear a f;try simp only[List.setIfInBounds_toArray,List.set_cons_zero,List.set_cons_succ]
   refine aR (i:=11) (by kernel_rfl) rfl (fun f a=>?_);go_simp;refine a.out _ _ trivial (fun g=>by cases g) ?_;clear a f;try simp only[List.setIfInBounds_toArray,List.set_cons_zero,List.set_cons_succ]
   refine aR (i:=12) (by kernel_rfl) rfl (fun f a=>?_);go_simp;have an:Hid (Sw E w (l.setCell ⟨c.heap.size,6,none⟩ (.slice (some ⟨I,0,none⟩) (n+1) A)) (d+1) s0 [] .nil [] [(c.heap.size,153,lN (.slice (some ⟨I,0,none⟩) (n+1) A) u),tkB w.heap.size s] [(.slice (some ⟨I,0,none⟩) (n+1) A,D++[(E.tk d).x])]):=F.out.setL (by intro bx X;obtain rfl:=List.mem_singleton.1 X;show 45≠153;decide);refine a.out _ _ trivial (fun g=>by cases g) ?_;clear a f;refine ix (by kernel_rfl) ?_ _;generalize l.setCell _ _=cr at an⊢;clear af ap bb bE bs am a5 a4 F H h U;go_wp2_with fail;refine au (iY an (by rw[K];decide) (by omega)) fun cf a0=>?_;go_wp2_with fail;go_roundg (E.n-(d+1))
   case measure=>omega
   case rel=>exact⟨d+1,D++[(E.tk d).x],[],u,false,_,n+1,A,rfl,by rw[List.length_append,Z];rfl,by omega,by omega,.close K (by omega),a0.out,O.out.1,O.out.2⟩
  |@go _ _ ca _ p K b4 cm=>
   have O:Hid ((D++[(E.tk d).x])++ca=Y/\(u||a1)=r):=⟨by rw[List.append_assoc];exact Q,T⟩;have cz:=ab cm;clear Q T cm;have cB:n<=50000000:=by omega
   go_wp2_with fail;refine au (iY a3 (by rw[p];decide) (by omega)) fun b9 ar=>?_;go_wp2_with fail;refine au (iY ar (by rw[p];decide) (by omega)) fun w4 B=>?_;go_wp2_with fail;have U:=sB B (aE (Below.refl _ _));obtain⟨am,a5,a4⟩:=Fh U;refine wp_region_held_drew (S:=fun _=>True) (by kernel_rfl) trivial (fun hS=>?_);simp only[List.size_toArray,List.length_cons,List.length_nil,Nat.reduceAdd,Array.replicate_succ,Array.replicate_zero,List.push_toArray,List.nil_append,List.cons_append];refine aA 0 (.pointer (some ⟨c.heap.size,0,none⟩)) rfl rfl (by kernel_rfl) (fun _ _ _=>id) hS (fun w' z=>by go_simp) ?_;simp only[List.set];refine aA 1 (.pointer (some ⟨c.heap.size,0,none⟩)) rfl rfl (by kernel_rfl) (fun _ _ _=>id) hS (fun w' z=>by go_simp) ?_;simp only[List.set];refine aA 2 (.pointer (some ⟨c.heap.size,0,none⟩)) rfl rfl (by kernel_rfl) (fun _ _ _=>id) hS (fun w' z=>by go_simp) ?_;simp only[List.set];refine aA 3 (.pointer (some ⟨c.heap.size,6,none⟩)) rfl rfl (by kernel_rfl) (fun _ _ _=>id) hS (fun w' z=>by go_simp) ?_;simp only[List.set];refine aA 5 (.pointer (some ⟨E.pb,0,none⟩)) rfl rfl (by kernel_rfl) (fun _ _ _=>id) hS (fun w' z=>by go_simp) ?_;simp only[List.set];refine gg (S:=fun b0=>b0.cell? ⟨c.heap.size,6,none⟩=some (.slice m n o)) (C:=fun j=>!(j==9||j==10||j==11||j==12)) (i:=4) (v:= .slice m n o) rfl (Region.noSelect_spec (by kernel_rfl)) (fun _ _ _ W=>W) ?hC _ _ _ _ (Region.free_spec rfl (by kernel_rfl)) (List.contains_iff_mem.1 (by kernel_rfl)) (Or.inl ⟨by rfl,fun w' z=>by go_simp⟩) hS am ?_
   case hC=>
    intro j cq al g;simp only[Bool.not_eq_false',Bool.or_eq_true,beq_iff_eq]at g;rcases g with((rfl|rfl)|rfl)|rfl
    ·obtain rfl:=Option.some.inj al;exact⟨{on:=4,ground:=Ground.data},by simp,rfl,rfl⟩
    all_goals
     obtain rfl:=Option.some.inj al;exact⟨{on:=4,ground:=Ground.phase},by simp,rfl,rfl⟩
   simp only[Act.put,List.setIfInBounds_toArray,List.set_cons_zero,List.set_cons_succ];refine aR (i:=6) (by kernel_rfl) rfl (fun f a=>?_);go_simp;refine au (aU U p (by omega) (by decide)) fun G h=>?_;have af:=(Fh h).1;refine a.out _ _ trivial (fun _=>af) ?_;clear a f;try simp only[List.setIfInBounds_toArray,List.set_cons_zero,List.set_cons_succ]
   refine aR (i:=7) (by kernel_rfl) rfl (fun f a=>?_);simp only[bg];go_simp;refine a.out _ _ trivial (fun _=>af) ?_;clear a f;try simp only[List.setIfInBounds_toArray,List.set_cons_zero,List.set_cons_succ]
   refine aR (i:=8) (by kernel_rfl) rfl (fun f a=>?_);go_simp;have H:=sB h (ax G (.cells #[.string (E.tk d).x] 9));have ap:=(Fh H).1;have ak:=H.out.nm _ (List.mem_cons_self ..);rw[List.length_map,Z]at ak;refine a.out _ _ trivial (fun _=>ap) ?_;clear a f;try simp only[List.setIfInBounds_toArray,List.set_cons_zero,List.set_cons_succ]
   obtain⟨bt,a7,bo,bN,a8⟩:=info_parts oE;refine aR (i:=9) (by kernel_rfl) rfl (fun f a=>?_);refine step_append_lies _ (by rfl) _ _ 66 (by rfl) w.heap.size 9 bt _ 1 16 Tryz.underlying66 a7 bo bN a8 rfl (by decide) (.slice m n o) n _ (by rfl) ak ⟨G.heap.size,0,none⟩ 1 1 [.string (E.tk d).x] (by rfl) rfl (World.news_of_block (heap_alloc_new G _)) (by intro cF bn;rw[List.mem_singleton.1 bn];rfl) (by decide) (by unfold maxLen;omega) (by omega) (Nat.le_trans h.out.gr.size (ax G _).size) _ rfl ?_;intro I A l a2 ao bD bw;have F:Hid (Sw E w l (d+1) s0 [] .nil [] [(c.heap.size,153,lN (.slice m n o) u),tkB w.heap.size s] [(.slice (some ⟨I,0,none⟩) (n+1) A,D++[(E.tk d).x])]):=H.out.putN (by rw[List.length_map,List.length_append,Z,List.map_append];exact a2) ao;obtain⟨bb,bE,bs⟩:=Fh F;clear a2 ao bD bw ak;refine a.out _ _ trivial (fun g=>by cases g) ?_;clear a f;simp only[Act.put,List.setIfInBounds_toArray,List.set_cons_zero,List.set_cons_succ];refine aR (i:=10) (by kernel_rfl) rfl (fun f a=>?_);go_simp;refine a.out _ _ trivial (fun g=>by cases g) ?_;clear a f;try simp only[List.setIfInBounds_toArray,List.set_cons_zero,List.set_cons_succ]
   refine aR (i:=11) (by kernel_rfl) rfl (fun f a=>?_);go_simp;refine a.out _ _ trivial (fun g=>by cases g) ?_;clear a f;try simp only[List.setIfInBounds_toArray,List.set_cons_zero,List.set_cons_succ]
   refine aR (i:=12) (by kernel_rfl) rfl (fun f a=>?_);go_simp;have an:Hid (Sw E w (l.setCell ⟨c.heap.size,6,none⟩ (.slice (some ⟨I,0,none⟩) (n+1) A)) (d+1) s0 [] .nil [] [(c.heap.size,153,lN (.slice (some ⟨I,0,none⟩) (n+1) A) u),tkB w.heap.size s] [(.slice (some ⟨I,0,none⟩) (n+1) A,D++[(E.tk d).x])]):=F.out.setL (by intro bx X;obtain rfl:=List.mem_singleton.1 X;show 45≠153;decide);refine a.out _ _ trivial (fun g=>by cases g) ?_;clear a f;refine ix (by kernel_rfl) ?_ _;generalize l.setCell _ _=cr at an⊢;clear af ap bb bE bs am a5 a4 F H h U;go_wp2_with fail;refine au (iG an K (by omega)) fun cf a0=>?_;go_wp2_with fail;go_roundg (E.n-(d+2))
   case measure=>omega
   case rel=>exact⟨d+2,D++[(E.tk d).x],ca,u,a1,_,n+1,A,rfl,by rw[List.length_append,Z];rfl,by omega,by omega,cz.out,a0.out,O.out.1,O.out.2⟩
end
end Go.Proofs.YtcbmoiabehpliaaGreatDoor
namespace Go.Proofs.YtcbmoiabehpliaaGreatDoor
open Go.RowKit
abbrev Le(E:Pe)(i:Nat)(x:Fo)(j:Nat):Prop:=CN E 134 #[pV E] i x j
abbrev KL(E:Pe)(i:Nat)(x:Fo)(j:Nat):Prop:=CR E 165 #[pV E,.func (.func 134) #[pV E] #[]] i x j
def PI(E:Pe):kW->Nat->Fo->Nat->Prop
 | .unit,i,R,j=>CN E 190 #[pV E] i R j
 | .expr p,i,R,j=>IC E p i R j
 | .more p s x,i,R,j=>∃m,Ms E (IC E) p s m x i R j
 | .base,i,R,j=>CN E 135 #[pV E] i R j
 | .post s x,i,R,j=>∃m,Ps E (Le E) (KL E) s m x i R j
 | .exprs,i,R,j=>KL E i R j
 | .moreE,i,R,j=>∃m,Ls E (CN E 134 #[pV E]) m i R j
 | .moreB,i,R,j=>∃m,Ls E (CN E 135 #[pV E]) m i R j
 | .stat,i,R,j=>CN E 70 #[pV E] i R j
 | .stats,i,R,j=>∃m,Ss E (CN E 70 #[pV E]) m i R j
 | .block,i,R,j=>CN E 136 #[pV E] i R j
 | .body s,i,R,j=>CN E 167 #[pV E,.agg (bg s.k s)] i R j
 | .entry,i,R,j=>CN E 227 #[pV E] i R j
 | .entries,i,R,j=>∃m,Es E (CN E 227 #[pV E]) m i R j
 | .branch,i,R,j=>CN E 127 #[pV E] i R j
theorem Fi{k:Int}(h:dM k=true):k=25\/k=50\/k=62\/k=69:=by
 have:=of_decide_eq_true h;omega
theorem oV{E:Pe}{f:FuncId}{i k:Nat}{x:Fo}(d:∀(args:Array Value) (w:World),(callFunc f args).run Tryz.prog w= .ok (.enter f args) w)(e:CN E f #[pV E] i x k)(h:(E.tk k).k≠46)(c:k<E.n):CR E 165 #[pV E,.func (.func f) #[pV E] #[]] i x k:=by
 have a:=yA d e (Ls.stop h c);rw[Fo.app_nil]at a;exact a
theorem CQ{E:Pe}(K:∀q,(E.tk q).k<=78){t:kW}{i j:Nat}{R:Fo}(h:P E.tk E.n t i R j):PI E t i R j:=by
 induction h with
 |upre a c e d=>
  have:=e.pos;simp only[bC]at this;rcases Fi a with h|h|h|h
  ·rw[h];exact gq h c (by decide) (yB (by decide) h c d (by omega) (by omega))
  ·rw[h];exact gq h c (by decide) (yB (by decide) h c d (by omega) (by omega))
  ·rw[h];exact gq h c (by decide) (yB (by decide) h c d (by omega) (by omega))
  ·rw[h];exact gq h c (by decide) (yB (by decide) h c d (by omega) (by omega))
 |uint a c=>exact Kd c a
 |uflt a c=>exact gq a (by omega) (by decide) (CP c (by decide) (by decide) a)
 |ustr a c=>exact gq a (by omega) (by decide) (CP c (by decide) (by decide) a)
 |unil a c=>exact gq a (by omega) (by decide) (qK c (by decide) (by decide) a)
 |utru a c=>exact gq a (by omega) (by decide) (qK c (by decide) (by decide) a)
 |ufls a c=>exact gq a (by omega) (by decide) (qK c (by decide) (by decide) a)
 |urst a c=>exact gq a (by omega) (by decide) (qK c (by decide) (by decide) a)
 |@ufn i j R a c e d=>exact Kf a c (by have q:CN E 167 #[pV E,.agg (bg (E.tk i).k (E.tk i))] (i+1) R j:=d;rw[a]at q;exact q)
 |utab a c e f g d=>obtain⟨o,d⟩:=d;exact gq a c (by decide) (Kg a c d f g)
 |ubas a c e d=>
  rcases a with h|h
  ·exact gq h c (by decide) d
  ·exact gq h c (by decide) d
 |ex a c e f m p=>obtain⟨o,d⟩:=p;exact Ht a c K m d
 |mstop a c=>exact⟨0,.stop a c⟩
 |mgo a c e f g p C=>obtain⟨o,d⟩:=C;have:=f.pos;simp only[bC]at this;exact⟨o+1,.go a c e p (by omega) (by omega) d⟩
 |bname a c e d=>obtain⟨o,d⟩:=d;have:=e.pos;simp only[bC]at this;exact F3 a c (.inl ⟨rfl,CP (by omega) (by decide) (by decide) a⟩) d
 |bopen a c e f g l m u=>obtain⟨o,d⟩:=u;have:=e.pos;have:=l.pos;simp only[bC]at *;exact F3 a c (.inr ⟨rfl,Jn a c (fi m) f (by omega) (by omega)⟩) d
 |pstop a c=>exact⟨0,.stop a c⟩
 |pdot a c e f d=>obtain⟨o,d⟩:=d;have:=f.pos;exact⟨o+1,.dot a c (by omega) d⟩
 |psq a c e f g l m u=>obtain⟨o,d⟩:=u;have:=l.pos;exact⟨o+1,.sq a c (fi m) f (by omega) d⟩
 |pcall0 a c e f d=>obtain⟨o,d⟩:=d;have:=f.pos;exact⟨o+1,.call0 a c (by omega) d⟩
 |pcall a c e f g l s p z=>obtain⟨o,d⟩:=z;have:=s.pos;exact⟨o+1,.call a c e p g (by omega) d⟩
 |es a c G O=>obtain⟨o,d⟩:=O;exact yA J5 (fi G) d
 |estop a c=>exact⟨0,.stop a c⟩
 |ego a c e f m p=>obtain⟨o,d⟩:=p;exact⟨o+1,.go a c (fi m) d⟩
 |bstop a c=>exact⟨0,.stop a c⟩
 |bgo a c e f m p=>obtain⟨o,d⟩:=p;exact⟨o+1,.go a c m d⟩
 |body a c e f d=>have:=e.pos;have:=f.pos;simp only[bC]at *;exact Jp rfl a (by omega) e d (by omega) (by omega)
 |block a c e f g d=>obtain⟨o,d⟩:=d;exact Hr a c (CK (.inl f) d) f g
 |sstop a c=>exact⟨0,.stop c⟩
 |ssep a c e d=>obtain⟨o,d⟩:=d;exact⟨o+1,.sep a c d⟩
 |sgo a c e f g l C u=>obtain⟨o,d⟩:=u;exact⟨o+1,.go a c e f C d⟩
 |nstop a c=>exact⟨0,.stop a c⟩
 |ncom a c e f g l m u=>obtain⟨o,d⟩:=u;exact⟨o+1,.com a c m f g d⟩
 |nlast a c e f g l m u=>obtain⟨o,d⟩:=u;exact⟨o+1,.last a c m f g d⟩
 |item a c e f g d=>have:=g.pos;simp only[bC]at this;exact Jl a c e f (fi d) (by omega) (by omega)
 |pair a c e f g l s m z=>have:=e.pos;have:=s.pos;simp only[bC]at *;exact Jm a c (fi m) f g l (fi z) (by omega) (by omega)
 |named a c e f g d=>have:=g.pos;simp only[bC]at this;exact Hu a c e f (fi d) (by omega) (by omega)
 |belif a c e f g l s m p z=>have:=e.pos;have:=f.pos;have:=s.pos;simp only[bC]at *;exact Kb a rfl c (fi m) p l g z (by omega) (by omega)
 |belse a c e f g l s m p z=>have:=e.pos;have:=f.pos;have:=s.pos;simp only[bC]at *;exact Kc a rfl c (fi m) p l g z (by omega) (by omega)
 |bno a c e f g l s m p=>have:=e.pos;have:=f.pos;simp only[bC]at *;exact Ka a rfl c (fi m) p s g l (by omega)
 |tlet0 a c e f g=>have:=f.pos;exact dG a (by omega) (by decide) (Jd a (by omega) (jI e c f) (by omega) (by omega) g)
 |tlet a c e f g l d=>have:=f.pos;have:=l.pos;simp only[bC]at *;exact dG a (by omega) (by decide) (J6 a (by omega) (jI e c f) (by omega) (by omega) g d (by omega) (by omega))
 |tcon a c e f g d=>have:=g.pos;simp only[bC]at *;exact dG a (by omega) (by decide) (Hs a (by omega) (jI c (by omega) (.stop (by rw[e];decide) (by omega))) (by omega) (by omega) e (fi d) (by omega) (by omega))
 |@tfn i j H a c e f g d=>have:=g.pos;simp only[bC]at *;exact dG a (by omega) (by decide) (Ld a (by omega) (jI c (by omega) (.stop (by rw[e];decide) (by omega))) (by omega) (by omega) (kb:=40) (by decide) e (by have q:CN E 167 #[pV E,.agg (bg (E.tk (i+2)).k (E.tk (i+2)))] (i+2) H j:=d;rw[e]at q;exact q) (by omega) (by omega))
 |tif a c e d=>exact dG a c (by decide) d
 |twhile a c e f m p=>have:=e.pos;have:=f.pos;simp only[bC]at *;exact dG a c (by decide) (Hq a c (fi m) p (by omega) (by omega))
 |tfor a c e f g l s u z=>have:=f.pos;have:=l.pos;have:=s.pos;simp only[bC]at *;exact dG a (by omega) (by decide) (J9 a (by omega) (jI e c f) (by omega) (by omega) g u z (by omega) (by omega))
 |teach a c e f g l s B F u J=>have:=f.pos;have:=l.pos;have:=F.pos;simp only[bC]at *;exact dG a (by omega) (by decide) (Jh a (by omega) (jI e c f) (by omega) (by omega) g (oV J5 (fi u) (by rw[s];decide) B) J (by omega) (by omega))
 |tbreak a c=>exact dG a (by omega) (by decide) (qK c (by decide) (by decide) a)
 |tnext a c=>exact dG a (by omega) (by decide) (qK c (by decide) (by decide) a)
 |tret0 a c e=>exact dG a (by omega) (by decide) (Jg a c e)
 |tret a c e f d=>have:=f.pos;simp only[bC]at *;exact dG a (by omega) (by decide) (J7 a c (fun A=>by rw[A]at e;revert e;decide) (fun A=>by rw[A]at e;revert e;decide) (fun A=>by rw[A]at e;revert e;decide) d (by omega) (by omega))
 |ttry a c e f g l s B m I=>have:=e.pos;have:=s.pos;have:=B.pos;simp only[bC]at *;exact dG a c (by decide) (J8 a c m f g (jI l g s) I (by omega) (by omega))
 |tthrow a c e d=>have:=e.pos;simp only[bC]at *;exact dG a c (by decide) (FY J5 c (by decide) (by decide) a (fi d) (by omega) (by omega))
 |tdefer a c e d=>have:=e.pos;simp only[bC]at *;exact dG a c (by decide) (FY Jc c (by decide) (by decide) a d (by omega) (by omega))
 |tblock a c e d=>exact dG a c (by decide) d
 |tdo a c e f g l d=>
  have:=e.pos;simp only[bC]at *;rcases a with h|h
  ·exact dG h c (by decide) (KJ (.inl rfl) h c (oV Jc d f l) g l (by omega))
  ·exact dG h c (by decide) (KJ (.inr rfl) h c (oV Jc d f l) g l (by omega))
 |tset a c e f g l s m p z=>
  obtain⟨o,p⟩:=p;have:=e.pos;have:=f.pos;have:=s.pos;simp only[bC]at *;rcases a with h|h
  ·exact dG h c (by decide) (setP (.inl rfl) h c (yA Jc m p) g l z (by omega) (by omega))
  ·exact dG h c (by decide) (setP (.inr rfl) h c (yA Jc m p) g l z (by omega) (by omega))
theorem Ki(f d a c e g:Value)(w:World):(Instr.field 45 (.agg #[f,d,a,c,e,g]) 2).run Tryz.prog w= .ok a w:=by kernel_rfl
theorem Jq{E:Pe}{i j:Nat}{R:Fo}(hS:CR E 35 #[pV E] i R j)(l:j<E.n):CN E 17 #[pV E] i (one ⟨1,0,(E.tk j).t,1,0,0,z0,[],[]⟩ R) j:=by
 intro w a e;have g:=Sw.start a;have p:=Ki;simp only[ag]at e;clear a;go_in;go_wp2_with fail;refine(kN g hS (by omega)).mono ?_;rintro f A ⟨z,u,m,q,rfl,c,o⟩;go_wp2_with fail;refine(CD c.out.pp l).mono ?_;rintro f w4 ⟨⟨s,_,rfl⟩,h⟩;have d:=sB c h;go_wp2_with fail;go_ret;exact⟨_,rfl,fR d ⟨1,0,(E.tk j).t,1,0,0,z0,[],[]⟩ rfl rfl rfl rfl⟩
structure Fm (lo:Nat) (lb:Option Nat) (w w':World):Prop where
 bl:Below lo w w'
 at_:∀k cs t fr,w.heap[k]?=some (.cells cs t fr)->lb≠some k->w'.heap[k]?=some (.cells cs t fr)\/∃c u,t=iU c/\w'.heap[k]?=some (.cells (cs.setIfInBounds 4 (.int .i64 u)) t fr)
theorem Fm.refl(lo:Nat)(lb:Option Nat)(w:World):Fm lo lb w w:=⟨Below.refl _ _,fun k d e c a _=> .inl a⟩
theorem Kj(cs:Array Value)(u v:Value):(cs.setIfInBounds 4 u).setIfInBounds 4 v=cs.setIfInBounds 4 v:=by simp
theorem Fm.trans{lo:Nat}{lb d:Option Nat}{x y z:World}(h:Fm lo lb x y)(k:Fm lo d y z)(p:∀g,d=some g->lb=some g\/x.heap.size<=g):Fm lo lb x z:=by
 refine⟨h.bl.trans k.bl,fun a q s A o n=>?_⟩;have m:d≠some a:=fun e=>by
  rcases p a e with e|e
  ·exact n e
  ·have:=lt_of_block o;omega
 rcases h.at_ a q s A o n with g|⟨f,u,l,g⟩
 ·exact k.at_ a _ _ _ g m
 ·rcases k.at_ a _ _ _ g m with c|⟨C,t,B,c⟩
  ·exact .inr ⟨f,u,l,c⟩
  ·rw[Kj]at c;exact .inr ⟨f,t,l,c⟩
theorem Fm.of_below{lo:Nat}{w w':World}(b:Below w.heap.size w w')(c:lo<=w.heap.size)(lb:Option Nat):Fm lo lb w w':=⟨b.mono c,fun k e f d a _=> .inl ((b.block _ (lt_of_block a)).trans a)⟩
theorem bM{c:Nat}:iU c≠9/\iU c≠51/\iU c≠3/\iU c≠69:=by
 match c with
 |0=>decide
 |1=>decide
 |2=>decide
 |3=>decide
 |4=>decide
 |5=>decide
 |n+6=>exact⟨show 100≠9 by decide,show 100≠51 by decide,show 100≠3 by decide,show 100≠69 by decide⟩
section
variable {lo : Nat} {lb : Option Nat} {w w' : World}
theorem Fm.blk(h:Fm lo lb w w'){k:Nat}{cs:Array Value}{t:TypeId}{fr:Nat×Nat}(a:w.heap[k]?=some (.cells cs t fr))(g:lb≠some k)(e:∀c,t≠iU c):w'.heap[k]?=some (.cells cs t fr):=by
 rcases h.at_ k cs t fr a g with f|⟨c,l,d,_⟩
 ·exact f
 ·exact absurd d (e c)
theorem Fm.row(h:Fm lo lb w w'){f e size n:Nat}{v:Value}{d:List Value}(o:w.ownsRow f e size v n d)(q:∀g,v.ownBlock=some g->lb≠some g)(p:∀c,e≠iU c):w'.ownsRow f e size v n d:=by
 obtain⟨l,a⟩:=o;refine⟨l,?_⟩;rcases a with a|⟨g,z,t,rfl,s,m,u⟩
 ·exact .inl a
 ·exact .inr ⟨g,z,t,rfl,s,h.blk m (q g rfl) p,u⟩
theorem Fm.box(h:Fm lo lb w w'){b:Nat}{N:Nd}{vn vk:Value}{c:Int}(d:bK w b N vn c vk)(e:lb≠some b):∃f,bK w' b N vn f vk:=by
 unfold bK at d;rcases h.at_ b _ _ _ d e with a|⟨l,g,_,a⟩
 ·exact⟨c,a⟩
 ·exact⟨g,a⟩
theorem Fm.nodes(h:Fm lo lb w w')(n:∀g,lb=some g->∃cs t fr,w.heap[g]?=some (.cells cs t fr)/\t≠9/\t≠51/\∀c,t≠iU c):∀(R:Fo)(f:List Value)(m:List Nat){d:Nat}{a:Option Nat},gK w d a R f m->gK w' d a R f m
 | .nil,f,m,d,a,q=>q
 | .cons N k r,f,m,d,a,⟨b,X,vn,vk,kv,vs',bk,br,e,⟨O,H,p,I⟩,B,k1,F,G⟩=>by
  have u:∀{g:Nat}{cs:Array Value}{t:TypeId}{fr:Nat×Nat},w.heap[g]?=some (.cells cs t fr)->(t=9\/t=51\/∃c,t=iU c)->lb≠some g:=fun {g cs t fr} l ht e=>by
   obtain⟨W,V,af,q,U,S,J⟩:=n _ e;rw[l]at q;simp only[Option.some.injEq,Obj.cells.injEq]at q;obtain⟨_,rfl,_⟩:=q;rcases ht with ht|ht|⟨c,ht⟩
   ·exact U ht
   ·exact S ht
   ·exact J c ht
  have z:∀{t:TypeId}{v:Value}{s:List Value},Rv w d a t v s->(t=9\/t=51)->(∀c,t≠iU c)->Rv w' d a t v s:=fun o ht C=>⟨h.row o.1 (fun g l=>by
   rcases o.1.2 with⟨rfl,_⟩|⟨A,Z,Y,rfl,_,T,_⟩
   ·simp[Value.ownBlock]at l
   ·obtain rfl:A=g:=by simpa [Value.ownBlock] using l
    exact u T (by rcases ht with ht|ht;exact .inl ht;exact .inr (.inl ht))) C,o.2⟩
  obtain⟨Q,K⟩:=h.box p (u p (.inr (.inr ⟨_,rfl⟩)));exact⟨b,Q,vn,vk,kv,vs',bk,br,e,⟨O,H,K,I⟩,z B (.inl rfl) (fun c=>bM.1.symm),z k1 (.inr rfl) (fun c=>bM.2.1.symm),Fm.nodes h n k kv bk F,Fm.nodes h n r vs' br G⟩
theorem Fm.num{b:Nat}{N:Nd}{vn vk:Value}{d:Int}(c:bK w b N vn d vk)(h:lo<=b)(u:Int)(lb:Option Nat):Fm lo lb w (w.setCell ⟨b,4,none⟩ (.int .i64 u))/\bK (w.setCell ⟨b,4,none⟩ (.int .i64 u)) b N vn u vk:=by
 unfold bK at c⊢;have e:(w.setCell ⟨b,4,none⟩ (.int .i64 u)).heap[b]?=some (.cells (([.int .i64 N.k,.int .i64 N.f,.int .i64 N.t,.int .i64 N.l,.int .i64 d,vk]++yp N vn (aY N.k)).toArray.setIfInBounds 4 (.int .i64 u)) (iU (aY N.k)) (0,0)):=heap_setCell_same _ b 4 _ _ _ c;refine⟨⟨(Below.refl _ w).setCell h _,fun k n o m a _=>?_⟩,e⟩;by_cases g:k=b
 ·subst g;rw[c]at a;cases a;exact .inr ⟨_,u,rfl,e⟩
 ·exact .inl ((heap_setCell_other _ _ _ _ g).trans a)
end
end Go.Proofs.YtcbmoiabehpliaaGreatDoor
namespace Go.Proofs.YtcbmoiabehpliaaGreatDoor
open Go.RowKit Go.Maps Go.WideMaps
def LP(lo:Nat)(N:Nd)(ks:Fo)(w:World)(v:Value)(d:List Nat)(L:List Mb)(lv:Value)(e:Ending)(w':World):Prop:=∃c M,e= .returned c/\Lw w' lo c (L++M)/\M.map Mb.N=(one N ks).flat L.length/\(∀y,(M.flatMap fun x=>x.vn.ownBlock.toList).count y<=d.count y)/\((∀x∈M,Fr w.heap.size x.vk)/\(M.flatMap fun x=>x.vk.ownBlock.toList).Nodup)/\Fm lo lv.ownBlock w w'/\(∀a,c.ownBlock=some a->lv.ownBlock=some a\/w.heap.size<=a)/\∃b f,v= .iface f (.pointer (some ⟨b,0,none⟩))/\w'.cell? ⟨b,4,none⟩=some (.int .i64 ((L.length+ks.sz:Nat):Int))
def LC(lo:Nat)(N:Nd)(ks:Fo):Prop:=∀(w:World)(v:Value)(a:List Nat)(L:List Mb)(lv:Value),gK w lo none (one N ks) [v] a->Lw w lo lv L->lo<=w.heap.size->L.length+(one N ks).sz<=50000000->
 Calls Tryz.prog 16 #[v,lv] w (LP lo N ks w v a L lv)
def JK(lo:Nat):Fo->Prop
 | .nil=>True
 | .cons N k r=>LC lo N k/\JK lo r
def kB(M:List Mb):List Nat:=M.flatMap fun x=>x.vk.ownBlock.toList
def F4(M:List Mb):List Nat:=M.flatMap fun x=>x.vn.ownBlock.toList
structure Lj (lo:Nat) (w wr:World) (N:Nd) (b rb:Nat) (vn vk lv lv1:Value) (L M:List Mb) (ks D R':Fo) (kv us vs':List Value) (bk bd br:List Nat) (tp:List Int) (ac:Option Addr) (nc cc:Nat):Prop where
 e1:D.app R'=ks
 e2:us++vs'=kv
 ln:us.length=D.len
 lc:JK lo R'
 nr:gK wr lo none R' vs' br
 pb:(bd++br).Perm bk
 lw:Lw wr lo lv1 (L++M)
 mf:M.map Mb.N=D.flat L.length
 mp:∀y,(F4 M).count y<=bd.count y
 mr:∀x∈M,Fr w.heap.size x.vk
 fm:Fm lo lv.ownBlock w wr
 lb:∀g,lv1.ownBlock=some g->lv.ownBlock=some g\/w.heap.size<=g
 rb:w.heap.size<=rb/\lv1.ownBlock≠some rb/\wr.heap[rb]?=some (.cells (aW N (gY vn (aY N.k)) (.slice ac nc cc)) 69 (0,0))
 kr:wr.ownsRow w.heap.size 3 1 (.slice ac nc cc) nc (tp.map (Value.int .i64))
 kd:(kB M++(Value.slice ac nc cc).ownBlock.toList).Nodup
 bx:∃num,bK wr b N vn num vk
 vr:wr.ownsRow lo 51 1 vk kv.length kv
 lq:∀x∈L,∀g,x.vk.ownBlock=some g->g<w.heap.size
 nw:wr.ownsRow lo 9 1 vn (N.nm.map Value.string).length (N.nm.map Value.string)
section
variable {lo : Nat} {w wr w4 : World} {N N' : Nd} {b rb : Nat} {vn vk lv lv1 lv2 v : Value} {L M M2 : List Mb} {ks D k' r : Fo} {kv us vs' : List Value} {bk bd br : List Nat} {tp : List Int} {ac : Option Addr} {nc cc : Nat}
theorem Hv(M M2:List Mb):kB (M++M2)=kB M++kB M2:=List.flatMap_append
theorem Hw(M M2:List Mb):F4 (M++M2)=F4 M++F4 M2:=List.flatMap_append
theorem eM{w:World}{base e size n g:Nat}{v:Value}{d:List Value}(o:w.ownsRow base e size v n d)(a:v.ownBlock=some g):∃cs fr,w.heap[g]?=some (.cells cs e fr):=by
 rcases o.2 with⟨rfl,_⟩|⟨c,l,h,rfl,_,f,_⟩
 ·simp[Value.ownBlock]at a
 ·obtain rfl:c=g:=by simpa [Value.ownBlock] using a
  exact⟨_,_,f⟩
theorem Lj.kid(h:Lj lo w wr N b rb vn vk lv lv1 L M ks D (.cons N' k' r) kv us (v::vs') bk bd br tp ac nc cc)(o:Fm lo lv1.ownBlock wr w4)(V:Lw w4 lo lv2 ((L++M)++M2))(Q:M2.map Mb.N=(one N' k').flat (L++M).length){q:List Nat}(S:∃m,br=q++m/\gK wr lo none r vs' m)(K:∀y,(F4 M2).count y<=q.count y)(A:∀x∈M2,Fr wr.heap.size x.vk)(T:(kB M2).Nodup)(B:∀g,lv2.ownBlock=some g->lv1.ownBlock=some g\/wr.heap.size<=g):∃m,Lj lo w w4 N b rb vn vk lv lv2 L (M++M2) ks (D.app (one N' k')) r kv (us++[v]) vs' bk (bd++q) m tp ac nc cc:=by
 obtain⟨m,rfl,Y⟩:=S;have J:=h.fm.bl.size;have z:∀g,lv1.ownBlock=some g->∃f l,wr.heap[g]?=some (.cells f 69 l):=fun g a=>eM h.lw.row a;have u:∀{g:Nat}{f:Array Value}{C:TypeId}{l:Nat×Nat},wr.heap[g]?=some (.cells f C l)->C≠69->lv1.ownBlock≠some g:=fun a O e=>by
  obtain⟨al,an,c⟩:=z _ e;rw[a]at c;simp only[Option.some.injEq,Obj.cells.injEq]at c;exact O c.2.1
 have p:∀{H e size n:Nat}{I:Value}{t:List Value},wr.ownsRow H e size I n t->e≠69->(∀d,e≠iU d)->w4.ownsRow H e size I n t:=fun G W X=>o.row G (fun g a=>by obtain⟨f,l,c⟩:=eM G a;exact u c W) X;have U:(L++M).length=L.length+D.sz:=by
  have e:=congrArg List.length h.mf;rw[List.length_map,Fo.flat_len]at e;rw[List.length_append,e]
 obtain⟨am,F⟩:=h.bx;have af:=lt_of_block h.rb.2.2;refine⟨m,?_,?_,?_,h.lc.2,o.nodes (fun g a=>by obtain⟨f,l,c⟩:=z g a;exact⟨f,_,l,c,by decide,by decide,fun d=>bM.2.2.2.symm⟩) _ _ _ Y,?_,by rw[<-List.append_assoc];exact V,?_,?_,?_,h.fm.trans o h.lb,?_,⟨h.rb.1,?_,o.blk h.rb.2.2 h.rb.2.1 (fun d=>bM.2.2.2.symm)⟩,p h.kr (by decide) (fun d=>bM.2.2.1.symm),?_,o.box F (u F bM.2.2.2),p h.vr (by decide) (fun d=>bM.2.1.symm),h.lq,p h.nw (by decide) (fun d=>bM.1.symm)⟩
 ·rw[Fo.app_app];exact h.e1
 ·rw[List.append_assoc];exact h.e2
 ·rw[List.length_append,Fo.len_app,h.ln];rfl
 ·rw[List.append_assoc];exact h.pb
 ·rw[List.map_append,h.mf,Q,Fo.flat_app,U]
 ·intro y;have Z:=h.mp y;have ak:=K y;rw[Hw,List.count_append,List.count_append];omega
 ·intro x hx;rcases List.mem_append.1 hx with hx|hx
  ·exact h.mr x hx
  ·exact(A x hx).le J
 ·intro g a;rcases B g a with e|e
  ·exact h.lb g e
  ·exact .inr (by omega)
 ·intro e;rcases B rb e with e|e
  ·exact h.rb.2.1 e
  ·omega
 ·rw[Hv];refine I6 (n:=wr.heap.size) h.kd T (fun x hx=>?_) (fun x hx=>?_)
  ·rcases List.mem_append.1 hx with hx|hx
   ·obtain⟨y,s,hx⟩:=List.mem_flatMap.1 hx;exact((h.lw.each y (List.mem_append_right _ s)).2.lt x (by simpa using hx)).2
   ·exact(h.kr.lt x (by simpa using hx)).2
  ·obtain⟨y,s,hx⟩:=List.mem_flatMap.1 hx;exact A y s x (by simpa using hx)
theorem Lj.put{Z:Fo}{z:Int}{o:Obj}{g cap:Nat}{l:World}(h:Lj lo w wr N b rb vn vk lv lv1 L M ks D Z kv us vs' bk bd br tp ac nc cc)(X:l.ownsRow w.heap.size 3 1 (.slice (some ⟨g,0,none⟩) (nc+1) cap) (nc+1) ((tp++[z]).map (Value.int .i64)))(q:(wr.alloc o).grownBy l (Value.slice ac nc cc).ownBlock)(ao:(Value.slice ac nc cc).ownBlock=some g\/g=(wr.alloc o).heap.size)(I:lo<=w.heap.size):Lj lo w (l.setCell ⟨rb,8,none⟩ (.slice (some ⟨g,0,none⟩) (nc+1) cap)) N b rb vn vk lv lv1 L M ks D Z kv us vs' bk bd br (tp++[z]) (some ⟨g,0,none⟩) (nc+1) cap:=by
 have V:=h.fm.bl.size;have al:=(ax wr o).size;have U:∀k,(Value.slice ac nc cc).ownBlock=some k->w.heap.size<=k:=fun k a=>(h.kr.lt k a).1;have C:Fm lo (Value.slice ac nc cc).ownBlock wr l:=⟨((ax wr o).mono (Nat.le_trans I V)).trans ((Below.refl lo (wr.alloc o)).grown q (Nat.le_trans I (Nat.le_trans V al)) (fun k a=>Nat.le_trans I (U k a))),fun k m A p a S=> .inl ((q.block k (by have:=lt_of_block a;omega) (fun e=>S e.symm)).trans (((ax wr o).block k (lt_of_block a)).trans a))⟩;have G:∀{k:Nat}{m:Array Value}{A:TypeId}{p:Nat×Nat},wr.heap[k]?=some (.cells m A p)->A≠3->(Value.slice ac nc cc).ownBlock≠some k:=fun a O e=>bZ h.kr a O e;have Q:=C.blk h.rb.2.2 (G h.rb.2.2 (by decide)) (fun f=>bM.2.2.2.symm);have F:Fm lo (some rb) l (l.setCell ⟨rb,8,none⟩ (.slice (some ⟨g,0,none⟩) (nc+1) cap)):=⟨(Below.refl lo l).setCell (show lo<=(⟨rb,8,none⟩:Addr).block from Nat.le_trans I h.rb.1) _,fun k m A p a S=> .inl ((heap_setCell_other _ _ _ _ (fun e=>S (by rw[e]))).trans a)⟩;have W:∀{k:Nat}{m:Array Value}{A:TypeId}{p:Nat×Nat},l.heap[k]?=some (.cells m A p)->A≠69->some rb≠some k:=fun a O e=>by
  cases e;rw[Q]at a;simp only[Option.some.injEq,Obj.cells.injEq]at a;exact O a.2.1.symm
 have K:∀{t e size u:Nat}{n:Value}{s:List Value},wr.ownsRow t e size n u s->(∀g,n.ownBlock=some g->(Value.slice ac nc cc).ownBlock≠some g)->(∀g,n.ownBlock=some g->g≠rb)->(∀f,e≠iU f)->(l.setCell ⟨rb,8,none⟩ (.slice (some ⟨g,0,none⟩) (nc+1) cap)).ownsRow t e size n u s:=fun d B J H=>F.row (C.row d B H) (fun g q e=>J g q (by cases e;rfl)) H;have T:∀{t e size u:Nat}{n:Value}{s:List Value},wr.ownsRow t e size n u s->e≠3->e≠69->(∀f,e≠iU f)->(l.setCell ⟨rb,8,none⟩ (.slice (some ⟨g,0,none⟩) (nc+1) cap)).ownsRow t e size n u s:=fun d B J H=>K d (fun g q=>by obtain⟨m,p,c⟩:=eM d q;exact G c B) (fun g q e=>by obtain⟨m,p,c⟩:=eM d q;rw[e,h.rb.2.2]at c;simp only[Option.some.injEq,Obj.cells.injEq]at c;exact J c.2.1.symm) H;have ak:∀{t u:Nat}{n:Value}{s:List Value},wr.ownsRow t 3 1 n u s->(∀g,n.ownBlock=some g->(Value.slice ac nc cc).ownBlock≠some g)->(l.setCell ⟨rb,8,none⟩ (.slice (some ⟨g,0,none⟩) (nc+1) cap)).ownsRow t 3 1 n u s:=fun d B=>K d B (fun g q e=>by obtain⟨m,p,c⟩:=eM d q;rw[e,h.rb.2.2]at c;simp only[Option.some.injEq,Obj.cells.injEq]at c;exact absurd c.2.1 (by decide)) (fun f=>bM.2.2.1.symm);obtain⟨av,Y⟩:=h.bx;obtain⟨ar,af⟩:=C.box Y (G Y bM.2.2.1);refine⟨h.e1,h.e2,h.ln,h.lc,F.nodes (fun k a=>by cases a;exact⟨_,_,_,Q,by decide,by decide,fun f=>bM.2.2.2.symm⟩) _ _ _ (C.nodes (fun k a=>by obtain⟨m,p,c⟩:=eM h.kr a;exact⟨_,_,_,c,by decide,by decide,fun f=>bM.2.2.1.symm⟩) _ _ _ h.nr),h.pb,⟨K h.lw.row (fun k a=>by obtain⟨m,p,c⟩:=eM h.lw.row a;exact G c (by decide)) (fun k a e=>h.rb.2.1 (by rw[<-e];exact a)) (fun f=>bM.2.2.2.symm),fun x hx=>⟨T (h.lw.each x hx).1 (by decide) (by decide) (fun f=>bM.1.symm),ak (h.lw.each x hx).2 (fun k a e=>?_)⟩⟩,h.mf,h.mp,h.mr,(h.fm.trans C (fun k a=> .inr (U k a))).trans F (fun k a=> .inr (by cases a;exact h.rb.1)),h.lb,⟨h.rb.1,h.rb.2.1,heap_setCell_same _ rb 8 _ _ _ Q⟩,?_,?_,F.box af (W af bM.2.2.2),T h.vr (by decide) (by decide) (fun f=>bM.2.1.symm),h.lq,T h.nw (by decide) (by decide) (fun f=>bM.1.symm)⟩
 ·rcases List.mem_append.1 hx with hx|hx
  ·have:=h.lq x hx k a;have:=U k e;omega
  ·have d:=List.nodup_append.1 h.kd;exact d.2.2 k (List.mem_flatMap.2 ⟨x,hx,by simp[a]⟩) k (by simp[e]) rfl
 ·exact F.row X (fun k a=>by obtain⟨m,p,c⟩:=eM X a;exact W c (by decide)) (fun f=>bM.2.2.1.symm)
 ·rcases ao with e|e
  ·have d:=h.kd;rw[e]at d;exact d
  ·have d:=(List.nodup_append.1 h.kd).1;rw[List.nodup_append];refine⟨d,sa _,fun x hx y ap=>?_⟩;obtain⟨an,am,hx⟩:=List.mem_flatMap.1 hx;have B:=((h.lw.each an (List.mem_append_right _ am)).2.lt x (by simpa using hx)).2;have J:y=g:=by simpa [Value.ownBlock] using ap
   omega
theorem Kk:∀(c:Nat),dY N c=N->w.ownsRow lo 9 1 vn (N.nm.map Value.string).length (N.nm.map Value.string)->w.ownsRow lo 9 1 (gY vn c) N.nm.length (N.nm.map Value.string)/\∀y,(gY vn c).ownBlock.toList.count y<=vn.ownBlock.toList.count y
 |0,_,o=>⟨by rw[List.length_map]at o;exact o,fun y=>Nat.le_refl _⟩
 |5,_,o=>⟨by rw[List.length_map]at o;exact o,fun y=>Nat.le_refl _⟩
 |1,e,_|2,e,_|3,e,_|4,e,_|n+6,e,_=>by
  have h:[]=N.nm:=congrArg Nd.nm e;rw[<-h];exact⟨World.ownsRow_nil _ _ _ _,fun y=>by simp[gY,Value.ownBlock]⟩
theorem Lj.fin{u:Int}{o:Obj}{g cap:Nat}{d:World}(h:Lj lo w wr N b rb vn vk lv lv1 L M ks ks .nil kv us [] bk bd [] (ks.tops L.length) ac nc cc)(X:lo<=b)(an:dY N (aY N.k)=N)(Z:lo<=w.heap.size)(af:nc=ks.len)(ak:u=((L.length+ks.sz:Nat):Int))(av:d.ownsRow lo 69 9 (.slice (some ⟨g,0,none⟩) ((L++M).length+1) cap) ((L++M).length+1) (cQ ((L++M)++[⟨{N with ks:=ks.tops L.length},gY vn (aY N.k),.slice ac nc cc⟩])))(f:((wr.setCell ⟨b,4,none⟩ (.int .i64 u)).alloc o).grownBy d lv1.ownBlock)(J:lv1.ownBlock=some g\/g=((wr.setCell ⟨b,4,none⟩ (.int .i64 u)).alloc o).heap.size)(t:TypeId):
  ∃M',Lw d lo (.slice (some ⟨g,0,none⟩) ((L++M).length+1) cap) (L++M')/\M'.map Mb.N=(one N ks).flat L.length/\(∀y,(M'.flatMap fun x=>x.vn.ownBlock.toList).count y<=(vn.ownBlock.toList++(bk++[])).count y)/\((∀x∈M',Fr w.heap.size x.vk)/\(M'.flatMap fun x=>x.vk.ownBlock.toList).Nodup)/\Fm lo lv.ownBlock w d/\(∀k,(Value.slice (some ⟨g,0,none⟩) ((L++M).length+1) cap).ownBlock=some k->lv.ownBlock=some k\/w.heap.size<=k)/\∃F W,Value.iface t (.pointer (some ⟨b,0,none⟩))= .iface W (.pointer (some ⟨F,0,none⟩))/\d.cell? ⟨F,4,none⟩=some (.int .i64 ((L.length+ks.sz:Nat):Int)):=by
 have a0:=h.fm.bl.size;obtain⟨a3,Y⟩:=h.bx;obtain⟨n,m⟩:=Fm.num (lo:=lo) Y X u none;generalize a5:wr.setCell ⟨b,4,none⟩ (.int .i64 u)=e at n m f J;have a2:=(ax e o).size;have a6:=n.bl.size;have al:e.ownsRow lo 69 9 lv1 (L++M).length (cQ (L++M)):=n.row h.lw.row (fun _ _=>by simp) (fun l=>bM.2.2.2.symm);have C:∀{k:Nat}{z:Array Value}{t:TypeId}{A:Nat×Nat},e.heap[k]?=some (.cells z t A)->t≠69->lv1.ownBlock≠some k:=fun c S a=>bZ al c S a;have am:∀k,lv1.ownBlock=some k->lo<=k:=fun k c=>(h.lw.row.lt k c).1;have G:Fm lo lv1.ownBlock e d:=⟨((ax e o).mono (by omega)).trans ((Below.refl lo (e.alloc o)).grown f (by omega) am),fun k z t A c T=> .inl ((f.block k (by have:=lt_of_block c;omega) (fun a=>T a.symm)).trans (((ax e o).block k (lt_of_block c)).trans c))⟩;have p:∀{I a size K:Nat}{u:Value}{B:List Value},wr.ownsRow I a size u K B->a≠69->(∀l,a≠iU l)->d.ownsRow I a size u K B:=fun q ar O=>by
  have H:=n.row q (fun _ _=>by simp) O;exact G.row H (fun g f=>by obtain⟨z,A,Q⟩:=eM H f;exact C Q ar) O
 have U:d.heap[b]?=_:=(f.block b (by have:=lt_of_block m;omega) (fun a=>C m bM.2.2.2 a.symm)).trans (((ax e o).block b (lt_of_block m)).trans m);obtain⟨ao,ap⟩:=Kk (aY N.k) an (p h.nw (by decide) (fun l=>bM.1.symm));refine⟨M++[⟨{N with ks:=ks.tops L.length},gY vn (aY N.k),.slice ac nc cc⟩],⟨?_,fun x hx=>?_⟩,?_,fun y=>?_,⟨fun x hx=>?_,?_⟩,(h.fm.trans (n:Fm lo none wr e) (fun k c=>by cases c)).trans G h.lb,fun k c=>?_,b,t,rfl,?_⟩
 ·rw[<-List.append_assoc];have a:∀(s:List Mb)(x:Mb),(s++[x]).length=s.length+1:=fun s x=>by simp
  rw[a (L++M)];exact av
 ·rw[<-List.append_assoc]at hx;rcases List.mem_append.1 hx with hx|hx
  ·exact⟨p (h.lw.each x hx).1 (by decide) (fun l=>bM.1.symm),p (h.lw.each x hx).2 (by decide) (fun l=>bM.2.2.1.symm)⟩
  ·obtain rfl:=List.mem_singleton.1 hx;refine⟨ao,?_⟩;have q:=cU (p h.kr (by decide) (fun l=>bM.2.2.1.symm)) Z;show d.ownsRow lo 3 1 _ (ks.tops L.length).length _;rw[Fo.tops_len,<-af];exact q
 ·rw[List.map_append,h.mf,ua];rfl
 ·have a1:=h.mp y;have V:=h.pb.count_eq y;have a4:=ap y;have a:(List.flatMap (fun x=>x.vn.ownBlock.toList) (M++[(⟨{N with ks:=ks.tops L.length},gY vn (aY N.k),.slice ac nc cc⟩:Mb)]))=F4 M++((gY vn (aY N.k)).ownBlock.toList++[]):=List.flatMap_append;rw[a];simp only[List.append_nil,List.count_append]at V⊢;omega
 ·rcases List.mem_append.1 hx with hx|hx
  ·exact h.mr x hx
  ·obtain rfl:=List.mem_singleton.1 hx;exact fun g f=>(h.kr.lt g f).1
 ·have q:=h.kd;have a:(List.flatMap (fun x=>x.vk.ownBlock.toList) (M++[(⟨{N with ks:=ks.tops L.length},gY vn (aY N.k),.slice ac nc cc⟩:Mb)]))=kB M++((Value.slice ac nc cc).ownBlock.toList++[]):=List.flatMap_append;rw[a,List.append_nil];exact q
 ·obtain rfl:g=k:=by simpa [Value.ownBlock] using c
  rcases J with q|q
  ·exact h.lb g q
  ·exact .inr (by omega)
 ·rw[cell_of_row _ _ _ _ _ _ U,ak];rfl
end
theorem mw{lo:Nat}{N:Nd}{ks:Fo}(eq:JK lo ks):LC lo N ks:=by
 intro w v hB L lv ch Q ao cw;obtain⟨b,cP,vn,vk,kv,vs',bk,br,⟨e4,a9⟩,⟨c8,g0,cF,c6⟩,cI,k1,d6,fa⟩:=ch;obtain⟨rfl,rfl⟩:=fa;obtain rfl:=(List.cons.inj e4).1;obtain⟨bn,bh,rfl⟩:=aB cI.1;obtain⟨av,bw,rfl⟩:=aB Q.row;obtain⟨a6,bN,rfl⟩:=aB k1.1;have f7:kv.length=ks.len:=mo.len _ _ ⟨bk,d6⟩;have bt:=fun w=>qF (aY N.k) b w;have ff:=fun w=>bm b w;obtain⟨F,G,B,a3⟩:∃el f d5,gY (.slice bn (N.nm.map Value.string).length bh) (aY N.k)= .slice el f d5:=by unfold gY;split<;>exact⟨_,_,_,rfl⟩
 have J:=qG w b N _ _ cP ⟨_,_,_,rfl⟩ cF;rw[c6,a3]at J;unfold bu at J;unfold bi at J⊢;generalize gr:eK (aY N.k)=fz at J bt⊢;have A:=ab cF;obtain⟨f,H⟩:=ah kv.length;obtain⟨u,W⟩:=ah L.length;have ha:f<=50000000:=by have:=ks.len_le;rw[ag]at cw;omega
 rw[H]at A;rw[W];go_in;go_wp2_with (go_at_call 265;refine bc (ff _) ?_);refine J.mono ?_;rintro e h ⟨rfl,I⟩;have fF:∀o,(h.alloc o).cell? ⟨b,5,none⟩=some (.slice a6 f bN):=fun o=>by
  have a:=((ax h o).block _ (Nat.lt_of_lt_of_le (lt_of_block A.out) I.size)).trans ((I.block _ (lt_of_block A.out)).trans A.out);rw[cell_of_row _ _ _ _ _ _ a];rfl
 have ea:=ax h (.cells (aW N (.slice F G B) (.slice none 0 0)) 69);have q:Below w.heap.size w (h.alloc (.cells (aW N (.slice F G B) (.slice none 0 0)) 69)):=I.trans (ea.mono I.size);have d3:Hid (Lj lo w (h.alloc (.cells (aW N (.slice F G B) (.slice none 0 0)) 69)) N b h.heap.size (.slice bn (N.nm.map Value.string).length bh) (.slice a6 f bN) (.slice av u bw) (.slice av u bw) L [] ks .nil ks kv [] kv bk [] bk [] none 0 0):=by
  refine⟨rfl,rfl,rfl,eq,gK.mono (fun k en e0 fd=>⟨q.block k fd,en,e0⟩) _ _ _ d6,List.Perm.refl _,?_,rfl,fun y=>Nat.le_refl _,fun x O=>(by cases O),Fm.of_below q ao _,fun g b9=> .inl b9,⟨I.size,fun e=>?_,by rw[a3];exact heap_alloc_new h _⟩,World.ownsRow_nil _ _ _ _,by simp[kB,Value.ownBlock],⟨cP,(q.block _ (lt_of_block A.out)).trans A.out⟩,by have:=ai k1.1 q;rw[H]at this⊢;exact this,fun x O g b9=>((Q.each x O).2.lt g b9).2,ai cI.1 q⟩
  ·rw[List.append_nil];exact⟨by have:=ai Q.row q;rw[W]at this⊢;exact this,fun x O=>⟨ai (Q.each x O).1 q,ai (Q.each x O).2 q⟩⟩
  ·have:=(Q.row.lt _ (by rw[W];exact e)).2;have:=I.size;omega
 go_wp2_with fail;have hb:Hid ((vn:Value)->True):=fun _=>trivial;clear J q ea fF;go_loopw [1,18] (fun e5 bE wr=>∃(a:Nat) (D Y:Fo) (us vs':List Value) (bd br:List Nat) (M:List Mb) (cm:Option Addr) (t cg:Nat) (ac:Option Addr) (cc:Nat),e5= .slice cm t cg/\bE= .int .i64 a/\a<=f/\us.length=a/\Hid (Lj lo w wr N b h.heap.size (.slice bn (N.nm.map Value.string).length bh) (.slice a6 f bN) (.slice av u bw) (.slice cm t cg) L M ks D Y kv us vs' bk bd br (D.tops u) ac a cc)) (fun _ bE _=>f-(intOf bE).toNat)
 case atStart=>exact⟨0,.nil,ks,[],kv,[],bk,[],av,u,bw,none,0,rfl,rfl,Nat.zero_le _,rfl,d3⟩
 case round=>
  clear d3;obtain⟨a,D,Y,us,vs',bd,br,M,cm,t,cg,ac,cc,rfl,rfl,gv,ct,c⟩:=hrel;by_cases hi:a<f
  ·have ed:us.length+vs'.length=f:=by rw[<-H,<-c.out.e2,List.length_append]
   obtain⟨v,T,rfl⟩:∃v T,vs'=v::T:=by
    cases vs' with
    |nil=>simp at ed;omega
    |cons v T=>exact⟨v,T,rfl⟩
   cases Y with
   |nil=>have:=c.out.nr.1;cases this
   |cons N' k' r=>
    obtain⟨n,d9,af,c7,c9,fr,Z,df,⟨a7,d1⟩,dn,cB,cN,eb,dq⟩:=c.out.nr;obtain⟨rfl,rfl⟩:=List.cons.inj a7;obtain⟨g,rfl⟩:∃g,a6=some ⟨g,0,none⟩:=by
     have o:=c.out.vr;rw[H]at o;rcases ay o with⟨gz,_⟩|⟨g,g9,bD⟩
     ·omega
     ·exact⟨g,(Value.slice.inj bD).1⟩
    have d2:wr.cell? ⟨g,a,none⟩=some (bi N'.k n):=by
     have:=c.out.vr.cells (g:=g) rfl a (bi N'.k n) (by rw[<-c.out.e2,List.getElem?_append_right (by omega),ct,Nat.sub_self];rfl);have fv:(⟨g,0,none⟩:Addr).add a=⟨g,a,none⟩:=by unfold Addr.add;split<;>simp_all
     rw[fv]at this;exact this
    have e6:Hid (gK wr lo none (one N' k') [bi N'.k n] (af.ownBlock.toList++(Z++[]))):=⟨n,d9,af,c7,c9,[],Z,[],⟨rfl,rfl⟩,dn,cB,cN,eb,rfl,rfl⟩;have ec:Hid (∃a8,br=(af.ownBlock.toList++(Z++[]))++a8/\gK wr lo none r T a8):=⟨df,by rw[d1];simp,dq⟩;have ey:=fun w=>qF (aY N'.k) n w;have f3:=fun w=>bm n w;have a0:(L++M).length=L.length+D.sz:=by
     have e:=congrArg List.length c.out.mf;rw[List.length_map,Fo.flat_len]at e;rw[List.length_append,e]
    have hf:D.sz+(k'.sz+1+r.sz)=ks.sz:=by have e:=congrArg Fo.sz c.out.e1;rw[Fo.sz_app]at e;exact e
    have ev:=ab c.out.lc.1;have ei:lo<=wr.heap.size:=Nat.le_trans ao c.out.fm.bl.size;clear dn cB cN eb dq a7 d1;have bA:=e6;unfold bi at d2 bA;generalize hy:eK (aY N'.k)=e7 at d2 bA ey;have hs:(0:Int)<=(a:Int):=by omega
    have he:(a:Int)<(f:Int):=by omega
    go_wp2_with fail;refine(ev.out wr _ _ (L++M) _ bA.out c.out.lw ei (by rw[a0,ag];rw[ag]at cw;omega)).mono ?_;rintro e w4 ⟨lv2,M2,rfl,b0,eh,fA,⟨ds,f0⟩,em,dk,hl,g6,bD,eN⟩;obtain⟨fg,es,rfl⟩:=aB b0.row;cases bD;generalize fq:((L++M)++M2).length=eg at b0 dk⊢;clear fq;obtain⟨a8,c5⟩:=c.out.kid em b0 eh ec.out fA ds f0 dk;have K:=ab c5;clear c5;have V:w4.drew.cell? ⟨h.heap.size,8,none⟩=some (.slice ac a cc):=by have m:=K.out.rb.2.2;show w4.cell? _=_;rw[cell_of_row _ _ _ _ _ _ m];rfl
    have fb:w4.drew.cell? ⟨n,4,none⟩=some (.int .i64 (((L++M).length+k'.sz:Nat):Int)):=eN;generalize fn:((((L++M).length+k'.sz:Nat)):Int)=z at fb;go_wp2_with fail;refine wp_region_held_drew (S:=fun _=>True) (by kernel_rfl) trivial (fun hS=>?_);simp only[List.size_toArray,List.length_cons,List.length_nil,Nat.reduceAdd,Array.replicate_succ,Array.replicate_zero,List.push_toArray,List.nil_append,List.cons_append];refine aA 0 (.pointer (some ⟨h.heap.size,8,none⟩)) rfl rfl (by kernel_rfl) (fun _ _ _=>id) hS (fun w' cT=>by go_simp) ?_;simp only[List.set];refine aA 2 (.iface e7 (.pointer (some ⟨n,0,none⟩))) rfl rfl (by kernel_rfl) (fun _ _ _=>id) hS (fun w' cT=>by go_simp) ?_;simp only[List.set];refine gg (S:=fun gd=>gd.cell? ⟨h.heap.size,8,none⟩=some (.slice ac a cc)) (C:=fun j=>!(j==8||j==9||j==10)) (i:=1) (v:= .slice ac a cc) rfl (Region.noSelect_spec (by kernel_rfl)) (fun _ _ _ ch=>ch) ?hC _ _ _ _ (Region.free_spec rfl (by kernel_rfl)) (List.contains_iff_mem.1 (by kernel_rfl)) (Or.inl ⟨by rfl,fun w' cT=>by go_simp⟩) hS V ?_
    case hC=>
     intro j gs c0 s;simp only[Bool.not_eq_false',Bool.or_eq_true,beq_iff_eq]at s;rcases s with(rfl|rfl)|rfl
     ·obtain rfl:=Option.some.inj c0;exact⟨{on:=1,ground:=Ground.data},by simp,rfl,rfl⟩
     all_goals
      obtain rfl:=Option.some.inj c0;exact⟨{on:=1,ground:=Ground.phase},by simp,rfl,rfl⟩
    simp only[Act.put,List.setIfInBounds_toArray,List.set_cons_zero,List.set_cons_succ];refine aR (i:=3) (by kernel_rfl) rfl (fun l d=>?_);go_simp;refine bc (f3 _) ?_;refine d.out _ _ trivial (fun _=>V) ?_;clear d l;try simp only[List.setIfInBounds_toArray,List.set_cons_zero,List.set_cons_succ]
    refine aR (i:=4) (by kernel_rfl) rfl (fun l d=>?_);go_simp;refine d.out _ _ trivial (fun _=>V) ?_;clear d l;try simp only[List.setIfInBounds_toArray,List.set_cons_zero,List.set_cons_succ]
    refine aR (i:=5) (by kernel_rfl) rfl (fun l d=>?_);go_simp;refine d.out _ _ trivial (fun _=>V) ?_;clear d l;try simp only[List.setIfInBounds_toArray,List.set_cons_zero,List.set_cons_succ]
    refine aR (i:=6) (by kernel_rfl) rfl (fun l d=>?_);go_simp;refine d.out _ _ trivial (fun _=>V) ?_;clear d l;try simp only[List.setIfInBounds_toArray,List.set_cons_zero,List.set_cons_succ]
    refine aR (i:=7) (by kernel_rfl) rfl (fun l d=>?_);go_simp;have m:=K.out.rb.2.2;have e3:∀o,(w4.alloc o).cell? ⟨h.heap.size,8,none⟩=some (.slice ac a cc):=fun o=>by rw[cell_of_row _ _ _ _ _ _ (((ax w4 o).block _ (lt_of_block m)).trans m)];rfl
    refine d.out _ _ trivial (fun _=>e3 _) ?_;clear d l;try simp only[List.setIfInBounds_toArray,List.set_cons_zero,List.set_cons_succ]
    obtain⟨cs,b5,cb,cz,b7⟩:=info_parts uj;have ek:=K.out.fm.bl.size;refine aR (i:=8) (by kernel_rfl) rfl (fun l d=>?_);refine step_append_lies _ (by rfl) _ _ 67 (by rfl) w.heap.size 3 cs _ 1 8 Tryz.underlying67 b5 cb cz b7 rfl (by decide) (.slice ac a cc) a _ (by rfl) (ai K.out.kr (aE (ax w4 (.cells #[.int .i64 z] 3)))) ⟨w4.heap.size,0,none⟩ 1 1 [.int .i64 z] (by rfl) rfl (World.news_of_block (heap_alloc_new w4 _)) (by intro f9 a5;rw[List.mem_singleton.1 a5];rfl) (by decide) (by unfold maxLen;omega) (by omega) (Nat.le_trans ek (ax w4 (.cells #[.int .i64 z] 3)).size) _ rfl ?_;intro b6 b8 ap U p am e8;have cv:(w4.alloc (.cells #[.int .i64 z] 3)).grownBy ap (Value.slice ac a cc).ownBlock:=⟨p.os,p.tape,p.output,p.size,p.block⟩;have d8:=K.out.put (z:=z) (o:= .cells #[.int .i64 z] 3) (by rw[List.map_append];exact U) cv am ao;have c3:ap.heap[h.heap.size]?=_:=(cv.block _ (by have:=lt_of_block m;rw[World.size_alloc];omega) (fun e=>bZ K.out.kr m (by decide) e.symm)).trans (((ax w4 (.cells #[.int .i64 z] 3)).block _ (lt_of_block m)).trans m);have gf:ap.cell? ⟨h.heap.size,8,none⟩=some (.slice ac a cc):=by rw[cell_of_row _ _ _ _ _ _ c3];rfl
    have gu:∀j,ap.frozen? ⟨h.heap.size,j,none⟩=false:=fun j=>frozen_of_row _ _ _ _ _ c3;have fu:=ab d8;clear d8 U p cv am e8;refine d.out _ _ trivial (fun s=>by cases s) ?_;clear d l;simp only[Act.put,List.setIfInBounds_toArray,List.set_cons_zero,List.set_cons_succ];refine aR (i:=9) (by kernel_rfl) rfl (fun l d=>?_);go_simp;refine d.out _ _ trivial (fun s=>by cases s) ?_;clear d l;try simp only[List.setIfInBounds_toArray,List.set_cons_zero,List.set_cons_succ]
    refine aR (i:=10) (by kernel_rfl) rfl (fun l d=>?_);go_simp;refine d.out _ _ trivial (fun s=>by cases s) ?_;clear d l;refine ix (by kernel_rfl) ?_ _;go_wp2_with fail;refine⟨⟨a+1,D.app (one N' k'),r,us++[bi N'.k n],T,bd++(af.ownBlock.toList++(Z++[])),a8,M++M2,fg,eg,es,some ⟨b6,0,none⟩,b8,rfl,by go_num,by omega,by rw[List.length_append,ct];rfl,?_⟩,by simp[intOf];omega⟩;have e:(D.app (one N' k')).tops u=D.tops u++[z]:=by rw[Fo.tops_app,<-fn,a0,W];rfl
    rw[e];exact fu
  ·have gb:f=a:=by omega
   subst gb;have a0:(L++M).length=L.length+D.sz:=by
    have e:=congrArg List.length c.out.mf;rw[List.length_map,Fo.flat_len]at e;rw[List.length_append,e]
   have fo:vs'=[]:=by
    have e:=congrArg List.length c.out.e2;rw[List.length_append,ct,H]at e;exact List.eq_nil_of_length_eq_zero (by omega)
   subst fo;have e9:Y= .nil:=by
    cases Y with
    |nil=>rfl
    |cons N' k' r=>obtain⟨n,d9,af,c7,c9,fr,Z,df,⟨a7,_⟩,_⟩:=c.out.nr;cases a7
   subst e9;obtain⟨_,rfl⟩:=c.out.nr;have fB:D=ks:=by have e:=c.out.e1;rw[Fo.app_nil]at e;exact e
   subst fB;obtain⟨gm,hw,d7⟩:=aB c.out.lw.row;have cf:Hid (t=(L++M).length):=(Value.slice.inj d7).2.1;clear d7;have et:Hid (f=D.len):=by show f=_;rw[<-H];exact f7
   subst W;have f5:=ab a9;clear a9;have gt:t<=50000000:=by have:=cf.out;rw[ag]at cw;omega
   obtain⟨ef,bo⟩:=c.out.bx;have hH:=lt_of_block A.out;have m:=c.out.rb.2.2;have hh:=c.out.rb.1;rw[a3]at m;have hr:wr.cell? ⟨b,4,none⟩=some (.int .i64 ef):=by rw[cell_of_row _ _ _ _ _ _ bo];rfl
   have ds:wr.frozen? ⟨b,4,none⟩=false:=frozen_of_row _ _ _ _ _ bo;have d0:(wr.setCell ⟨b,4,none⟩ (.int .i64 (t:Int))).heap[h.heap.size]?=_:=(heap_setCell_other _ _ _ _ (by show h.heap.size≠b;omega)).trans m;obtain⟨X,cq⟩:=ah (wr.setCell ⟨b,4,none⟩ (.int .i64 (t:Int)));rw[cq]at d0;obtain⟨gn,hA,hz,hp,g8,ge,ho,hd,hE,ht⟩:=ad d0;have gp:¬(f:Int)<(f:Int):=by omega
   have a4:=(Fm.num (lo:=lo) bo c8 (t:Int) none).1;rw[cq]at a4;have ca:=a4.row c.out.lw.row (fun _ _=>by simp) (fun d5=>bM.2.2.2.symm);have f6:lo<=X.heap.size:=Nat.le_trans ao (Nat.le_trans c.out.fm.bl.size a4.bl.size);rw[<-cf.out]at ca;have ep:=ai ca (ax X (.cells (aW N (.slice F G B) (.slice ac f cc)) 69));have f8:=(ax X (.cells (aW N (.slice F G B) (.slice ac f cc)) 69)).size;obtain⟨cs,b5,cb,cz,b7⟩:=info_parts rK;clear bt bo m a4 ca;go_wp2_with (at_builtin;refine wpList_append_own_at _ rfl _ _ 22 rfl lo 69 cs _ 9 112 Tryz.underlying22 b5 cb cz b7 rfl (by decide) _ _ _ rfl ep ⟨X.heap.size,0,none⟩ 1 1 (aW N (.slice F G B) (.slice ac f cc)).toList rfl rfl (World.news_of_block (heap_alloc_new X _)) (by intro f9 a5;simp at a5;rcases a5 with rfl|rfl|rfl|rfl|rfl|rfl|rfl|rfl|rfl<;>rfl) (by unfold maxLen;omega) (by omega) (Nat.le_trans f6 f8) ?_;intro hG ap U p _ am;obtain⟨b6,b8,rfl⟩:=ownsRow_succ U);go_ret;have fc:cQ (L++M)++(aW N (.slice F G B) (.slice ac f cc)).toList=cQ ((L++M)++[⟨{N with ks:=D.tops L.length},gY (.slice bn (N.nm.map Value.string).length bh) (aY N.k),.slice ac f cc⟩]):=by rw[iv (L++M),a3];show _=cQ (L++M)++(zB _++[]);rw[List.append_nil];rfl
   rw[fc]at U;have bt:=cf.out;subst bt;rw[<-cq]at p am;obtain⟨fk,a⟩:=c.out.fin c8 c6 ao et.out (by rw[a0]) U p (by rcases am with e|e;exact .inl e.symm;exact .inr (by simpa [Value.ownBlock] using e)) fz;have a9:=f5.out;subst a9;exact(show LP _ _ _ _ _ _ _ _ _ _ from⟨.slice (some ⟨b6,0,none⟩) ((L++M).length+1) b8,fk,rfl,a⟩)
end Go.Proofs.YtcbmoiabehpliaaGreatDoor
