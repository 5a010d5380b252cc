import Derived.Test.YtkdijoogonigpaaGreatDoorHUk18
set_option linter.all false
set_option maxRecDepth 100000
set_option maxHeartbeats 6400000
open Go.IntKind renaming i64->O
open Go.Value renaming int->Q,slice->T,int->V,string->Z,string->B3,slice->Ck
open Go.Proofs.Tryz renaming prog->U
open Go.Ending renaming returned->X
open Option renaming none->Y,some->Ax
open Go.RowKit renaming Below->A0,intOf->B4
open Go renaming Calls->A2,World->Br,Value->B2,wpList_append_own_at->B6,maxLen->Ce
open Bool renaming false->B0
open Go.World renaming news_of_block->B1
open Go.Obj renaming cells->B5
namespace Go.Proofs.YtkdijoogonigpaaGreatDoor
open Go.RowKit Go.Maps Go.WideMaps
section
variable {E : Bs} {W : World} {L : List Mb} {l x : Int} {R : List Rwx}
theorem Bd.less(a:Bd E W L l x R)(d:Int):Bd E (W.setCell ⟨E.bb,2,Y⟩ (V O d)) L d x R/\A0 E.base W (W.setCell ⟨E.bb,2,Y⟩ (V O d)):=by
 have t:=a.lt;obtain⟨A,g,p⟩:=a.row;obtain⟨u,v,z,q,r⟩:=a.cur;have h:A0 E.base W (W.setCell ⟨E.bb,2,Y⟩ (V O d)):=(aq _ W).setCell a.lo.2 _;have e:∀{f k i:Nat}{n:B2}{o:List B2},W.ownsRow E.base f k n i o->f≠93->(W.setCell ⟨E.bb,2,Y⟩ (V O d)).ownsRow E.base f k n i o:=fun j s=>zE j (mq j g (de s)) 2 _;exact⟨⟨a.lo,a.hl,a.code.below h,⟨u,v,z,(bC _ _ _ _ t.2.2.2).trans q,r⟩,⟨A,bK _ E.bb 2 _ _ _ g,e p (by decide)⟩,fun c b=>⟨⟨e (a.each c b).1.1 (by decide),e (a.each c b).1.2 (by decide)⟩,(a.each c b).2⟩,fun c b=>⟨(a.rows c b).1,e (a.rows c b).2 (tNo (a.rows c b).1).2.1⟩,a.sep⟩,h⟩
theorem Bd.push{N:Nd}{vn vk:B2}(a:Bd E W L l x (⟨9,vn,N.nm.map Z⟩::⟨3,vk,N.ks.map (Q O)⟩::R)){v:B2}(H:W.heap[E.bb]?=Ax (B5 #[cV E,v,V O l] 93 (0,0))){b:Br}{e r d:Nat}(a6:L.length+1=r)(K:b.ownsRow E.base 96 9 (T (Ax ⟨e,0,Y⟩) r d) r (lz (L++[⟨N,vn,vk⟩])))(k:W.grownBy b v.ownBlock)(o:sj N)(a4:Bg E W L (bgN N)):
  Bd E (b.setCell ⟨E.bb,1,Y⟩ (T (Ax ⟨e,0,Y⟩) r d)) (L++[⟨N,vn,vk⟩]) l (x-400) R/\A0 E.base W (b.setCell ⟨E.bb,1,Y⟩ (T (Ax ⟨e,0,Y⟩) r d))/\b.heap[E.bb]?=Ax (B5 #[cV E,v,V O l] 93 (0,0)):=by
 subst a6;obtain⟨bj,n,B⟩:=a.row;obtain rfl:bj=v:=by rw[n]at H;cases H;rfl
 obtain⟨q,g,r,j,a2,bn,C⟩:=a.cur;have a3:=a4 q g r j;have G:=a.lt;have p:∀{c:Nat}{z:Array B2}{u:TypeId}{A:Nat×Nat},W.heap[c]?=Ax (B5 z u A)->u≠96->b.heap[c]?=Ax (B5 z u A):=fun f a7=>(k.block _ (au f) (fun h=>mq B f a7 h.symm)).trans f;have s:=p n (by decide);have bf:∀c,c≠E.bb->(b.setCell ⟨E.bb,1,Y⟩ (T (Ax ⟨e,0,Y⟩) (L.length+1) d)).heap[c]?=b.heap[c]?:=fun c f=>bC _ _ _ _ f;have i:∀{base h al J:Nat}{am:B2}{an:List B2},W.ownsRow base h al am J an->h≠96->h≠93->(b.setCell ⟨E.bb,1,Y⟩ (T (Ax ⟨e,0,Y⟩) (L.length+1) d)).ownsRow base h al am J an:=fun ak a1 j=>by
  refine zE ?_ ?_ 1 _
  ·obtain⟨a9,t⟩:=ak;refine⟨a9,?_⟩;rcases t with t|⟨e,d,ap,a8,k,a5,bd⟩
   ·exact .inl t
   ·exact .inr ⟨e,d,ap,a8,k,p a5 a1,bd⟩
  ·exact mq ak n (de j)
 have F:A0 E.base W (b.setCell ⟨E.bb,1,Y⟩ (T (Ax ⟨e,0,Y⟩) (L.length+1) d)):=((aq _ W).grown k G.2.2.1 (fun c f=>(B.lt c f).1)).setCell a.lo.2 _;have on:=(a.rows _ dt).2;have af:=(a.rows _ (dJ _ dt)).2;simp only[du]at on af;refine⟨⟨a.lo,a.hl,a.code.below F,⟨q,g,r,(bf _ G.2.2.2).trans (p j (by decide)),a2,?_,C.1,C.2.1,by rw[I8];exact a3.1⟩,⟨_,bK _ E.bb 1 _ _ _ s,?_⟩,fun y hy=>?_,fun bl o=>?_,?_⟩,F,s⟩
 ·rw[aH];show q<=E.P+400*((L.length+1:Nat):Int)+(x-400);omega
 ·rw[aH];exact zE K (mq K s (by decide)) 1 _
 ·rcases List.mem_append.1 hy with hy|hy
  ·exact⟨⟨i (a.each y hy).1.1 (by decide) (by decide),i (a.each y hy).1.2 (by decide) (by decide)⟩,(a.each y hy).2⟩
  ·obtain rfl:=List.mem_singleton.1 hy;exact⟨⟨i on (by decide) (by decide),i af (by decide) (by decide)⟩,o⟩
 ·have g:=a.rows bl (dJ _ (dJ _ o));exact⟨g.1,i g.2 (tNo g.1).1 (tNo g.1).2.1⟩
 ·have I:=a.sep;have av:bR (⟨9,vn,N.nm.map Z⟩::⟨3,vk,N.ks.map (Q O)⟩::R)++bL L=(vn.ownBlock.toList++vk.ownBlock.toList)++(bR R++bL L):=by unfold bR;simp[qC]
  have a0:bR R++bL (L++[⟨N,vn,vk⟩])=(bR R++bL L)++(vn.ownBlock.toList++vk.ownBlock.toList):=by unfold bL;simp[Ep]
  rw[av]at I;rw[a0];exact List.perm_append_comm.nodup_iff.1 I
theorem afx{N:Nd}{an a:Option Addr}{mn cn mk ck:Nat}(h:Bd E W L l x (⟨9,.slice an mn cn,N.nm.map Z⟩::⟨3,.slice a mk ck,N.ks.map (Q .i64)⟩::R))(c1: -100000<=l/\l<=100000)(ce:sj N)(cc:L.length<=25000)(bx:Bg E W L (bgN N)):
  A2 U 97 #[bV E,.agg (xi N (.slice an mn cn) (.slice a mk ck))] W fun e p=>e= .returned (.int .i64 (L.length:Nat))/\Bd E p (L++[⟨N,.slice an mn cn,.slice a mk ck⟩]) (l-1) (x-400) R/\A0 E.base W p:=by
 obtain⟨m,a7⟩:=aD L.length;rw[a7]at cc⊢;have b0:=h.lt;have c4:IntKind.i64.wrap (l-1)=l-1:=by rw[cB];omega
 have a5:=dF W (.cells (xi N (.slice an mn cn) (.slice a mk ck)) 96);have b7:=(h.below a5).c2;have b9:(W.alloc (.cells (xi N (.slice an mn cn) (.slice a mk ck)) 96)).frozen? ⟨E.bb,2,Y⟩=B0:=by
  obtain⟨v,s,af⟩:=(h.below a5).row;exact dp _ _ _ _ _ s
 clear a5;go_in;go_wp2_with fail;obtain⟨a1,a4⟩:=aD (W.setCell ⟨E.bb,2,Y⟩ (.int .i64 (l-1)));have al:=h.less (l-1);have a8:(W.setCell ⟨E.bb,2,Y⟩ (.int .i64 (l-1))).heap.size=W.heap.size:=by simp[World.setCell]
 obtain⟨bj,br,bs⟩:=h.row;have ap:(W.setCell ⟨E.bb,2,Y⟩ (.int .i64 (l-1))).heap[E.bb]?=Ax (.cells #[cV E,bj,.int .i64 (l-1)] 93 (0,0)):=bK W E.bb 2 _ _ _ br;have bf:=bC W ⟨E.bb,2,Y⟩ E.cb (.int .i64 (l-1)) b0.2.2.2;rw[a4]at al a8 ap bf;rw[a4];have A:=dF a1 (.cells (xi N (.slice an mn cn) (.slice a mk ck)) 96);have j:=ax a1 (.cells (xi N (.slice an mn cn) (.slice a mk ck)) 96);have bn:=ar (bx.of_heap ((A.block E.cb (by have:=b0.1;omega)).trans bf));clear bx;obtain⟨b,am⟩:=aD (a1.alloc (.cells (xi N (.slice an mn cn) (.slice a mk ck)) 96));have r:Hid (Bd E b L (l-1) x (⟨9,.slice an mn cn,N.nm.map Z⟩::⟨3,.slice a mk ck,N.ks.map (Q .i64)⟩::R)/\A0 E.base W b/\b.heap[W.heap.size]?=Ax (.cells (xi N (.slice an mn cn) (.slice a mk ck)) 96 (0,0))/\b.heap.size=W.heap.size+1):=by
  rw[am]at A j;rw[a8]at j;exact⟨al.1.below A,al.2.trans (A.mono (by omega)),j,by rw[<-am];simp[a8]⟩
 have J:=(A.block _ (au ap)).trans ap;rw[am]at J bn⊢;clear am a4 al A j ap b7 b9 bf;have b3:bj.ownBlock≠Ax W.heap.size:=fun e=>by have:=(bs.lt _ e).2;omega
 obtain⟨v,s,af⟩:=r.out.1.row;obtain rfl:bj=v:=by
  rw[s]at J;simp at J;exact J.symm
 obtain⟨F,G,rfl⟩:=ey af;have bp:b.cell? ⟨E.bb,1,Y⟩=Ax (.slice F L.length G):=by rw[ay _ _ _ _ _ _ s];rfl
 rw[a7]at bp s af b3;clear br bs J;have j:=r.out.2.2.1;refine wp_region_held_drew (S:=fun a0=>a0.heap[W.heap.size]?=Ax (.cells (xi N (.slice an mn cn) (.slice a mk ck)) 96 (0,0))) (by kernel_rfl) j (fun hS=>?_);simp only[oC,db,gH,Nat.reduceAdd,yC,yD,yE,jF,gn];refine Ff 0 (.pointer (Ax ⟨E.bb,0,Y⟩)) rfl rfl (by kernel_rfl) (fun _ _ _=>id) hS (fun p B=>by go_simp) ?_;simp only[List.set];refine Ff 1 (.pointer (Ax ⟨E.bb,0,Y⟩)) rfl rfl (by kernel_rfl) (fun _ _ _=>id) hS (fun p B=>by go_simp) ?_;simp only[List.set];refine Ff 2 (.pointer (Ax ⟨E.bb,0,Y⟩)) rfl rfl (by kernel_rfl) (fun _ _ _=>id) hS (fun p B=>by go_simp) ?_;simp only[List.set];refine Ff 3 (.pointer (Ax ⟨E.bb,1,Y⟩)) rfl rfl (by kernel_rfl) (fun _ _ _=>id) hS (fun p B=>by go_simp) ?_;simp only[List.set];refine I4 5 17 (.agg #[.int .i64 N.k,.int .i64 N.f,.int .i64 N.t,.int .i64 N.l,.int .i64 N.op,.int .i64 N.n,.string N.x,.slice an mn cn,.slice a mk ck]) rfl rfl (by kernel_rfl) (by kernel_rfl) (by kernel_rfl) (fun _ _ _ h=>h) (by rfl) hS (fun p B=>by obtain⟨z0,da,dc,dd,df,K,b5,dg,dk,dn⟩:=aj (N:=N) (vn:= .slice an mn cn) (vk:= .slice a mk ck) B;go_simp) ?_;simp only[Act.put,mK,mL,oB];have bw:=bp;refine GA (S:=fun a0=>a0.cell? ⟨E.bb,1,Y⟩=Ax (.slice F m G)) (C:=fun I=>!(I==7||I==8||I==9||I==10)) (i:=4) (v:= .slice F m G) rfl (Region.noSelect_spec (by kernel_rfl)) (fun _ _ _ h=>h) ?hC _ _ _ _ (Region.free_spec rfl (by kernel_rfl)) (List.contains_iff_mem.1 (by kernel_rfl)) (Or.inl ⟨by rfl,fun p B=>by go_simp⟩) hS bw ?_
 case hC=>
  intro I c8 bE d;simp only[Bool.not_eq_false',Bool.or_eq_true,jj]at d;rcases d with((rfl|rfl)|rfl)|rfl
  ·obtain rfl:=dr bE;exact⟨{on:=4,ground:=Ground.data},by simp,rfl,rfl⟩
  all_goals
   obtain rfl:=dr bE;exact⟨{on:=4,ground:=Ground.phase},by simp,rfl,rfl⟩
 simp only[Act.put,mK,mL,oB];refine rt (i:=6) (by kernel_rfl) rfl (fun g c=>?_);go_simp;have a3:A0 b.heap.size b (b.drew.alloc (.cells (xi N (.slice an mn cn) (.slice a mk ck)) 96)):=(bq (aq _ _)).alloc (by simp) _;refine c.out _ _ ((a3.block _ (au j)).trans j) (fun _=>bm a3 bw) ?_;clear c g;try simp only[mK,mL,oB]
 obtain⟨a2,H⟩:=aD ((b.alloc (.cells (xi N (.slice an mn cn) (.slice a mk ck)) 96)).drew);have o:A0 b.heap.size b a2:=by rw[<-H];exact bq (dF b _)
 have cm:a2.heap[b.heap.size]?=Ax (.cells (xi N (.slice an mn cn) (.slice a mk ck)) 96 (0,0)):=by rw[<-H];exact ax b _
 simp only[xi]at H;rw[H];clear H a3 hS;have cy:=r.out.1.below o;have cu:=(o.block _ (au s)).trans s;have ca:=ei af o;have b1:=r.out.1.lt;have cl:=r.out.2.2.2;obtain⟨cp,cq,cr,cs,ct⟩:=fd Fh;refine rt (i:=7) (by kernel_rfl) rfl (fun g c=>?_);refine step_append_lies _ (by rfl) _ _ 74 (by rfl) E.base 96 cp _ 9 112 Tryz.underlying74 cq cr cs ct rfl (by decide) (.slice F m G) m _ (by rfl) ca ⟨b.heap.size,0,Y⟩ 1 1 (xi N (.slice an mn cn) (.slice a mk ck)).toList (by rw[cl];rfl) rfl (B1 cm) (by intro c9 b2;simp at b2;rcases b2 with rfl|rfl|rfl|rfl|rfl|rfl|rfl|rfl|rfl<;>rfl) (by decide) (by unfold Ce;omega) (by omega) (bA b1.2.2.1 o.size) a2.heap.size rfl ?_;intro z u q a9 a6 cf c3;have bt:lz L++(xi N (.slice an mn cn) (.slice a mk ck)).toList=lz (L++[⟨N,.slice an mn cn,.slice a mk ck⟩]):=by rw[BC];show _=lz L++(cMb _++[]);rw[fL];rfl
 rw[bt]at a9;obtain⟨b4,bo,bd⟩:=cy.push cu (by rw[a7]) a9 a6 ce (bn.out.of_heap (o.block _ r.out.1.lt.1));have K:q.heap[W.heap.size]?=Ax (.cells (xi N (.slice an mn cn) (.slice a mk ck)) 96 (0,0)):=(a6.block _ (by have:=o.size;omega) (fun e=>b3 e.symm)).trans ((o.block _ (by omega)).trans j);have b5:(q.setCell ⟨E.bb,1,Y⟩ (.slice (Ax ⟨z,0,Y⟩) (m+1) u)).heap[W.heap.size]?=Ax (.cells (xi N (.slice an mn cn) (.slice a mk ck)) 96 (0,0)):=(bC _ _ _ _ (by show W.heap.size≠E.bb;omega)).trans K;have cF:q.cell? ⟨E.bb,1,Y⟩=Ax (.slice F m G):=by rw[ay _ _ _ _ _ _ bd];rfl
 have c0:q.frozen? ⟨E.bb,1,Y⟩=B0:=dp _ _ _ _ _ bd;have bl:Hid (Bd E (q.setCell ⟨E.bb,1,Y⟩ (.slice (Ax ⟨z,0,Y⟩) (m+1) u)) (L++[⟨N,.slice an mn cn,.slice a mk ck⟩]) (l-1) (x-400) R/\A0 E.base W (q.setCell ⟨E.bb,1,Y⟩ (.slice (Ax ⟨z,0,Y⟩) (m+1) u))):=
  ⟨b4,(r.out.2.1.trans (o.mono b1.2.2.1)).trans bo⟩
 clear b4 bo bt a9 a6 cf;refine c.out _ _ K (fun d=>by cases d) ?_;clear c g;simp only[Act.put,mK,mL,oB];refine rt (i:=8) (by kernel_rfl) rfl (fun g c=>?_);go_simp;refine c.out _ _ K (fun d=>by cases d) ?_;clear c g;try simp only[mK,mL,oB]
 refine rt (i:=9) (by kernel_rfl) rfl (fun g c=>?_);go_simp;refine c.out _ _ K (fun d=>by cases d) ?_;clear c g;try simp only[mK,mL,oB]
 refine rt (i:=10) (by kernel_rfl) rfl (fun g c=>?_);go_simp;refine c.out _ _ b5 (fun d=>by cases d) ?_;clear c g;refine I3 (by kernel_rfl) ?_ _;have b8:(q.setCell ⟨E.bb,1,Y⟩ (.slice (Ax ⟨z,0,Y⟩) (m+1) u)).cell? ⟨E.bb,1,Y⟩=Ax (.slice (Ax ⟨z,0,Y⟩) (m+1) u):=by rw[ay _ _ _ _ _ _ (bK _ E.bb 1 _ _ _ bd)];rfl
 generalize q.setCell ⟨E.bb,1,Y⟩ (.slice (Ax ⟨z,0,Y⟩) (m+1) u)=cz at bl b8⊢;have c7:IntKind.i64.wrap ((m:Int)+1-1)=(m:Int):=by rw[cB];omega
 go_wp2_with fail;go_ret;exact⟨by go_num,bl.out⟩
end
section
variable {E : Bs} {W : World} {L : List Mb} {l x : Int} {R : List Rwx}
theorem DB(b:Bd E W L l x R)(k:L.length<=25000)(t:x<=19000000):
  A2 U 126 #[bV E] W fun e i=>∃s:ByteArray,Shr s/\e= X (B3 s)/\Bd E i L l (x+1) R/\A0 E.base W i:=by
 have n:=b.lt;have c:=ar fun (p:Obj)=>lL (b.below (dF W p)) 8 (by decide) (by decide) k (by omega);have q:=b.c0;go_in;go_wp2_with fail;refine(c.out _).mono ?_;rintro e w1 ⟨a,z0,u,rfl,d,f,g⟩;have h:=f.blk (ax W _) (by decide);have r:=fun o=>ay w1 W.heap.size o _ _ _ h;have j:=cH d (((dF W _).mono n.2.2.1).trans g);clear d f g h c;rcases(show a=0\/a=1\/a=2\/a=3\/a=4\/a=5\/a=6\/a=7 by omega) with rfl|rfl|rfl|rfl|rfl|rfl|rfl|rfl;all_goals
  go_wp2_with fail;go_ret;exact⟨_,⟨by decide,lu (by decide)⟩,rfl,j.out⟩
theorem Cc{o:Array Oper}{p:List Oper}{f:Oper}{a:Act}{i:Exit->Act->Br->Prop}{v:B2}{m:Nat}{d:List ByteArray}(z:f.guard=Y)(s y:Operand)
  (F:f.op= .call {callee:= .builtin .append,args:=#[s,y],argTypes:=#[53,53]}) (g:Bd E W L l x (⟨9,v,d.map Z⟩::R)) (G:a.eval s=v) (t:ByteArray) {w0:Br}(H:W=w0.alloc (.cells #[.string t] 9)) (I:a.eval y= .slice (Ax ⟨w0.heap.size,0,Y⟩) 1 1) (C:d.length=m) (an:m<=1000)
  (k:∀b c w1,Bd E w1 L l x (⟨9,.slice b (m+1) c,(d++[t]).map Z⟩::R)->A0 E.base W w1->wpList U o i p (a.put f.dst (.slice b (m+1) c)) w1):
  wpList U o i (f::p) a W:=by
 subst C;obtain⟨ak,B,J,K,af⟩:=fd IL;have n:=(g.rows _ dt).2;simp only[du]at n;refine B6 _ z s y 53 F E.base 9 ak _ 1 16 Tryz.underlying53 B J K af rfl (by decide) v _ _ G n ⟨w0.heap.size,0,Y⟩ 1 1 [.string t] I (by simp) (B1 (cs:=#[.string t]) (by rw[H];exact ax w0 _)) (by simp[Value.oneCell']) (by unfold Ce;omega) (by omega) g.lt.2.2.1 ?_;intro ap w1 j u _ r;obtain⟨b,c,rfl⟩:=ey j;have A:∀e,(Ck b (d.length+1) c).ownBlock=Ax e->v.ownBlock=Ax e\/W.heap.size<=e:=fun e h=>by
  rcases r with q|q
  ·exact .inl (q ▸ h)
  ·rw[q]at h;cases h;exact .inr (ag _)
 obtain⟨al,am⟩:=g.hot (r':=⟨9,.slice b (d.length+1) c,(d++[t]).map Z⟩) u BD (by simpa using j) A;exact k b c w1 al am
end
section
variable {E : Bs} {W : World} {L : List Mb} {l x : Int} {R : List Rwx}
theorem Bd.formS{v:B2}{d:List ByteArray}(e:Bd E W L l x (⟨9,v,d.map Z⟩::R)):∃a c,v= T a d.length c:=by
 have b:=(e.rows _ dt).2;simp only[du]at b;exact ey b
theorem adD(p:Bd E W L l x R)(n:Nat)(al:n<=8)(B:L.length<=25000)(am:x<=18000000):
  A2 U 95 #[bV E,V O n] W fun e z=>∃a c,∃nm:List ByteArray,e= X (T a nm.length c)/\nm.length=n/\(∀s∈nm,Shr s)/\Bd E z L l (x+n) (⟨9,T a nm.length c,nm.map Z⟩::R)/\A0 E.base W z:=by
 go_in;go_wp2_with fail;go_loopw [1,5] (fun o I wr=>∃(m b:Nat) (d:List ByteArray),o= V O m/\m+b=n/\d.length=b/\(∀s∈d,Shr s)/\Bd E wr L l (x+b) (⟨9,I,d.map Z⟩::R)/\A0 E.base W wr) (fun o _ _=>(B4 o).toNat)
 case atStart=>exact⟨n,0,[],rfl,rfl,rfl,fun s hs=>(by cases hs),(p.nil (by decide)).wide (by omega),aq _ _⟩
 case round=>
  obtain⟨m,b,d,rfl,t,H,k,f,j⟩:=hrel;have ak:m<=n:=by omega
  by_cases af:0<m
  ·have u:=DB f B (by omega);have h:=wI t k j H;clear t k j p;go_wp2_with fail;refine u.mono ?_;rintro e w1 ⟨v,G,rfl,q,r⟩;have g:=cH q r;clear f q r u;go_wp2_with (at_builtin;refine Cc rfl _ _ rfl (g.out.1.below (dF w1 _)) rfl v rfl rfl h.out.2.2.2 (by have:=h.out.1;omega) ?_;intro J K an A C);go_roundw
   case rel=>
    have i:=h.out;have F:=g.out.1.lt;exact⟨m-1,b+1,d++[v],by go_num,by omega,by rw[aH,i.2.2.2];rfl,fun s hs=>by
     rcases List.mem_append.1 hs with hs|hs
     ·exact i.2.1 s hs
     ·rw[List.mem_singleton.1 hs];exact G,A.wide (by omega),((i.2.2.1.trans g.out.2).trans ((dF w1 _).mono F.2.2.1)).trans C⟩
   case measure=>simp[B4];omega
  ·obtain rfl:m=0:=by omega
   obtain⟨a,c,rfl⟩:=f.formS;go_wp2_with fail;go_ret;exact⟨a,c,d,rfl,by omega,k,by rw[show n=b by omega];exact f,j⟩
end
def dN(k op n:Int)(t:ByteArray)(nm:List ByteArray)(ks:List Int):Nd:=⟨k,0,0,0,op,n,t,nm,ks⟩
theorem kv{k op n:Int}{t:ByteArray}{nm:List ByteArray}{ks:List Int}(h:0<=k/\k<=1000)(i:0<=op/\op<=1000)(e: -9223372036854775808<=n/\n<=9223372036854775807)(f:Txt k t)(a:nm.length<=3)(b:∀s∈nm,Shr s)(c:ks.length<=64)(d:∀z∈ks,0<=z/\z<=100000):sj (dN k op n t nm ks):=by
 have z: -9223372036854775808<=(0:Int)/\(0:Int)<=9223372036854775807:=by decide
 exact⟨a,c,f,b,⟨⟨by show _<=k;omega,by show k<=_;omega⟩,z,z,z,⟨by show _<=op;omega,by show op<=_;omega⟩,e,fun z g=>by have:=d z g;omega⟩⟩
section
variable {E : Bs} {W : World} {L : List Mb} {l x : Int} {R : List Rwx}
theorem xm{k op n:Int}{t:ByteArray}{nm:List ByteArray}{ks:List Int}{an a:Option Addr}{mn cn mk ck:Nat}(b:Bd E W L l x (⟨9,T an mn cn,nm.map Z⟩::⟨3,T a mk ck,ks.map (Q O)⟩::R))(i: -100000<=l/\l<=100000)(f:sj (dN k op n t nm ks))(d:L.length<=25000)(h:t.size<=19\/Bg E W L 1:=by exact .inl (by first|decide|omega)):
  A2 U 97 #[bV E,.agg #[V O k,V O 0,V O 0,V O 0,V O op,V O n,B3 t,T an mn cn,T a mk ck]] W fun e c=>e= X (V O (L.length:Nat))/\Bd E c (L++[⟨dN k op n t nm ks,T an mn cn,T a mk ck⟩]) (l-1) (x-400) R/\A0 E.base W c:=afx (N:=dN k op n t nm ks) b i f d (by
   rcases h with g|g
   ·rw[I9 (show(dN k op n t nm ks).x.size<=19 from g)];exact b.bg0
   ·by_cases j:19<t.size
    ·have e:bgN (dN k op n t nm ks)=1:=by unfold bgN;rw[ab (show 19<(dN k op n t nm ks).x.size from j)]
     rw[e];exact g
    ·rw[I9 (show(dN k op n t nm ks).x.size<=19 by show t.size<=19;omega)];exact b.bg0)
theorem J6{k:Int}{ks:List Int}{a:Option Addr}{mk ck:Nat}(d:Bd E W L l x (⟨3,T a mk ck,ks.map (Q O)⟩::R))(j: -100000<=l/\l<=100000)(b:0<=k/\k<=1000/\k≠25)(g:ks.length<=64)(h:∀z∈ks,0<=z/\z<=100000)(i:L.length<=25000):
  A2 U 94 #[bV E,V O k,T a mk ck] W fun e c=>e= X (V O (L.length:Nat))/\Bd E c (L++[⟨dN k 0 0 ⟨#[]⟩ [] ks,T Y 0 0,T a mk ck⟩]) (l-1) (x-400) R/\A0 E.base W c:=by
 have p:=xm (k:=k) (op:=0) (n:=0) (t:=⟨#[]⟩) (nm:=[]) (an:=Y) (mn:=0) (cn:=0) (d.nil (by decide)) j (kv ⟨b.1,b.2.1⟩ (by decide) (by decide) (lA b.2.2) (by decide) (fun q o=>by cases o) g h) i;go_in;go_wp2_with fail;refine lc p fun w1 f=>?_;go_wp2_with fail;go_ret;exact⟨rfl,f⟩
theorem tE(k:Int)(I:200<k)(J:k<=100000)(b base:Nat)(w:Br)(c:Option Addr)(a d:Nat)(p q r:Int)(s:base<=b)(o:base<=w.heap.size)(t:dv b w c a d p q r)(g:Code base w c a)(B:0<=p)(K:p<=900000000)(h:a<=1048576):
  A2 U 9 #[.pointer (Ax ⟨b,0,Y⟩),V O k] w fun e j=>∃z:Int,0<=z/\z<k/\e= X (V O z)/\∃F,dv b j c a d (p+2) F r/\w.grownBy j (Ax b):=by
 have i:=qH b base w c a d p q r t g B (by omega) h;go_in;go_wp2_with fail;refine i.mono ?_;rintro e w1 ⟨z,z0,ap,rfl,G,u,f⟩;have C:=qH b base w1 c a d (p+1) G r u (g.below (jr f s o)) (by omega) (by omega) h;have n:=ar f;clear f i;have af:IntKind.i64.wrap (z*256)=z*256:=by rw[cB];omega
 go_wp2_with fail;refine C.mono ?_;rintro e al ⟨y,am,an,rfl,H,v,A⟩;have ak:IntKind.i64.wrap (z*256+y)=z*256+y:=by rw[cB];omega
 go_wp2_with fail;go_ret;exact⟨(z*256+y)%k,Int.emod_nonneg _ (by omega),Int.emod_lt_of_pos _ (by omega),rfl,H,by rw[show p+2=p+1+1 by omega];exact v,AG n.out A⟩
theorem abn(a:Bd E W L l x R)(k:Int)(j:200<k)(n:k<=100000)(u:L.length<=25000)(v:x<=20000000):
  A2 U 9 #[cV E,V O k] W fun e b=>∃z:Int,0<=z/\z<k/\e= X (V O z)/\Bd E b L l (x+2) R/\A0 E.base W b:=by
 obtain⟨p,r,s,f,q,A,o⟩:=a.cur;have:=a.hl;refine(tE k j n E.cb E.base W E.a0 E.len E.cap p r s a.lo.1 a.lt.2.2.1 f a.code q (by omega) this.1).mono ?_;rintro e b ⟨z,z0,t,h,B,g,i⟩;obtain⟨c,_,d⟩:=a.went (y:=x+2) i g (by omega) o;exact⟨z,z0,t,h,c,d⟩
theorem adE(r:Bd E W L l x R)(f:L.length<=25000)(G:x<=19000000):
  A2 U 32 #[cV E] W fun e u=>∃n:Int,(-9223372036854775808<=n/\n<=9223372036854775807)/\e= X (V O n)/\Bd E u L l (x+3) R/\A0 E.base W u:=by
 have t:=lL r 6 (by decide) (by decide) f (by omega);go_in;go_wp2_with fail;refine t.mono ?_;rintro e w1 ⟨a,z0,H,rfl,j,_,s⟩;have d:=ar s;clear s t r;have h:=lL j 3 (by decide) (by decide) f (by omega);have g:=lL j 12 (by decide) (by decide) f (by omega);have i:=abn j 70000 (by decide) (by decide) f (by omega);rcases(show a=0\/a=1\/a=2\/(a≠0/\a≠1/\a≠2) by omega) with rfl|rfl|rfl|⟨v,z,A⟩
 ·clear g i;go_wp2_with fail;refine h.mono ?_;rintro e o ⟨y,p,q,rfl,b,_,c⟩;have k:IntKind.i64.wrap (9223372036854775807-y)=9223372036854775807-y:=by rw[cB];omega
  go_wp2_with fail;go_ret;exact⟨_,by omega,rfl,b.wide (by omega),d.out.trans c⟩
 ·clear g i;go_wp2_with fail;refine h.mono ?_;rintro e o ⟨y,p,q,rfl,b,_,c⟩;have k:IntKind.i64.wrap (-9223372036854775808+y)= -9223372036854775808+y:=by rw[cB];omega
  go_wp2_with fail;go_ret;exact⟨_,by omega,rfl,b.wide (by omega),d.out.trans c⟩
 ·clear g h;go_wp2_with fail;refine i.mono ?_;rintro e o ⟨y,p,q,rfl,b,c⟩;have k:IntKind.i64.wrap (y-35000)=y-35000:=by rw[cB];omega
  go_wp2_with fail;go_ret;exact⟨_,by omega,rfl,b.wide (by omega),d.out.trans c⟩
 ·clear i h;have B:(a==0)=B0:=by simpa using v
  have C:(a==1)=B0:=by simpa using z
  have F:(a==2)=B0:=by simpa using A
  go_wp2_with fail;refine g.mono ?_;rintro e o ⟨y,p,q,rfl,b,_,c⟩;have k:IntKind.i64.wrap (y-3)=y-3:=by rw[cB];omega
  go_wp2_with fail;go_ret;exact⟨_,by omega,rfl,b.wide (by omega),d.out.trans c⟩
end
section
variable {E : Bs} {W : World} {L : List Mb} {l x : Int} {R : List Rwx}
theorem adF(a:Bd E W L l x R)(n:Int)(j:0<=n)(u:n<=100)(t:L.length<=25000)(z:x<=18000000):
  A2 U 30 #[cV E,V O n] W fun e b=>∃s:ByteArray,(s.size:Int)<=n/\e= X (B3 s)/\Bd E b L l (x+100) R/\A0 E.base W b:=by
 obtain⟨m,rfl⟩:=fe j;obtain⟨o,q,r,f,p,C,k⟩:=a.cur;have:=a.hl;refine(xw m (by omega) E.cb E.base W E.a0 E.len E.cap o q r a.lo.1 a.lt.2.2.1 f a.code p (by omega) this.1).mono ?_;rintro e b ⟨s,v,h,A,G,B,F,g,i⟩;obtain⟨c,_,d⟩:=a.went (y:=x+100) i g (by omega) k;exact⟨s,by omega,h,c,d⟩
end
structure DgT (t:ByteArray):Prop where
 dg:∀i,i<t.size->aL (ao t i)=true
 b0:ao t 0=48
 b1:ao t 1=49
theorem afy:DgT ⟨#[48,49,50,51,52,53,54,55,56,57]⟩:=⟨fun a b=>by
 have:a<10:=b;rcases(show a=0\/a=1\/a=2\/a=3\/a=4\/a=5\/a=6\/a=7\/a=8\/a=9 by omega) with rfl|rfl|rfl|rfl|rfl|rfl|rfl|rfl|rfl|rfl<;>decide,by decide,by decide⟩
theorem DgT.twice{t:ByteArray}(a:DgT t):DgT (t++t):=by
 have b:=ba a.b0 (by omega);have c:=ba a.b1 (by omega);refine⟨fun e d=>?_,by rw[gw,ab b];exact a.b0,by rw[gw,ab c];exact a.b1⟩;rw[ae]at d;rw[gw];split
 ·exact a.dg e (by omega)
 ·exact a.dg _ (by omega)
theorem DgT.lng{t:ByteArray}(a:DgT t){n:Nat}(d:20<=n)(e:n<=4001)(b:n<=t.size):Lng (t.extract 0 n):=by
 have g:(t.extract 0 n).size=n:=by rw[je];omega
 refine⟨by omega,by omega,fun c f=>?_,by rw[vB t n 0 b (by omega)];exact a.b0,by rw[vB t n 1 b (by omega)];exact a.b1⟩;rw[vB t n c b (by omega)];exact a.dg c (by omega)
section
variable {E : Bs} {W : World} {L : List Mb} {l x : Int} {R : List Rwx}
theorem agv(C:Bd E W L l x R)(h:L.length<=25000)(bs:x<=17000000):
  A2 U 35 #[cV E] W fun e z=>∃s:ByteArray,(Sml s\/(Lng s/\Bg E z L 1))/\e= X (B3 s)/\Bd E z L l (x+110) R/\A0 E.base W z:=by
 have an:=lL C 6 (by decide) (by decide) h (by omega);go_in;go_wp2_with fail;refine an.mono ?_;rintro e w1 ⟨g,z0,b7,rfl,o,_,I⟩;have a:=cH o I;clear I an C;rcases(show g=0\/g=1\/g=2\/g=3\/g=4\/g=5 by omega) with rfl|rfl|rfl|rfl|rfl|rfl
 ·go_wp2;go_ret;exact⟨_,.inl ⟨by decide,lu (by decide)⟩,rfl,a.out.1.wide (by omega),a.out.2⟩
 ·have j:=lL o 6 (by decide) (by decide) h (by omega);go_wp2_with fail;refine j.mono ?_;rintro e A ⟨y,a4,a5,rfl,f,_,i⟩;have a1:=adF f y (by omega) (by omega) h (by omega);have c:=ar i;clear i j;go_wp2_with fail;refine a1.mono ?_;rintro e b5 ⟨s,bp,rfl,av,a0⟩;go_wp2;go_ret;exact⟨_,.inl ⟨by omega,(adi s).le (by omega)⟩,rfl,av.wide (by omega),(a.out.2.trans c.out).trans a0⟩
 ·go_wp2;go_ret;exact⟨_,.inl ⟨by decide,lu (by decide)⟩,rfl,a.out.1.wide (by omega),a.out.2⟩
 ·have j:=lL o 20 (by decide) (by decide) h (by omega);go_wp2_with fail;refine j.mono ?_;rintro e A ⟨y,a4,a5,rfl,f,_,i⟩;have c:=cH f (a.out.2.trans i);clear i j o;obtain⟨bw,bE,d,t,a2,bx,b1,b2,a3⟩:=f.cur;obtain⟨a6,a7,a8,a9,bb,bd,bf⟩:=oK t;by_cases am:y=0
  ·subst am;by_cases bo:d<3
   ·have r:=f.went (y:=x+2) (pI (lH A E.cb) 3 (V O (d+1))) (t.set3 (d+1)) ⟨a2,by omega⟩ ⟨by omega,by omega,by omega⟩;have G:Bg E (A.setCell ⟨E.cb,3,Y⟩ (V O (d+1))) L 1:=fun p2 b0 a3 n=>by
     have K:=t.set3 (d+1);unfold dv at K n;rw[K]at n;simp at n;obtain⟨_,_,rfl⟩:=n;exact⟨by omega,by omega,by omega⟩
    have p:=gy r.1 r.2.2 G;clear G;clear r f;have br:IntKind.i64.wrap (d+1)=d+1:=by rw[cB];omega
    go_wp2_with fail;go_loop [3] (fun u=>∃b:ByteArray,u= B3 b/\Hw b.size/\DgT b) (fun u=>6000-acI u)
    case atStart=>exact⟨_,rfl,.inl rfl,afy⟩
    case round=>
     obtain⟨b,rfl,al,af⟩:=hrel;have k:=ar al;have B:=ar af;clear al af;by_cases ak:b.size<4000
     ·go_wp2;go_round
      case rel=>exact⟨_,rfl,xy k.out ak,B.out.twice⟩
      case measure=>have bj:=EB k.out;show 6000-(b++b).size<6000-b.size;rw[ae];omega
     ·have bl:4001<=b.size:=Ez k.out ak;have bn:b.size<=5120:=EA k.out;have ap:=afr p.out.1 p.out.2.2 3 (by decide) (by decide) h (by omega);go_wp2_with fail;refine ap.mono ?_;rintro e b6 ⟨v,b3,b4,rfl,F,H,J⟩;have q:=gy F ((c.out.2.trans p.out.2.1).trans J) H;clear F J ap H;rcases(show v=0\/v=1\/v=2 by omega) with rfl|rfl|rfl;all_goals
       go_wp2;go_ret;exact⟨_,.inr ⟨B.out.lng (by omega) (by omega) (by omega),q.out.2.2⟩,rfl,q.out.1.wide (by omega),q.out.2.1⟩
   ·go_wp2;go_ret;exact⟨_,.inl ⟨by decide,lu (by decide)⟩,rfl,c.out.1.wide (by omega),c.out.2⟩
  ·have bt:(y==0)=B0:=by simp[am]
   go_wp2;go_ret;exact⟨_,.inl ⟨by decide,lu (by decide)⟩,rfl,c.out.1.wide (by omega),c.out.2⟩
 ·go_wp2;go_ret;exact⟨_,.inl ⟨by decide,lu (by decide)⟩,rfl,a.out.1.wide (by omega),a.out.2⟩
 ·go_wp2;go_ret;exact⟨_,.inl ⟨by decide,lu (by decide)⟩,rfl,a.out.1.wide (by omega),a.out.2⟩
end
def Lf(s c l a:Int):Prop:=(l<5->l-s<=a)/\(5<=l->5-c<=a)
structure nJ (E:Bs) (W:Br) (L:List Mb) (l x:Int) (R:List Rwx) (m:Int):Prop where
 bd:Bd E W L l x R
 sum:l+L.length<=140
 lo: -20000+12*m<=l
 hx:x+1000*m<=4000000
 m0:0<=m/\m<=1300
def Ans(E:Bs)(W:Br)(L:List Mb)(l x:Int)(R:List Rwx)(s c:Int)(e:Ending)(a:Br):Prop:=
 ∃M:List Mb,0<M.length/\e= X (V O ((L.length:Int)+M.length-1))/\Bd E a (L++M) (l-M.length) x R/\A0 E.base W a/\Lf s c l (l-M.length)
section
variable {E : Bs} {W : World} {L : List Mb} {l x : Int} {R : List Rwx}
theorem DC{a:Br}{y:Mb}{s c b:Int}(h:1<=s)(g:1<=c)(f:b-400<=x)(d:Bd E a (L++[y]) (l-1) (b-400) R)(e:A0 E.base W a):Ans E W L l x R s c (X (V O (L.length:Nat))) a:=
 ⟨[y],by simp,by congr 2;simp,d.wide f,e,⟨fun _=>by simp;omega,fun _=>by simp;omega⟩⟩
theorem aco{m:Int}(c:nJ E W L l x R m)(br:1<=m):
  A2 U 127 #[bV E] W (Ans E W L l x R 1 1):=by
 obtain⟨C,bw,bp,bE,bs⟩:=c;have d:L.length<=25000:=by omega
 have a9:=C.c0;have q: -100000<=l/\l<=100000:=by omega
 have J:=lL C 9 (by decide) (by decide) d (by omega);go_in;go_wp2_with fail;refine J.mono ?_;rintro A w1 ⟨b,z0,b0,rfl,o,_,H⟩;have j:=ar H;clear H J C;have s:∀{W:Br}{L:List Mb}{l x:Int}{R:List Rwx},Bd E W L l x R->Bd E W L l x (⟨9,T Y 0 0,([]:List ByteArray).map Z⟩::⟨3,T Y 0 0,([]:List Int).map (Q O)⟩::R):=fun c=>(c.nil toI).nil BD;have r:∀{k n:Int}{t:ByteArray},0<=k->k<=1000-> -9223372036854775808<=n/\n<=9223372036854775807->Txt k t->sj (dN k 0 n t [] []):=fun K af ak al=>kv ⟨K,af⟩ (by decide) ak al (by decide) (fun p h=>by cases h) (by decide) (fun p h=>by cases h);rcases(show b=0\/b=1\/b=2\/b=3\/b=4\/b=5\/(b≠0/\b≠1/\b≠2/\b≠3/\b≠4/\b≠5) by omega) with rfl|rfl|rfl|rfl|rfl|rfl|⟨am,an,ap,av,a0,a1⟩
 ·have i:=lL o 3 (by decide) (by decide) d (by omega);go_wp2_with fail;refine i.mono ?_;rintro A u ⟨y,a7,a8,rfl,g,_,f⟩;have bx:IntKind.i64.wrap (20+y)=20+y:=by rw[cB];omega
  have e:=xm (k:=20+y) (op:=0) (n:=0) (t:=⟨#[]⟩) (s g) q (r (by omega) (by omega) (by decide) (lA (by omega))) d;go_wp2_with fail;refine lc e fun v a=>?_;go_wp2_with fail;go_ret;exact DC (by decide) (by decide) (by omega) a.1 ((j.out.trans f).trans a.2)
 iterate 2
  ·have i:=adE o d (by omega);go_wp2_with fail;refine i.mono ?_;rintro A u ⟨n,a4,rfl,g,f⟩;have e:=xm (k:=23) (op:=0) (n:=n) (t:=⟨#[]⟩) (s g) q (r (by decide) (by decide) a4 (lA (by decide))) d;go_wp2_with fail;refine lc e fun v a=>?_;go_wp2_with fail;go_ret;exact DC (by decide) (by decide) (by omega) a.1 ((j.out.trans f).trans a.2)
 ·have F:=ar fun (a6:Obj)=>lL (o.below (dF w1 a6)) 5 (by decide) (by decide) d (by omega);have a3:=o.lt;go_wp2_with fail;refine(F.out _).mono ?_;rintro A u ⟨y,a7,a8,rfl,g,G,f⟩;have I:=G.blk (ax w1 _) (by decide);have bt:=fun a5=>ay u w1.heap.size a5 _ _ _ I;have z:=cH g (((dF w1 _).mono a3.2.2.1).trans f);clear g G f I F;have e:=fun (t:ByteArray) (B:t.size<=19/\Cs t 90)=>xm (k:=24) (op:=0) (n:=0) (t:=t) (s z.out.1) q (r (by decide) (by decide) (by decide) (.inl ⟨by decide,B⟩)) d (.inl B.1);rcases(show y=0\/y=1\/y=2\/y=3\/y=4 by omega) with rfl|rfl|rfl|rfl|rfl;all_goals
   go_wp2_with fail;refine lc (e _ ⟨by decide,lu (by decide)⟩) fun v a=>?_;go_wp2_with fail;go_ret;exact DC (by decide) (by decide) (by omega) a.1 ((j.out.trans z.out.2).trans a.2)
 ·have i:=agv o d (by omega);go_wp2_with fail;refine i.mono ?_;rintro A u ⟨p,h,rfl,g,f⟩;have e:=fun (t:ByteArray) (B:Sml t\/(Lng t/\t.size<=4000/\Bg E u L 1))=>xm (k:=25) (op:=0) (n:=0) (t:=t) (s g) q (r (by decide) (by decide) (by decide) (.inr ⟨rfl,B.imp id fun c=>⟨c.1,c.2.1⟩⟩)) d (B.imp (fun c=>c.1) fun c=>c.2.2);have z:=ar f;clear f i;by_cases bo:4000<p.size
  ·have a2:(4000:Int)<(p.size:Int):=by omega
   go_wp2_with fail;refine lc (e _ (.inl ⟨by decide,lu (by decide)⟩)) fun v a=>?_;go_wp2_with fail;go_ret;exact DC (by decide) (by decide) (by omega) a.1 ((j.out.trans z.out).trans a.2)
  ·have a2:¬(4000:Int)<(p.size:Int):=by omega
   go_wp2_with fail;refine lc (e _ (h.imp id fun c=>⟨c.1,by omega,c.2⟩)) fun v a=>?_;go_wp2_with fail;go_ret;exact DC (by decide) (by decide) (by omega) a.1 ((j.out.trans z.out).trans a.2)
 ·have e:=xm (k:=27) (op:=0) (n:=0) (t:=⟨#[]⟩) (s o) q (r (by decide) (by decide) (by decide) (lA (by decide))) d;go_wp2_with fail;refine lc e fun v a=>?_;go_wp2_with fail;go_ret;exact DC (by decide) (by decide) (by omega) a.1 (j.out.trans a.2)
 ·have bb:(b==0)=B0:=by simpa using am
  have bd:(b==1)=B0:=by simpa using an
  have bf:(b==2)=B0:=by simpa using ap
  have bj:(b==3)=B0:=by simpa using av
  have bl:(b==4)=B0:=by simpa using a0
  have bn:(b==5)=B0:=by simpa using a1
  have i:=DB o d (by omega);go_wp2_with fail;refine i.mono ?_;rintro A u ⟨p,h,rfl,g,f⟩;have e:=xm (k:=26) (op:=0) (n:=0) (t:=p) (s g) q (r (by decide) (by decide) (by decide) (I7 (by decide) h)) d (.inl (by have:=h.sz;omega));go_wp2_with fail;refine lc e fun v a=>?_;go_wp2_with fail;go_ret;exact DC (by decide) (by decide) (by omega) a.1 ((j.out.trans f).trans a.2)
end
def FB(a:FuncId)(d m s c:Int):Prop:=∀ ⦃E:Bs⦄ ⦃W:Br⦄ ⦃L:List Mb⦄ ⦃l x:Int⦄ ⦃R:List Rwx⦄,nJ E W L l x R m->A2 U a #[bV E,V O d] W (Ans E W L l x R s c)
def sH(a:FuncId)(d m s c:Int):Prop:=∀ ⦃E:Bs⦄ ⦃W:Br⦄ ⦃L:List Mb⦄ ⦃l x:Int⦄ ⦃R:List Rwx⦄,nJ E W L l x R m->A2 U a #[bV E,V O d] W (Ans E W L l (x-100) R s c)
theorem sH.weak{a:FuncId}{d m s c:Int}(b:sH a d m s c):FB a d m s c:=fun _ _ _ _ _ _ i=>(b i).mono fun j k ⟨M,e,f,g,h⟩=>⟨M,e,f,g.wide (by omega),h⟩
theorem nJ.less{E:Bs}{W:Br}{L:List Mb}{l x m m':Int}{R:List Rwx}(p:nJ E W L l x R m)(b:0<=m')(a:m'<=m):nJ E W L l x R m':=⟨p.bd,p.sum,by have:=p.lo;omega,by have:=p.hx;omega,by have:=p.m0;omega⟩
theorem FB.up{b:FuncId}{d m m' s c e a:Int}(f:FB b d m s c)(g:0<=m)(n:m<=m')(t:s<=e)(r:c<=a):FB b d m' e a:=fun _ _ _ _ _ _ o=>(f (o.less g n)).mono fun p u ⟨M,h,i,j,k,q⟩=>⟨M,h,i,j,k,by unfold Lf at *;omega⟩
theorem sH.up{b:FuncId}{d m m' s c e a:Int}(f:sH b d m s c)(g:0<=m)(n:m<=m')(t:s<=e)(r:c<=a):sH b d m' e a:=fun _ _ _ _ _ _ o=>(f (o.less g n)).mono fun p u ⟨M,h,i,j,k,q⟩=>⟨M,h,i,j,k,by unfold Lf at *;omega⟩
section
variable {E : Bs} {W : World} {L M : List Mb} {l x y : Int} {R R' : List Rwx} {m m' : Int}
theorem nJ.len(a:nJ E W L l x R m):L.length<=25000/\ -100000<=l/\l<=100000:=by
 obtain⟨_,b,c,d,e⟩:=a;omega
theorem nJ.next(a:nJ E W L l x R m){w:Br}(b:Bd E w (L++M) (l-M.length) y R')(i:y<=x+900)(d:0<=m'/\m'+1<=m)(c: -20000+12*m'<=l-M.length):nJ E w (L++M) (l-M.length) y R' m':=by
 obtain⟨_,e,f,g,h⟩:=a;exact⟨b,by rw[aH];simp;omega,c,by omega,⟨d.1,by omega⟩⟩
theorem Bd.newI(a:Bd E W L l x R)(ks:List Int)(c:ks.length<=100)(n:Nat)(b:ks.length=n):Bd E (W.alloc (B5 (ks.map (Q O)).toArray 3)) L l x (⟨3,T (Ax ⟨W.heap.size,0,Y⟩) n n,ks.map (Q O)⟩::R):=by
 subst b;refine a.new toI _ _ rfl ?_ rfl;have:=El (base:=E.base) (e:=3) (size:=1) W (ks.map (Q O)).toArray ks.length a.lt.2.2.1 (by unfold Ce;omega) (by simp);simpa using this
theorem abo{a:Br}{z:Mb}{s c d:Int}{r:Int}(i:d-400<=x)(e:Bd E a (L++M++[z]) (l-M.length-1) (d-400) R)(f:A0 E.base W a)(g:Lf s c l (l-M.length-1))(h:r=(L.length:Int)+M.length:=by simp):Ans E W L l x R s c (X (V O r)) a:=by
 subst h;have b:l-((M++[z]).length:Nat)=l-M.length-1:=by simp;omega
 refine⟨M++[z],by simp,by congr 2;simp;omega,?_,f,?_⟩
 ·rw[b,<-dG];exact e.wide i
 ·rw[b];exact g
theorem Bd.last(f:Bd E W (L++M) l x R)(i:0<M.length):∃(k a b:Nat) (y:Mb),k+1=L.length+M.length/\W.cell? ⟨E.bb,1,Y⟩=Ax (T (Ax ⟨a,0,Y⟩) (k+1) b)/\W.cell? ⟨a,k*9,Y⟩=Ax (V O y.N.k):=by
 obtain⟨n,e,c⟩:=f.row;have g:(L++M).length=L.length+M.length:=aH;obtain⟨y,h⟩:∃y,(L++M)[L.length+M.length-1]?=Ax y:=⟨_,aF (by omega)⟩;rcases cL c with⟨j,rfl⟩|⟨a,b,rfl⟩
 ·omega
 ·refine⟨L.length+M.length-1,a,b,y,by omega,?_,?_⟩
  ·rw[ay _ _ _ _ _ _ e,g,show L.length+M.length-1+1=L.length+M.length by omega];rfl
  ·obtain⟨d,_⟩:=pl c h;exact d
end
theorem acp{d me m ce:Int}(af:0<=me/\me+1<=m)(F:0<=ce/\ce<=4000)(p:FB 98 d me 1 ce):FB 125 d m 2 (ce+1):=by
 intro E W L l x R a;have o:nJ E W L l x R me:=⟨a.bd,a.sum,by have:=a.lo;omega,by have:=a.hx;omega,by have:=a.m0;omega⟩;have j:=p o;go_in;go_wp2_with fail;refine j.mono ?_;rintro z w1 ⟨M,g,rfl,c,h,q⟩;have J:=a.len;have al:=a.sum;have K:=a.lo;have ak:=a.m0;unfold Lf at q;obtain⟨k,B,v,y,I,u,n⟩:=c.last g;have e:((L.length:Int)+M.length-1)=(k:Int):=by omega
 rw[e];have b:=cH c h;clear c h j;have G:(0:Int)<=(k:Int):=by omega
 have H:(k:Int)<((k+1:Nat):Int):=by omega
 have C:(M.length:Int)<=22000:=by omega
 by_cases i:y.N.k=27
 ·rw[i]at n;have r:=b.out.1.newI [(k:Int)] (by simp) 1 rfl;have s:=J6 (k:=37) r (by omega) (by decide) (by simp) (fun an e=>by rw[List.mem_singleton.1 e];omega) (by rw[aH];omega);go_wp2_with fail;refine lc s fun am f=>?_;go_wp2_with fail;go_ret;exact abo (by omega) f.1 ((b.out.2.trans ((dF w1 _).mono b.out.1.lt.2.2.1)).trans f.2) (by unfold Lf;omega)
 ·have A:(y.N.k==27)=B0:=by simpa using i
  go_wp2_with fail;go_ret;exact⟨M,g,congrArg (fun t=>Ending.returned (V O t)) (show(k:Int)=_ by omega),b.out.1,b.out.2,by unfold Lf;omega⟩
theorem adG:(Tryz.prog.info? 3).map (fun i=>(i.zero,i.size,i.bytes))=Ax (Ax (V O 0),1,8):=by kernel_rfl
section
variable {E : Bs} {W : World} {L : List Mb} {l x : Int} {R : List Rwx}
theorem Bd.formI{v:B2}{ks:List Int}(d:Bd E W L l x (⟨3,v,ks.map (Q O)⟩::R)):∃a c,v= T a ks.length c:=by
 have b:=(d.rows _ dt).2;simp only[du]at b;exact ey b
theorem ou{n:Array Oper}{o:List Oper}{e:Oper}{a:Act}{h:Exit->Act->Br->Prop}{v:B2}{m:Nat}{ks:List Int}(u:e.guard=Y)(s y:Operand)
  (C:e.op= .call {callee:= .builtin .append,args:=#[s,y],argTypes:=#[94,94]}) (f:Bd E W L l x (⟨3,v,ks.map (Q .i64)⟩::R)) (F:a.eval s=v) (t:Int) {w0:Br}(G:W=w0.alloc (.cells #[.int .i64 t] 3)) (H:a.eval y= .slice (Ax ⟨w0.heap.size,0,Y⟩) 1 1) (B:ks.length=m) (am:m<=1000)
  (k:∀b c w1,Bd E w1 L l x (⟨3,.slice b (m+1) c,(ks++[t]).map (Q .i64)⟩::R)->A0 E.base W w1->wpList U n h o (a.put e.dst (.slice b (m+1) c)) w1):
  wpList U n h (e::o) a W:=by
 subst B;obtain⟨af,A,I,J,K⟩:=fd adG;have j:=(f.rows _ dt).2;simp only[du]at j;refine B6 _ u s y 94 C E.base 3 af _ 1 8 Tryz.underlying94 A I J K rfl (by decide) v _ _ F j ⟨w0.heap.size,0,Y⟩ 1 1 [.int .i64 t] H (by simp) (B1 (cs:=#[.int .i64 t]) (by rw[G];exact ax w0 _)) (by simp[Value.oneCell']) (by unfold Ce;omega) (by omega) f.lt.2.2.1 ?_;intro an w1 i r _ p;obtain⟨b,c,rfl⟩:=ey i;have z:∀d,(Ck b (ks.length+1) c).ownBlock=Ax d->v.ownBlock=Ax d\/W.heap.size<=d:=fun d g=>by
  rcases p with q|q
  ·exact .inl (q ▸ g)
  ·rw[q]at g;cases g;exact .inr (ag _)
 obtain⟨ak,al⟩:=f.hot (r':=⟨3,.slice b (ks.length+1) c,(ks++[t]).map (Q .i64)⟩) r toI (by simpa using i) z;exact k b c w1 ak al
end
def Pl(ks:List Int):Prop:=∀a∈ks,0<=a/\a<=100000
theorem Pl.add{ks:List Int}(a:Pl ks){z:Int}(b:0<=z)(c:z<=100000):Pl (ks++[z]):=fun y hy=>by
 rcases List.mem_append.1 hy with hy|hy
 ·exact a y hy
 ·rw[List.mem_singleton.1 hy];exact⟨b,c⟩
def agw(E:Bs)(W:Br)(L:List Mb)(l x:Int)(R:List Rwx)(n:Nat)(s c:Int)(e:Ending)(f:Br):Prop:=
 ∃(M:List Mb) (a:List Int) (b:Option Addr) (d:Nat),e= X (T b n d)/\a.length=n/\Pl a/\Bd E f (L++M) (l-M.length) x (⟨3,T b n d,a.map (Q O)⟩::R)/\A0 E.base W f/\Lf s c l (l-M.length)
theorem J7{d me m ce:Int}(am:0<=me/\me+1<=m)(a6:0<=ce/\ce<=4000)(K:FB 98 d me 1 ce){E:Bs}{W:Br}{L:List Mb}{l x:Int}{R:List Rwx}(b:nJ E W L l x R m)(n:Nat)(bl:n<=8):
  A2 U 96 #[bV E,V O n,V O d] W (agw E W L l x R n n (ce+n)):=by
 have bb:=b.len;have C:=b.sum;have bf:=b.lo;have bj:=b.m0;have bn:=b.hx;go_in;go_wp2_with fail;go_loopw [1,7] (fun t a1 wr=>∃(c a:Nat) (M:List Mb) (e:List Int),t= V O c/\c+a=n/\e.length=a/\Pl e/\Bd E wr (L++M) (l-M.length) x (⟨3,a1,e.map (Q O)⟩::R)/\A0 E.base W wr/\Lf a (ce+a) l (l-M.length)) (fun t _ _=>(B4 t).toNat)
 case atStart=>exact⟨n,0,[],[],rfl,rfl,rfl,fun bo C=>(by cases C),by simpa using b.bd.nil toI,aq _ _,by unfold Lf;simp;omega⟩
 case round=>
  obtain⟨c,a,M,e,rfl,A,r,s,f,q,z⟩:=hrel;have a9:c<=n:=by omega
  have a7:a<=n:=by omega
  have G:=ar z;unfold Lf at z;have B:nJ E wr (L++M) (l-M.length) x _ me:=b.next f (by omega) am (by omega)
  by_cases a8:0<c
  ·have F:=K B;have k:=wI A s q r;clear A s q f;go_wp2_with fail;refine F.mono ?_;rintro o w1 ⟨g,a5,rfl,u,v,ak⟩;unfold Lf at ak;have an:=B.sum;have j:=cH u v;clear u v F;obtain⟨i,h⟩:=aD (((L++M).length:Int)+g.length-1);rw[h];rw[aH]at h an;have ap:0<=i:=by omega
   have a0:i<=100000:=by omega
   have a2:=ar h;clear h;go_wp2_with (at_builtin;refine ou rfl _ _ rfl (j.out.1.below (dF w1 _)) rfl i rfl rfl k.out.2.2.2 (by have:=k.out.1;omega) ?_;intro a3 a4 bp J af);go_roundw
   case rel=>
    have p:=k.out;have al:=j.out.1.lt;have o:l-((M++g).length:Nat)=l-M.length-g.length:=by simp;omega
    refine⟨c-1,a+1,M++g,e++[i],by go_num,by omega,by rw[aH,p.2.2.2];rfl,p.2.1.add ap a0,?_,((p.2.2.1.trans j.out.2).trans ((dF w1 _).mono al.2.2.1)).trans af,?_⟩
    ·rw[o,<-dG];exact J
    ·rw[o];unfold Lf;omega
   case measure=>simp[B4];omega
  ·obtain rfl:c=0:=by omega
   obtain⟨H,I,rfl⟩:=f.formI;obtain rfl:a=n:=by omega
   rw[r]at f⊢;go_wp2_with fail;go_ret;exact⟨M,e,H,I,rfl,r,s,f,q,G.out⟩
section
variable {E : Bs} {W : World} {L : List Mb} {l x : Int} {R : List Rwx}
theorem Bd.intAt{r:Rwx}{a:Option Addr}{n e:Nat}{ks:List Int}(g:Bd E W L l x (r::⟨3,T a n e,ks.map (Q O)⟩::R))(h:ks.length=n){i:Nat}(o:i<n):∃b z,a=Ax ⟨b,0,Y⟩/\ks[i]?=Ax z/\W.cell? ⟨b,i,Y⟩=Ax (V O z):=by
 have c:=(g.rows _ (dJ _ dt)).2;simp only[du,h]at c;obtain⟨z,d⟩:∃z,ks[i]?=Ax z:=⟨_,aF (by omega)⟩;rcases cL c with⟨k,_⟩|⟨b,j,f⟩
 ·omega
 ·cases f;refine⟨b,z,rfl,d,?_⟩;rw[c.cellAt i (by omega),dj,d];rfl
end
theorem acq{d mb me m cb ce:Int}(cn:0<=mb/\mb+1<=m/\0<=me/\me+2<=m)(b9:0<=ce/\ce<=cb/\cb<=4000)(ca: -100<=d/\d<=100)(bf:FB 125 (d-1) mb 2 cb)(bl:FB 98 (d-1) me 1 ce):sH 93 d m 5 (cb+3):=by
 intro E W L l x R c;have ck:=c.len;have an:=c.sum;have cl:=c.lo;have cq:=c.m0;have cs:=c.hx;have bb:nJ E W L l x R mb:=⟨c.bd,c.sum,by omega,by omega,by omega⟩;have a0:=bf bb;have cr:IntKind.i64.wrap (d-1)=d-1:=by rw[cB];omega
 go_in;go_wp2_with fail;refine a0.mono ?_;rintro i w1 ⟨a,b8,rfl,j,I,bo⟩;unfold Lf at bo;obtain⟨o,z⟩:=aD ((L.length:Int)+a.length-1);rw[z];have bw:0<=o/\o<=100000:=by omega
 have am:=j.newI [o] (by simp) 1 rfl;have af:A0 E.base W (w1.alloc (B5 ([o].map (Q O)).toArray 3)):=I.trans ((dF w1 _).mono j.lt.2.2.1);have b4:=j.c0;have cm:=j.lt;have a3:=lL am 3 (by decide) (by decide) (by rw[aH];omega) (by omega);have a5:=cH af z;clear am af j I a0 z;go_wp2_with fail;refine a3.mono ?_;rintro i b2 ⟨n,b0,ct,rfl,C,_,J⟩;obtain⟨n,rfl⟩:=fe b0;have p2:nJ E b2 (L++a) (l-a.length) (x+1) _ (m-1):=c.next C (by omega) (by omega) (by omega)
 have a1:=J7 (m:=m-1) (by omega) (by omega) bl p2 n (by omega);have a4:=ar (a5.out.1.trans J);clear C J a3;go_wp2_with fail;refine a1.mono ?_;rintro i cz ⟨f,bE,a6,a9,rfl,ak,al,F,K,bp⟩;unfold Lf at bp;have bt:=p2.sum;have G:=F.swap;have r:=gy G (a4.out.trans K) al;clear F K a1 G p2 al;rw[aH]at bt;go_wp2_with fail;go_loopw [6,25] (fun b1 A wr=>∃(b:Nat) (e:List Int),A= V O b/\b<=n/\e.length=b+1/\Pl e/\Bd E wr (L++a++f) (l-a.length-f.length) (x+1) (⟨3,b1,e.map (Q O)⟩::⟨3,T a6 n a9,bE.map (Q O)⟩::R)/\A0 E.base W wr) (fun _ A _=>n-(B4 A).toNat)
 case atStart=>exact⟨0,[o],rfl,aG _,rfl,fun y v=>by rw[List.mem_singleton.1 v];exact bw,r.out.1,r.out.2.1⟩
 case round=>
  obtain⟨b,e,rfl,cf,s,u,g,q⟩:=hrel;by_cases br:b<n
  ·obtain⟨b7,y,rfl,v,b6⟩:=g.intAt ak br;have ap:=r.out.2.2 y (dC v);have cc:(0:Int)<=(b:Int):=by omega
   have bs:(b:Int)<(n:Int):=by omega
   have h:=wI g q u s;clear g q u s;go_wp2_with (at_builtin;refine ou rfl _ _ rfl (h.out.1.below (dF wr _)) rfl y rfl rfl h.out.2.2.2 (by omega) ?_;intro b3 b5 cF bj bn);go_roundw
   case rel=>
    have p:=h.out;exact⟨b+1,e++[y],by go_num,by omega,by rw[aH,p.2.2.2];rfl,p.2.2.1.add ap.1 ap.2,bj,(p.2.1.trans ((dF wr _).mono p.1.lt.2.2.1)).trans bn⟩
   case measure=>simp[B4];omega
  ·obtain⟨a7,a8,rfl⟩:=g.formI;have bs:¬(b:Int)<(n:Int):=by omega
   have i:l-((a++f).length:Nat)=l-a.length-f.length:=by simp;omega
   have H:Bd E wr (L++(a++f)) (l-((a++f).length:Nat)) (x+1) (⟨9,T Y 0 0,([]:List ByteArray).map Z⟩::⟨3,T a7 e.length a8,e.map (Q O)⟩::R):=by
    rw[i,<-dG];exact(g.swap.drop).nil BD
   have bx:=xm (k:=34) (op:=0) (n:=0) (t:=⟨#[]⟩) H (by omega) (kv (by decide) (by decide) (by decide) (lA (by first|decide|omega)) (by decide) (fun cu an=>by cases an) (by omega) u) (by simp;omega);have h:=ar q;clear g q H s ak;go_wp2_with fail;refine lc bx fun c1 B=>?_;go_wp2_with fail;go_ret;exact abo (by omega) B.1 (h.out.trans B.2) (by unfold Lf;rw[i];omega)
structure At (E:Bs) (W:Br) (L:List Mb) (l x:Int) (w:Br) (M:List Mb) (y:Int) (R:List Rwx):Prop where
 bd:Bd E w (L++M) (l-M.length) y R
 bel:A0 E.base W w
 hy:y<=x+600
 lo: -20000<=l-M.length
section
variable {E : Bs} {W w : World} {L M : List Mb} {l x y : Int} {R R' : List Rwx} {m : Int}
theorem nJ.at(p:nJ E W L l x R m):At E W L l x W [] x R:=⟨by simpa using p.bd,aq _ _,by omega,by have:=p.lo;have:=p.m0;simp;omega⟩
theorem At.len(p:nJ E W L l x R m)(a:At E W L l x w M y R'):(L++M).length<=25000/\(-100000<=l-M.length/\l-M.length<=100000)/\y<=5000000/\L.length+M.length<=25000:=by
 have b:=p.sum;have c:=a.lo;have d:=a.hy;have e:=p.hx;have f:=p.m0;rw[aH];omega
theorem At.low(a:At E W L l x w M y R'):E.base<=w.heap.size:=a.bd.lt.2.2.1
theorem At.c0(a:At E W L l x w M y R'):w.cell? ⟨E.bb,0,Y⟩=Ax (cV E):=a.bd.c0
theorem At.c2(a:At E W L l x w M y R'):w.cell? ⟨E.bb,2,Y⟩=Ax (V O (l-M.length)):=a.bd.c2
theorem At.pick(p:nJ E W L l x R m)(a:At E W L l x w M y R')(i:y+1<=x+600)(k:Int)(f:2<=k)(g:k<=200):
  A2 U 9 #[cV E,V O k] w fun e b=>∃z:Int,e= X (V O z)/\(0<=z/\z<k)/\At E W L l x b M (y+1) R':=by
 have h:=a.len p;refine(lL a.bd k f g h.1 (by omega)).mono ?_;rintro e b ⟨z,z0,j,rfl,c,_,d⟩;exact⟨z,rfl,⟨z0,j⟩,c,a.bel.trans d,i,a.lo⟩
theorem At.short(p:nJ E W L l x R m)(a:At E W L l x w M y R')(h:y+1<=x+600):
  A2 U 126 #[bV E] w fun e b=>∃s:ByteArray,e= X (B3 s)/\Shr s/\At E W L l x b M (y+1) R':=by
 have f:=a.len p;refine(DB a.bd f.1 (by omega)).mono ?_;rintro e b ⟨s,g,rfl,c,d⟩;exact⟨s,rfl,g,c,a.bel.trans d,h,a.lo⟩
theorem At.names(p:nJ E W L l x R m)(a:At E W L l x w M y R')(n:Nat)(i:n<=8)(k:y+n<=x+600):
  A2 U 95 #[bV E,V O n] w fun e f=>∃(v:Option Addr) (c:Nat) (nm:List ByteArray),e= X (T v n c)/\nm.length=n/\(∀s∈nm,Shr s)/\At E W L l x f M (y+n) (⟨9,T v n c,nm.map Z⟩::R'):=by
 have h:=a.len p;refine(adD a.bd n i h.1 (by omega)).mono ?_;rintro e f ⟨v,c,nm,rfl,d,j,b,g⟩;rw[d]at b⊢;exact⟨v,c,nm,rfl,d,j,b,a.bel.trans g,k,a.lo⟩
theorem At.newI(a:At E W L l x w M y R')(ks:List Int)(b:ks.length<=100)(n:Nat)(c:ks.length=n):At E W L l x (w.alloc (B5 (ks.map (Q O)).toArray 3)) M y (⟨3,T (Ax ⟨w.heap.size,0,Y⟩) n n,ks.map (Q O)⟩::R'):=
 ⟨a.bd.newI ks b n c,a.bel.trans ((dF w _).mono a.low),a.hy,a.lo⟩
theorem At.nil(a:At E W L l x w M y R'){t:TypeId}(b:TO t):At E W L l x w M y (⟨t,T Y 0 0,[]⟩::R'):=⟨a.bd.nil b,a.bel,a.hy,a.lo⟩
theorem At.swap{r b:Rwx}(a:At E W L l x w M y (r::b::R')):At E W L l x w M y (b::r::R'):=⟨a.bd.swap,a.bel,a.hy,a.lo⟩
theorem At.drop{r:Rwx}(a:At E W L l x w M y (r::R')):At E W L l x w M y R':=⟨a.bd.drop,a.bel,a.hy,a.lo⟩
theorem At.below{c:Br}(a:At E W L l x w M y R')(b:A0 w.heap.size w c):At E W L l x c M y R':=⟨a.bd.below b,a.bel.trans (b.mono a.low),a.hy,a.lo⟩
theorem Cd{M1:List Mb}(b:Bd E w (L++M++M1) (l-M.length-M1.length) y R'):Bd E w (L++(M++M1)) (l-((M++M1).length:Nat)) y R':=by
 have a:l-((M++M1).length:Nat)=l-M.length-M1.length:=by simp;omega
 rw[a,<-dG];exact b
theorem At.sub(p:nJ E W L l x R m)(a:At E W L l x w M y R'){h:FuncId}{d m' s c:Int}(hF:FB h d m' s c)(t:1<=m'/\m'+1<=m)(q: -20000+12*m'<=l-M.length)(B:s<=12/\c<=4000):
  A2 U h #[bV E,V O d] w fun e j=>∃(f:List Mb) (z:Int),e= X (V O z)/\(0<=z/\z<=100000)/\M.length<f.length/\At E W L l x j f y R'/\Lf s c (l-M.length) (l-f.length):=by
 have A:=a.len p;have F:=p.hx;have G:=a.hy;have u:nJ E w (L++M) (l-M.length) y R' m':=⟨a.bd,by have:=p.sum;rw[aH];simp;omega,q,by omega,⟨by omega,by have:=p.m0;omega⟩⟩;refine(hF u).mono ?_;rintro e j ⟨b,v,rfl,k,n,i⟩;have g:l-((M++b).length:Nat)=l-M.length-b.length:=by simp;omega
 have o:=i;unfold Lf at o;have r: -20000<=l-M.length-b.length:=by
  have:=t.1;omega
 have C:=p.sum;refine⟨M++b,_,rfl,⟨by omega,by rw[aH];simp;omega⟩,by rw[aH];omega,⟨Cd k,a.bel.trans n,a.hy,by rw[g];exact r⟩,by rw[g];exact i⟩
theorem At.add(p:nJ E W L l x R m){k op n:Int}{t:ByteArray}{nm:List ByteArray}{ks:List Int}{an d:Option Addr}{mn cn mk ck:Nat}(a:At E W L l x w M y (⟨9,T an mn cn,nm.map Z⟩::⟨3,T d mk ck,ks.map (Q O)⟩::R))(f:sj (dN k op n t nm ks)){x2:Int}(u:y<=x2+400){s c:Int}(o:Lf s c l (l-M.length-1))(q:k≠25:=by first|decide|omega):
  A2 U 97 #[bV E,.agg #[V O k,V O 0,V O 0,V O 0,V O op,V O n,B3 t,T an mn cn,T d mk ck]] w fun e h=>∃z:Int,e= X (V O z)/\Ans E W L l x2 R s c (X (V O z)) h:=by
 have g:=a.len p;have r:t.size<=19:=by
  rcases f.x with⟨_,b,_⟩|⟨b,_⟩
  ·exact b
  ·exact absurd b q
 refine(xm a.bd g.2.1 f g.1 (.inl r)).mono ?_;rintro e h ⟨rfl,i,j⟩;exact⟨_,rfl,abo (by omega) i (a.bel.trans j) o⟩
theorem At.addOn(p:nJ E W L l x R m){k op n:Int}{t:ByteArray}{nm:List ByteArray}{ks:List Int}{an d:Option Addr}{mn cn mk ck:Nat}(a:At E W L l x w M y (⟨9,T an mn cn,nm.map Z⟩::⟨3,T d mk ck,ks.map (Q O)⟩::R'))(f:sj (dN k op n t nm ks))(r: -20000<=l-M.length-1)(q:k≠25:=by first|decide|omega):
  A2 U 97 #[bV E,.agg #[V O k,V O 0,V O 0,V O 0,V O op,V O n,B3 t,T an mn cn,T d mk ck]] w fun e h=>∃(c:List Mb) (z:Int),e= X (V O z)/\(0<=z/\z<=100000)/\c.length=M.length+1/\At E W L l x h c (y-400) R':=by
 have g:=a.len p;have s:t.size<=19:=by
  rcases f.x with⟨_,b,_⟩|⟨b,_⟩
  ·exact b
  ·exact absurd b q
 refine(xm a.bd g.2.1 f g.1 (.inl s)).mono ?_;rintro e h ⟨rfl,j,o⟩;have i:∀z:Mb,l-((M++[z]).length:Nat)=l-M.length-1:=fun z=>by simp;omega
 exact⟨M++[_],_,rfl,⟨by omega,by omega⟩,by simp,⟨Cd (M1:=[_]) (by simpa using j),a.bel.trans o,by have:=a.hy;omega,by rw[i];exact r⟩⟩
theorem At.kids(p:nJ E W L l x R m){k:Int}{ks:List Int}{b:Option Addr}{mk ck:Nat}(a:At E W L l x w M y (⟨3,T b mk ck,ks.map (Q O)⟩::R))(o:0<=k/\k<=1000/\k≠25)(g:ks.length<=64)(h:Pl ks){x2:Int}(q:y<=x2+400){s c:Int}(n:Lf s c l (l-M.length-1)):
  A2 U 94 #[bV E,V O k,T b mk ck] w fun e f=>∃z:Int,e= X (V O z)/\Ans E W L l x2 R s c (X (V O z)) f:=by
 have d:=a.len p;refine(J6 a.bd d.2.1 o g h d.1).mono ?_;rintro e f ⟨rfl,i,j⟩;exact⟨_,rfl,abo (by omega) i (a.bel.trans j) n⟩
theorem At.kidsM(p:nJ E W L l x R m){k:Int}{ks:List Int}{c:Option Addr}{mk ck:Nat}(a:At E W L l x w M y (⟨3,T c mk ck,ks.map (Q O)⟩::R'))(o:0<=k/\k<=1000/\k≠25)(h:ks.length<=64)(i:Pl ks)(q: -20000<=l-M.length-1):
  A2 U 94 #[bV E,V O k,T c mk ck] w fun e f=>∃(b:List Mb) (z:Int),e= X (V O z)/\(0<=z/\z<=100000)/\b.length=M.length+1/\At E W L l x f b (y-400) R':=by
 have d:=a.len p;refine(J6 a.bd d.2.1 o h i d.1).mono ?_;rintro e f ⟨rfl,j,n⟩;have g:∀z:Mb,l-((M++[z]).length:Nat)=l-M.length-1:=fun z=>by simp;omega
 exact⟨M++[_],_,rfl,⟨by omega,by omega⟩,by simp,⟨Cd (M1:=[_]) (by simpa using j),a.bel.trans n,by have:=a.hy;omega,by rw[g];exact q⟩⟩
theorem At.exprs(p:nJ E W L l x R m)(a:At E W L l x w M y R'){d me mx ce:Int}(k:FB 98 d me 1 ce)(C:0<=me/\me+1<=mx/\mx+1<=m)(A:0<=ce/\ce<=3900)(s: -20000+12*mx<=l-M.length)(n:Nat)(t:n<=8):
  A2 U 96 #[bV E,V O n,V O d] w fun e i=>∃(b:List Mb) (ks:List Int) (v:Option Addr) (c:Nat),e= X (T v n c)/\ks.length=n/\Pl ks/\M.length<=b.length/\At E W L l x i b y (⟨3,T v n c,ks.map (Q O)⟩::R')/\Lf n (ce+n) (l-M.length) (l-b.length):=by
 have B:=a.len p;have F:=p.hx;have G:=a.hy;have u:nJ E w (L++M) (l-M.length) y R' mx:=⟨a.bd,by have:=p.sum;rw[aH];simp;omega,s,by omega,⟨by omega,by have:=p.m0;omega⟩⟩;refine(J7 (m:=mx) (by omega) (by omega) k u n t).mono ?_;rintro e i ⟨f,ks,v,c,rfl,r,z,j,o,h⟩;have g:l-((M++f).length:Nat)=l-M.length-f.length:=by simp;omega
 have q:=h;unfold Lf at q;exact⟨M++f,ks,v,c,rfl,r,z,by rw[aH];omega,⟨Cd j,a.bel.trans o,a.hy,by rw[g];omega⟩,by rw[g];exact h⟩
end
theorem w1{d:Int}(a: -1000<=d/\d<=1000):IntKind.i64.wrap (d-1)=d-1:=by rw[cB];omega
theorem FC{z:Int}(a:0<=z/\z<=100000):Pl [z]:=fun y b=>by rw[List.mem_singleton.1 b];exact a
theorem J8{z y:Int}(b:0<=z/\z<=100000)(k:0<=y/\y<=100000):Pl [z,y]:=fun c a=>by
 simp at a;rcases a with rfl|rfl
 ·exact b
 ·exact k
theorem rF:∀s∈([]:List ByteArray),Shr s:=fun s a=>by cases a
theorem fnB{d mk m ck:Int}(F:1<=mk/\mk+1<=m)(an:0<=ck/\ck<=3900)(C: -1000<=d/\d<=1000)(B:FB 102 (d-1) mk 1 ck):sH 99 d m 2 (ck+1):=by
 intro E W L l x R a;have ak:=a.at.c0;have a6:=w1 C;have ap:=a.lo;have av:=a.m0;have i:=a.at.pick a (by omega) 3 (by decide) (by decide);go_in;go_wp2_with fail;refine i.mono ?_;rintro b w1 ⟨n,rfl,G,q⟩;obtain⟨n,rfl⟩:=fe G.1;have j:=q.names a n (by omega) (by omega);clear i;go_wp2_with fail;refine j.mono ?_;rintro b a9 ⟨a8,c,a7,rfl,g,h,r⟩;have o:=r.sub a B F (by simp;omega) (by omega);have e:=cH g h;clear j g h;go_wp2_with fail;refine o.mono ?_;rintro b bb ⟨af,K,rfl,H,am,f,z⟩;have al:=f.c0;have p:=f.pick a (by omega) 2 (by decide) (by decide);clear o;go_wp2_with fail;refine p.mono ?_;rintro b bd ⟨J,rfl,a0,u⟩;have v:=(u.newI [K] (by simp) 1 rfl).swap;have I:=v.add a (k:=36) (op:=J) (n:=0) (t:=⟨#[]⟩) (x2:=x-100) (s:=2) (c:=ck+1) (kv (by decide) (by omega) (by decide) (lA (by first|decide|omega)) (by rw[e.out.1];omega) e.out.2 (by simp) (FC H)) (by omega) (by unfold Lf at *;simp at z;omega);clear p;go_wp2_with fail;refine I.mono ?_;rintro b bf ⟨bj,rfl,A⟩;go_wp2_with fail;go_ret;exact A
theorem abp{d mb me m cb ce:Int}(z:(1<=mb/\mb+1<=m)/\1<=me/\me+1<=m)(a7:0<=ce/\ce<=cb/\cb<=3900)(ak: -1000<=d/\d<=1000)(J:FB 125 (d-1) mb 2 cb)(K:FB 98 (d-1) me 1 ce):FB 100 d m 4 (cb+3):=by
 intro E W L l x R a;have a0:=a.at.c0;have bd:=w1 ak;have a8:=a.lo;have a9:=a.m0;have A:=a.at.pick a (by omega) 4 (by decide) (by decide);go_in;go_wp2_with fail;refine A.mono ?_;rintro b w1 ⟨n,rfl,bb,v⟩;have i:=v.sub a J z.1 (by simp;omega) (by omega);clear A;rcases(show n=0\/n=1\/(n≠0/\n≠1) by omega) with rfl|rfl|⟨G,H⟩
 ·go_wp2_with fail;refine i.mono ?_;rintro b an ⟨F,u,rfl,q,af,o,g⟩;unfold Lf at g;simp at g;have e:=o.sub a K z.2 (by omega) (by omega);clear i;go_wp2_with fail;refine e.mono ?_;rintro b B ⟨av,ap,rfl,am,a6,f,I⟩;unfold Lf at I;have j:=(f.newI [u,ap] (by simp) 2 rfl).kids a (k:=32) (x2:=x) (s:=4) (c:=cb+3) (by decide) (by simp) (J8 q am) (by omega) (by unfold Lf;omega);clear e;go_wp2_with fail;refine j.mono ?_;rintro b C ⟨r,rfl,h⟩;go_wp2_with fail;go_ret;exact h
 ·go_wp2_with fail;refine i.mono ?_;rintro b an ⟨F,u,rfl,q,af,o,g⟩;unfold Lf at g;simp at g;have e:=o.short a (by omega);clear i;go_wp2_with fail;refine e.mono ?_;rintro b B ⟨s,rfl,p,f⟩;have j:=((f.newI [u] (by simp) 1 rfl).nil BD).add a (k:=33) (op:=0) (n:=0) (t:=s) (nm:=[]) (x2:=x) (s:=4) (c:=cb+3) (kv (by decide) (by decide) (by decide) (I7 (by first|decide|omega) p) (by decide) rF (by simp) (FC q)) (by omega) (by unfold Lf;omega);clear e;go_wp2_with fail;refine j.mono ?_;rintro b C ⟨r,rfl,h⟩;go_wp2_with fail;go_ret;exact h
 ·have a4:(n==0)=B0:=by simpa using G
  have a5:(n==1)=B0:=by simpa using H
  have e:=v.short a (by omega);clear i;go_wp2_with fail;refine e.mono ?_;rintro b B ⟨s,rfl,p,f⟩;have j:=((f.nil toI).nil BD).add a (k:=26) (op:=0) (n:=0) (t:=s) (nm:=[]) (ks:=[]) (x2:=x) (s:=4) (c:=cb+3) (kv (by decide) (by decide) (by decide) (I7 (by first|decide|omega) p) (by decide) rF (by simp) (fun r al=>by cases al)) (by omega) (by unfold Lf;simp;omega);clear e;go_wp2_with fail;refine j.mono ?_;rintro b C ⟨r,rfl,h⟩;go_wp2_with fail;go_ret;exact h
section
variable {E : Bs} {W w : World} {L M : List Mb} {l x y : Int} {R R' : List Rwx} {m : Int}
theorem At.formI{v:B2}{ks:List Int}(a:At E W L l x w M y (⟨3,v,ks.map (Q O)⟩::R')):∃b c,v= T b ks.length c:=a.bd.formI
theorem At.app{h:Array Oper}{i:List Oper}{d:Oper}{a:Act}{f:Exit->Act->Br->Prop}{v:B2}{n:Nat}{ks:List Int}(e:At E W L l x w M y (⟨3,v,ks.map (Q O)⟩::R'))(t:Int)(q:ks.length=n)(r:n<=1000)(p:d.guard=Y)(s z:Operand)
  (u:d.op= .call {callee:= .builtin .append,args:=#[s,z],argTypes:=#[94,94]}) (A:a.eval s=v) (B:a.eval z= T (Ax ⟨w.heap.size,0,Y⟩) 1 1)
  (k:∀b c w1,At E W L l x w1 M y (⟨3,T b (n+1) c,(ks++[t]).map (Q O)⟩::R')->wpList U h f i (a.put d.dst (T b (n+1) c)) w1):
  wpList U h f (d::i) a (w.alloc (B5 #[V O t] 3)):=
 have g:=e.below (dF w (B5 #[V O t] 3))
 ou p s z u g.bd A t rfl B q r fun b c w1 j o=>k b c w1 ⟨j,g.bel.trans o,e.hy,e.lo⟩
end
theorem J9{d ms m cs:Int}(am:1<=ms/\ms+1<=m)(bd:0<=cs/\cs<=3900)(hS:FB 75 d ms 6 cs):sH 102 d m 1 (cs+1):=by
 intro E W L l x R b;have a7:=b.at.c0;have bj:=b.lo;have bl:=b.m0;have bn:=b.sum;have v:=(b.at.nil toI).pick b (by omega) 4 (by decide) (by decide);go_in;go_wp2_with fail;refine v.mono ?_;rintro j w1 ⟨n,rfl,an,C⟩;obtain⟨n,rfl⟩:=fe an.1;clear v;go_wp2_with fail;go_loopw [5,6] (fun a0 r wr=>∃(a:Nat) (M:List Mb) (f:List Int),r= V O a/\f.length+a<=3/\Pl f/\At E W L l x wr M (x+1) (⟨3,a0,f.map (Q O)⟩::R)/\(l<5->M.length=0)/\(5<=l->5-cs<=l-M.length)) (fun _ r _=>(B4 r).toNat)
 case atStart=>exact⟨n,[],[],rfl,by simp;omega,(fun z ap=>by cases ap),C,fun _=>rfl,fun a9=>by simp;omega⟩
 case round=>
  obtain⟨a,M,f,rfl,q,h,g,J,K⟩:=hrel;have H:=g.c2;have bf:a<=3:=by omega
  by_cases p:0<a/\5<l-M.length
  ·have af:(0:Int)<(a:Int):=by omega
   have al:=p.2;have e:=g.sub b hS am (by omega) (by omega);have i:=cH q h;clear q h;go_wp2_with fail;refine e.mono ?_;rintro j bo ⟨B,A,rfl,u,bb,F,I⟩;unfold Lf at I;clear e H;go_wp2_with (at_builtin;refine F.app A rfl (by have:=i.out.1;omega) rfl _ _ rfl rfl rfl ?_;intro a5 a8 bp G);go_roundw
   case rel=>exact⟨a-1,B,f++[A],by go_num,by have:=i.out.1;simp;omega,i.out.2.add u.1 u.2,G,by omega,by omega⟩
   case measure=>simp[B4];omega
  ·obtain⟨a6,c,rfl⟩:=g.formI;have e:=(g.nil BD).add b (k:=1) (op:=0) (n:=0) (t:=⟨#[]⟩) (nm:=[]) (x2:=x-100) (s:=1) (c:=cs+1) (kv (by decide) (by decide) (by decide) (lA (by first|decide|omega)) (by decide) rF (by omega) h) (by omega) (by unfold Lf;omega);clear h q J K;by_cases af:0<a
   ·have ak:(0:Int)<(a:Int):=by omega
    have al:¬5<l-M.length:=by omega
    clear p;go_wp2_with fail;refine e.mono ?_;rintro j a4 ⟨z,rfl,o⟩;go_wp2_with fail;go_ret;exact o
   ·have ak:¬(0:Int)<(a:Int):=by omega
    clear p;go_wp2_with fail;refine e.mono ?_;rintro j a4 ⟨z,rfl,o⟩;go_wp2_with fail;go_ret;exact o
theorem adH{d me m ce:Int}(a0:1<=me/\me+1<=m)(cc:0<=ce/\ce<=3900)(bo: -1000<=d/\d<=1000)(an:FB 98 (d-1) me 1 ce):sH 128 d m 10 (ce+10):=by
 intro E W L l x R a;have b6:=a.at.c0;have cq:=w1 bo;have cl:=a.lo;have cm:=a.m0;have cp:=a.sum;have a7:=(a.at.nil toI).pick a (by omega) 4 (by decide) (by decide);go_in;go_wp2_with fail;refine a7.mono ?_;rintro g w1 ⟨n,rfl,br,bb⟩;obtain⟨n,rfl⟩:=fe br.1;clear a7;go_wp2_with fail;go_loopw [5,6] (fun bE J wr=>∃(e:Nat) (M:List Mb) (f:List Int) (y:Int),J= V O e/\f.length+e=n/\y<=x+1/\Pl f/\At E W L l x wr M y (⟨3,bE,f.map (Q O)⟩::R)/\Lf (3*f.length) (ce+3*f.length) l (l-M.length)) (fun _ J _=>(B4 J).toNat)
 case atStart=>exact⟨n,[],[],x+1,rfl,by simp,by omega,(fun b1 bt=>by cases bt),bb,by unfold Lf;simp;omega⟩
 case round=>
  obtain⟨e,M,f,y,rfl,v,cr,z,C,H⟩:=hrel;unfold Lf at H;obtain⟨bx,A⟩:=aD f.length;rw[A]at H v;have ck:e<=3/\bx<=3:=by omega
  by_cases cf:0<e
  ·have bp:(0:Int)<(e:Int):=by omega
   have B:=C.sub a an a0 (by omega) (by omega);have b:=gy v z A;clear v z A;go_wp2_with fail;refine B.mono ?_;rintro g cs ⟨b3,af,rfl,I,ca,ak,bj⟩;unfold Lf at bj;have b7:=ak.c0;have a8:=ak.pick a (by omega) 3 (by decide) (by decide);clear B;go_wp2_with fail;refine a8.mono ?_;rintro g ct ⟨o,rfl,cn,F⟩;clear a8;rcases(show o=0\/o=1\/(o≠0/\o≠1) by omega) with rfl|rfl|⟨bd,bf⟩
   ·have i:=(F.newI [af] (by simp) 1 rfl).kidsM a (k:=40) (by decide) (by simp) (FC I) (by omega);go_wp2_with fail;refine i.mono ?_;rintro g a9 ⟨p,j,rfl,h,ap,q⟩;clear i;go_wp2_with (at_builtin;refine q.app j rfl (by have:=b.out.2.2;omega) rfl _ _ rfl rfl rfl ?_;intro al am K r);go_roundw
    case rel=>exact⟨e-1,p,f++[j],_,by go_num,by have:=b.out;simp;omega,by omega,b.out.2.1.add h.1 h.2,r,by unfold Lf;have:=b.out.2.2;simp;omega⟩
    case measure=>simp[B4];omega
   ·have i:=F.sub a an a0 (by omega) (by omega);go_wp2_with fail;refine i.mono ?_;rintro g b0 ⟨b4,b2,rfl,bw,cb,G,bl⟩;unfold Lf at bl;have u:=(G.newI [af,b2] (by simp) 2 rfl).kidsM a (k:=41) (by decide) (by simp) (J8 I bw) (by omega);clear i;go_wp2_with fail;refine u.mono ?_;rintro g a9 ⟨p,j,rfl,h,ap,q⟩;clear u;go_wp2_with (at_builtin;refine q.app j rfl (by have:=b.out.2.2;omega) rfl _ _ rfl rfl rfl ?_;intro al am K r);go_roundw
    case rel=>exact⟨e-1,p,f++[j],_,by go_num,by have:=b.out;simp;omega,by omega,b.out.2.1.add h.1 h.2,r,by unfold Lf;have:=b.out.2.2;simp;omega⟩
    case measure=>simp[B4];omega
   ·have b8:(o==0)=B0:=by simpa using bd
    have b9:(o==1)=B0:=by simpa using bf
    have i:=F.short a (by omega);go_wp2_with fail;refine i.mono ?_;rintro g b0 ⟨s,rfl,bs,G⟩;have u:=((G.newI [af] (by simp) 1 rfl).nil BD).addOn a (k:=42) (op:=0) (n:=0) (t:=s) (nm:=[]) (kv (by decide) (by decide) (by decide) (I7 (by first|decide|omega) bs) (by decide) rF (by simp) (FC I)) (by omega);clear i;go_wp2_with fail;refine u.mono ?_;rintro g a9 ⟨p,j,rfl,h,ap,q⟩;clear u;go_wp2_with (at_builtin;refine q.app j rfl (by have:=b.out.2.2;omega) rfl _ _ rfl rfl rfl ?_;intro al am K r);go_roundw
    case rel=>exact⟨e-1,p,f++[j],_,by go_num,by have:=b.out;simp;omega,by omega,b.out.2.1.add h.1 h.2,r,by unfold Lf;have:=b.out.2.2;simp;omega⟩
    case measure=>simp[B4];omega
  ·obtain⟨b5,c,rfl⟩:=C.formI;have bp:¬(0:Int)<(e:Int):=by omega
   have B:=(C.nil BD).add a (k:=35) (op:=0) (n:=0) (t:=⟨#[]⟩) (nm:=[]) (x2:=x-100) (s:=10) (c:=ce+10) (kv (by decide) (by decide) (by decide) (lA (by first|decide|omega)) (by decide) rF (by omega) z) (by omega) (by unfold Lf;omega);clear z v H A;go_wp2_with fail;refine B.mono ?_;rintro g K ⟨b1,rfl,bn⟩;go_wp2_with fail;go_ret;exact bn
section
variable {E : Bs} {W w : World} {L M : List Mb} {l x y : Int} {R R' : List Rwx} {m : Int}
theorem At.tail(p:nJ E W L l x R m)(a:At E W L l x w [] y R){b:FuncId}{d m' s c:Int}(hF:sH b d m' s c)(o:0<=m'/\m'+1<=m)(t:y<=x+100):
  A2 U b #[bV E,V O d] w fun e f=>∃z:Int,e= X (V O z)/\Ans E W L l x R s c (X (V O z)) f:=by
 have r:=p.hx;have i:Bd E w L l y R:=by simpa using a.bd
 have q:nJ E w L l y R m':=⟨i,p.sum,by have:=p.lo;omega,by omega,⟨o.1,by have:=p.m0;omega⟩⟩;refine(hF q).mono ?_;rintro e f ⟨g,h,rfl,j,k,n⟩;exact⟨_,rfl,g,h,rfl,j.wide (by omega),a.bel.trans k,n⟩
end
theorem wh{d:Int}(j:d<=0):FB 98 d 2 1 1:=by
 intro E W L l x R a;have g:=a.at.c0;have h:=a.bd.c2;have f:=aco (a.less (m':=1) (by decide) (by decide)) (by decide);go_in;go_wp2_with fail;refine f.mono ?_;rintro i w1 ⟨b,c,rfl,e⟩;go_wp2_with fail;go_ret;exact⟨b,c,rfl,e⟩
theorem adI{d me mb mc m ce cb cc:Int}(b2:1<=d/\d<=1000)(al:(1<=me/\me+1<=m)/\(1<=mb/\mb+1<=m)/\(1<=mc/\mc+1<=m))(b1:1<=ce/\ce<=cb/\cb+1<=cc/\cc<=3800)(a7:FB 98 (d-1) me 1 ce)(bw:FB 125 (d-1) mb 2 cb)
  (bj:sH 93 d mc 12 cc) (bE:sH 128 d mc 12 cc) (hF:sH 99 d mc 12 cc):FB 98 d m 1 (cc+1):=by
 intro E W L l x R a;have bs:=a.at.c0;have bt:=a.bd.c2;have b9:=w1 (d:=d) (by omega);have b5:=a.lo;have b6:=a.m0;have b8:=a.sum;have b3:¬d<=0:=by omega
 by_cases b4:l<5
 ·have k:=aco (a.less (m':=1) (by decide) (by omega)) (by decide);go_in;go_wp2_with fail;refine k.mono ?_;rintro b w1 ⟨H,I,rfl,J,K,ak⟩;go_wp2_with fail;go_ret;exact⟨H,I,rfl,J,K,by unfold Lf at *;omega⟩
 have bp:=a.at.pick a (by omega) 14 (by decide) (by decide);go_in;go_wp2_with fail;refine bp.mono ?_;rintro b w1 ⟨n,rfl,b7,af⟩;clear bp bs bt;have g:=af.sub a a7 al.1 (by simp;omega) (by omega);have p:=af.sub a bw al.2.1 (by simp;omega) (by omega);have u:=af.sub a bj.weak al.2.2 (by simp;omega) (by omega);have z:=af.tail a bj (by omega) (by omega);have B:=af.tail a bE (by omega) (by omega);have A:=af.tail a hF (by omega) (by omega);have bx:n=0\/n=1\/n=2\/n=3\/n=4\/n=5\/n=6\/n=7\/n=8\/n=9\/n=10\/n=11\/n=12\/n=13:=by omega
 rcases bx with rfl|rfl|rfl|rfl|rfl|rfl|rfl|rfl|rfl|rfl|rfl|rfl|rfl|rfl
 iterate 4
  ·clear p u z B A;go_wp2_with fail;refine g.mono ?_;rintro b F ⟨am,r,rfl,i,av,f,e⟩;unfold Lf at e;simp at e;have j:=f.sub a a7 al.1 (by omega) (by omega);clear g;go_wp2_with fail;refine j.mono ?_;rintro b a8 ⟨a9,a6,rfl,a0,bl,v,ap⟩;unfold Lf at ap;have bb:=v.c0;have C:=v.pick a (by omega) 18 (by decide) (by decide);clear j;go_wp2_with fail;refine C.mono ?_;rintro b br ⟨q,rfl,bn,an⟩;have bo:IntKind.i64.wrap (1+q)=1+q:=by rw[cB];omega
   have o:=((an.newI [r,a6] (by simp) 2 rfl).nil BD).add a (k:=31) (op:=1+q) (n:=0) (t:=⟨#[]⟩) (nm:=[]) (x2:=x) (s:=1) (c:=cc+1) (kv (by decide) (by omega) (by decide) (lA (by first|decide|omega)) (by decide) rF (by simp) (J8 i a0)) (by omega) (by unfold Lf;omega);clear C;go_wp2_with fail;refine o.mono ?_;rintro b a5 ⟨G,rfl,h⟩;go_wp2_with fail;go_ret;exact h
 ·clear p u z B A;go_wp2_with fail;refine g.mono ?_;rintro b F ⟨am,r,rfl,i,av,f,e⟩;unfold Lf at e;simp at e;have j:=f.sub a a7 al.1 (by omega) (by omega);clear g;go_wp2_with fail;refine j.mono ?_;rintro b a8 ⟨a9,a6,rfl,a0,bl,v,ap⟩;unfold Lf at ap;have bb:=v.c0;have C:=v.pick a (by omega) 2 (by decide) (by decide);clear j;go_wp2_with fail;refine C.mono ?_;rintro b br ⟨q,rfl,bn,an⟩;have bo:IntKind.i64.wrap (28+q)=28+q:=by rw[cB];omega
  have o:=(an.newI [r,a6] (by simp) 2 rfl).kids a (k:=28+q) (x2:=x) (s:=1) (c:=cc+1) (by omega) (by simp) (J8 i a0) (by omega) (by unfold Lf;omega);clear C;go_wp2_with fail;refine o.mono ?_;rintro b a5 ⟨G,rfl,h⟩;go_wp2_with fail;go_ret;exact h
 iterate 2
  ·clear p u z B A;go_wp2_with fail;refine g.mono ?_;rintro b F ⟨am,r,rfl,i,av,f,e⟩;unfold Lf at e;simp at e;have bb:=f.c0;have C:=f.pick a (by omega) 4 (by decide) (by decide);clear g;go_wp2_with fail;refine C.mono ?_;rintro b br ⟨q,rfl,bn,an⟩;have bo:IntKind.i64.wrap (19+q)=19+q:=by rw[cB];omega
   have o:=((an.newI [r] (by simp) 1 rfl).nil BD).add a (k:=30) (op:=19+q) (n:=0) (t:=⟨#[]⟩) (nm:=[]) (x2:=x) (s:=1) (c:=cc+1) (kv (by decide) (by omega) (by decide) (lA (by first|decide|omega)) (by decide) rF (by simp) (FC i)) (by omega) (by unfold Lf;omega);clear C;go_wp2_with fail;refine o.mono ?_;rintro b a5 ⟨G,rfl,h⟩;go_wp2_with fail;go_ret;exact h
 ·clear g u z B A;go_wp2_with fail;refine p.mono ?_;rintro b F ⟨am,r,rfl,i,av,f,e⟩;unfold Lf at e;simp at e;have j:=f.sub a a7 al.1 (by omega) (by omega);clear p;go_wp2_with fail;refine j.mono ?_;rintro b a8 ⟨a9,a6,rfl,a0,bl,v,ap⟩;unfold Lf at ap;have o:=(v.newI [r,a6] (by simp) 2 rfl).kids a (k:=32) (x2:=x) (s:=1) (c:=cc+1) (by omega) (by simp) (J8 i a0) (by omega) (by unfold Lf;omega);clear j;go_wp2_with fail;refine o.mono ?_;rintro b a5 ⟨G,rfl,h⟩;go_wp2_with fail;go_ret;exact h
 ·clear g u z B A;go_wp2_with fail;refine p.mono ?_;rintro b F ⟨am,r,rfl,i,av,f,e⟩;unfold Lf at e;simp at e;have j:=f.short a (by omega);clear p;go_wp2_with fail;refine j.mono ?_;rintro b a8 ⟨s,rfl,b0,v⟩;have o:=((v.newI [r] (by simp) 1 rfl).nil BD).add a (k:=33) (op:=0) (n:=0) (t:=s) (nm:=[]) (x2:=x) (s:=1) (c:=cc+1) (kv (by decide) (by decide) (by decide) (I7 (by first|decide|omega) b0) (by decide) rF (by simp) (FC i)) (by omega) (by unfold Lf;omega);clear j;go_wp2_with fail;refine o.mono ?_;rintro b a5 ⟨G,rfl,h⟩;go_wp2_with fail;go_ret;exact h
 iterate 2
  ·clear g p u B A;go_wp2_with fail;refine z.mono ?_;rintro b F ⟨G,rfl,H,I,J,K,ak,bf⟩;go_wp2_with fail;go_ret;exact⟨H,I,J,K,ak,by unfold Lf at *;omega⟩
 ·clear g p u z A;go_wp2_with fail;refine B.mono ?_;rintro b F ⟨G,rfl,H,I,J,K,ak,bf⟩;go_wp2_with fail;go_ret;exact⟨H,I,J,K,ak,by unfold Lf at *;omega⟩
 ·clear g p u z B;go_wp2_with fail;refine A.mono ?_;rintro b F ⟨G,rfl,H,I,J,K,ak,bf⟩;go_wp2_with fail;go_ret;exact⟨H,I,J,K,ak,by unfold Lf at *;omega⟩
 ·clear g p z B A;go_wp2_with fail;refine u.mono ?_;rintro b F ⟨am,r,rfl,i,av,f,e⟩;unfold Lf at e;simp at e;have o:=(f.newI [r] (by simp) 1 rfl).kids a (k:=37) (x2:=x) (s:=1) (c:=cc+1) (by omega) (by simp) (FC i) (by omega) (by unfold Lf;omega);clear u;go_wp2_with fail;refine o.mono ?_;rintro b a5 ⟨G,rfl,h⟩;go_wp2_with fail;go_ret;exact h
def FBl(a:FuncId)(d m s c b:Int):Prop:=∀ ⦃E:Bs⦄ ⦃W:Br⦄ ⦃L:List Mb⦄ ⦃l x:Int⦄ ⦃R:List Rwx⦄,nJ E W L l x R m->l<=b->A2 U a #[bV E,V O d] W (Ans E W L l (x-100) R s c)
section
variable {E : Bs} {W w : World} {L M : List Mb} {l x y : Int} {R R' : List Rwx} {m : Int}
theorem At.subL(p:nJ E W L l x R m)(a:At E W L l x w M y R'){j:FuncId}{d m' s c b:Int}(hF:FBl j d m' s c b)(h:l-M.length<=b)(B:1<=m'/\m'+1<=m)(r: -20000+12*m'<=l-M.length)(C:s<=12/\c<=4000):
  A2 U j #[bV E,V O d] w fun e n=>∃(g:List Mb) (z:Int),e= X (V O z)/\(0<=z/\z<=100000)/\M.length<g.length/\At E W L l x n g y R'/\Lf s c (l-M.length) (l-g.length):=by
 have A:=a.len p;have G:=p.hx;have H:=a.hy;have u:nJ E w (L++M) (l-M.length) y R' m':=⟨a.bd,by have:=p.sum;rw[aH];simp;omega,r,by omega,⟨by omega,by have:=p.m0;omega⟩⟩;refine(hF u h).mono ?_;rintro e n ⟨f,v,rfl,o,h,k⟩;have i:l-((M++f).length:Nat)=l-M.length-f.length:=by simp;omega
 have q:=k;unfold Lf at q;have t: -20000<=l-M.length-f.length:=by omega
 have F:=p.sum;refine⟨M++f,_,rfl,⟨by omega,by rw[aH];simp;omega⟩,by rw[aH];omega,⟨Cd (o.wide (by omega)),a.bel.trans h,a.hy,by rw[i];exact t⟩,by rw[i];exact k⟩
end
theorem Ad{d me mk mr m ce ck cr c b:Int}(bn: -1000<=d/\d<=1000)(j:(1<=me/\me+1<=m)/\(1<=mk/\mk+1<=m)/\(1<=mr/\mr+1<=m))(b2:(0<=ce/\ce+3<=c)/\(0<=ck/\ck+3<=c)/\(0<=cr/\cr+1<=c)/\c<=3800)(bf:FB 98 d me 1 ce)(J:FB 102 (d-1) mk 1 ck)
  (bl:10<b->FBl 101 (d-1) mr 4 cr (b-2)):FBl 101 d m 4 c b:=by
 intro E W L l x R a b3;have b9:=w1 bn;have b4:=a.lo;have b6:=a.m0;have b8:=a.sum;have K:=a.at.sub a bf j.1 (by simp;omega) (by omega);go_in;go_wp2_with fail;refine K.mono ?_;rintro e w1 ⟨bt,br,rfl,z,b0,an,I⟩;unfold Lf at I;simp at I;have af:=an.sub a J j.2.1 (by omega) (by omega);clear K;go_wp2_with fail;refine af.mono ?_;rintro e ca ⟨al,bs,rfl,A,b1,p,bb⟩;unfold Lf at bb;have H:=p.newI [br,bs] (by simp) 2 rfl;have a0:=p.c0;have b5:=p.bd.lt;have ak:=H.pick a (by omega) 3 (by decide) (by decide);clear af;go_wp2_with fail;refine ak.mono ?_;rintro e cb ⟨n,rfl,b7,i⟩;clear ak H a0;have u:=i.c2;have o:=(i.nil BD).add a (k:=7) (op:=0) (n:=0) (t:=⟨#[]⟩) (nm:=[]) (x2:=x-100) (s:=4) (c:=c) (kv (by decide) (by decide) (by decide) (lA (by first|decide|omega)) (by decide) rF (by simp) (J8 z A)) (by omega) (by unfold Lf;omega);rcases(show n=0\/n=1\/(n≠0/\n≠1) by omega) with rfl|rfl|⟨a8,a9⟩
 ·have h:=i.sub a J j.2.1 (by omega) (by omega);clear o;go_wp2_with fail;refine h.mono ?_;rintro e bo ⟨am,G,rfl,g,bj,q,v⟩;unfold Lf at v;clear h u;go_wp2_with (at_builtin;refine q.app G rfl (by simp) rfl _ _ rfl rfl rfl ?_;intro ap a7 bp r);have B:=(r.nil BD).add a (k:=7) (op:=0) (n:=0) (t:=⟨#[]⟩) (nm:=[]) (x2:=x-100) (s:=4) (c:=c) (kv (by decide) (by decide) (by decide) (lA (by first|decide|omega)) (by decide) rF (by simp) ((J8 z A).add g.1 g.2)) (by omega) (by unfold Lf;omega);go_wp2_with fail;refine B.mono ?_;rintro e C ⟨F,rfl,f⟩;go_wp2_with fail;go_ret;exact f
 ·by_cases bE:10<l-al.length
  ·have h:=i.subL a (bl (by omega)) (by omega) j.2.2 (by omega) (by omega);clear o;go_wp2_with fail;refine h.mono ?_;rintro e bo ⟨am,G,rfl,g,bj,q,v⟩;unfold Lf at v;clear h u;go_wp2_with (at_builtin;refine q.app G rfl (by simp) rfl _ _ rfl rfl rfl ?_;intro ap a7 bp r);have B:=(r.nil BD).add a (k:=7) (op:=0) (n:=0) (t:=⟨#[]⟩) (nm:=[]) (x2:=x-100) (s:=4) (c:=c) (kv (by decide) (by decide) (by decide) (lA (by first|decide|omega)) (by decide) rF (by simp) ((J8 z A).add g.1 g.2)) (by omega) (by unfold Lf;omega);go_wp2_with fail;refine B.mono ?_;rintro e C ⟨F,rfl,f⟩;go_wp2_with fail;go_ret;exact f
  ·go_wp2_with fail;refine o.mono ?_;rintro e C ⟨F,rfl,f⟩;go_wp2_with fail;go_ret;exact f
 ·have bw:(n==0)=B0:=by simpa using a8
  have bx:(n==1)=B0:=by simpa using a9
  clear u;go_wp2_with fail;refine o.mono ?_;rintro e C ⟨F,rfl,f⟩;go_wp2_with fail;go_ret;exact f
