import Derived.Test.YtcbmoiabehpliaaGreatDoorHPk01
import Derived.Test.YtcbmoiabehpliaaGreatDoorHPk34
import Derived.Test.YtcbmoiabehpliaaGreatDoorHPk42
import Derived.Test.YtcbmoiabehpliaaGreatDoorHPk14
import Derived.Test.YtcbmoiabehpliaaGreatDoorHPk35
import Derived.Test.YtcbmoiabehpliaaGreatDoorHPk25
import Derived.Deep.RegionHeld3
import Derived.Test.YtcbmoiabehpliaaGreatDoorHPk29
import Derived.Test.YtcbmoiabehpliaaGreatDoorHPk07
import Derived.Shelf.Abstract
import Derived.Defers
import Derived.Recover
import Derived.Laws.Pointers
set_option linter.unusedSimpArgs false
set_option linter.unusedVariables false
set_option maxRecDepth 100000
set_option maxHeartbeats 1600000
namespace Go.Proofs.YtcbmoiabehpliaaGreatDoor
open Go.RowKit Go.Maps Go.WideMaps
def CG(x:ByteArray)(b:List Int)(m:Nat):Nat:=b.foldl (fun m a=>max m (wZ a x)) m
def jm:ByteArray:=⟨#[45,45]⟩
def jH(st:List Int)(x:ByteArray):Nat:=CG x (dO st 78) (wY x jm)
structure Ff (x:ByteArray) (L:List Int) (j m R:Nat):Prop where
 out:CG x (L.drop j) m=R
theorem oS(a b:ByteArray):∀f n,n<=a.size->vA a b f n<=a.size
 |0,n,h=>h
 |f+1,n,h=>by
  rw[vA];split
  ·rename_i c;exact oS a b f (n+1) (by omega)
  ·exact h
theorem CH(k:Int)(x:ByteArray):wZ k x<=x.size:=by
 unfold wZ;split
 ·omega
 split
 ·split<;>omega
 ·exact oS _ _ _ _ (Nat.zero_le _)
theorem xb(x:ByteArray):∀(a:List Int)(m:Nat),m<=x.size->CG x a m<=x.size
 |[],m,h=>h
 |k::a,m,h=>by
  show CG x a (max m (wZ k x))<=x.size;exact xb x a _ (by have:=CH k x;omega)
theorem mX(st:List Int)(x:ByteArray):jH st x<=x.size:=xb x _ _ (oS _ _ _ _ (Nat.zero_le _))
theorem qH(w:World)(base I mb:Nat)(st:List Int)(x:ByteArray)(h:GQ w base I mb st)(Q:fV w)(V:x.size<=1100000):
  Calls Tryz.prog 32 #[.pointer (some ⟨I,0,none⟩),.string x] w fun e Z=>e= .returned (.int .i64 (jH st x))/\Below w.heap.size w Z:=by
 obtain⟨c,v⟩:=ah (dO st 78);obtain⟨R,B⟩:=ah (jH st x);have J:=uC st 78;have M:=oO st 78;rw[v]at J M;have o:Ff x c 0 (wY x jm) R:=⟨by rw[<-B,<-v];rfl⟩;rw[B];have H:=oR w x jm V (by decide);have G:wY x jm<=x.size:=oS _ _ _ _ (Nat.zero_le _);have L:=cK h Q;clear h B Q;unfold jm at H;go_in;go_wp2_with fail;refine H.mono ?_;rintro e al ⟨rfl,q⟩;have z:=zO al base I mb st (L.out.1.below q);rw[v]at z
 change Ff x c 0 (wY x ⟨#[45,45]⟩) R at o
 change wY x ⟨#[45,45]⟩<=x.size at G
 generalize wY x ⟨#[45,45]⟩=ao at o G⊢;clear H;go_wp2_with fail;refine z.mono ?_;rintro e m ⟨ak,a6,rfl,g,K⟩;clear z;have T:Below w.heap.size w m:=q.trans (K.mono q.size);obtain⟨k,F⟩:=ah c.length;rw[F]at g M⊢;have d:=cS g F T;clear g F T K q v;go_wp2_with fail;go_loopw [5,13] (fun ap C wr=>∃(a j:Nat),a<=k/\j<=x.size/\ap= .int .i64 (j:Int)/\C= .int .i64 (a:Int)/\Ff x c a j R/\Below m.heap.size m wr) (fun _ C _=>k-(intOf C).toNat)
 case atStart=>exact⟨0,ao,Nat.zero_le _,G,rfl,rfl,o,Below.refl _ _⟩
 case round=>
  obtain⟨a,j,a3,a5,rfl,rfl,r,n⟩:=hrel;clear o;by_cases am:a<k
  ·obtain⟨b,u⟩:∃b,c[a]?=some b:=⟨_,List.getElem?_eq_getElem (by rw[d.out.2.1];exact am)⟩;have X:=J b (List.mem_of_getElem? u);have O:c.drop a=b::c.drop (a+1):=by
    obtain⟨W,af⟩:=List.getElem?_eq_some_iff.1 u;rw[List.drop_eq_getElem_cons W,af]
   have g:=ai d.out.1 n;obtain⟨t,rfl⟩:∃t,ak=some ⟨t,0,none⟩:=by
    rcases ay g with⟨h,_⟩|⟨t,a1,h⟩
    ·omega
    ·cases h;exact⟨_,rfl⟩
   have an:wr.cell? ⟨t,a,none⟩=some (.int .i64 b):=by rw[g.cellAt a (by omega),List.getElem?_map,u];rfl
   have i:=r.out;rw[O]at i;have y:CG x (c.drop (a+1)) (max j (wZ b x))=R:=i;have U:Below w.heap.size w wr:=d.out.2.2.trans (n.mono d.out.2.2.size);have A:=pU wr b x (L.out.2.below U (Nat.le_refl _)) V X.1 (by omega);have ar:=CH b x;generalize wZ b x=N at y A ar;have E:Ff x c (a+1) (max j N) R:=⟨y⟩;have a4:(a:Int)<(k:Int):=by omega
   have a2:(0:Int)<=(a:Int):=by omega
   clear i y O u r g U;go_wp2_with fail;refine A.mono ?_;rintro e a0 ⟨rfl,S⟩;have Y:Below m.heap.size m a0:=n.trans (S.mono n.size);clear A S an;go_wp2_with fail;exact⟨⟨a+1,max j N,by omega,by omega,by congr 1;omega,by push_cast;rfl,E,Y⟩,by simp[intOf];omega⟩
  ·obtain rfl:a=k:=by omega
   have i:=r.out;rw[List.drop_of_length_le (by rw[d.out.2.1];exact Nat.le_refl _)]at i;have E:=ab i;clear i r;go_wp2_with fail;go_ret;exact⟨by rw[<-E.out];rfl,d.out.2.2.trans (n.mono d.out.2.2.size)⟩
attribute [local go_sem] Oper.semAt_some
theorem gM{P:Program}{b:Array Oper}{Q:Exit->Act->World->Prop}{id:Nat}{S:World->Prop}{a:Act}{w:World}(c:P.follows .mixedOrders=true)(hS:S w.drew)
  (h:S w.drew->wpAnyH P .any b Q S b.size (Array.replicate b.size false) a w.drew):(Go.Code.region id b true).wp P Q a w:=
 wp_region_any c (wpAny_of_held _ _ _ _ (h hS))
def xc(z:Int):List PanicEntry:=[{v:= .iface 39 (.agg #[.int .i64 z]),recovered:=false}]
structure Hl (w:World) (base gb mb:Nat) (st stF:List Int) (k z:Int) (e:Ending) (w':World):Prop where
 out:(ce st k=true/\e= .returned (.tuple #[])/\GQ w' base gb mb stF/\Gp gb w w'/\Below base w w')\/(ce st k=false/\e= .panicked (xc z)/\Below w.heap.size w w')
theorem qI(w:World)(base u mb:Nat)(st stF:List Int)(T:Tk)(s:ByteArray)(f:Nat)(h:GQ w base u mb st)(M:fV w)(a7:s.size<=1100000)(K:1<=T.k)(I:T.k<=78)(F:0<=T.f)(af:T.f<=T.t)(N:T.t<=(s.size:Int))
  (y:ce st T.k=true->passOk (st.length+45) f st T.k stF/\stF.length<=99999000/\∀a∈stF,0<=a/\a<=133):
  Calls Tryz.prog 15 #[.pointer (some ⟨u,0,none⟩),vw T,.string s] w fun e d=>Hl w base u mb st stF T.k (T.f+(jH st (s.extract T.f.toNat T.t.toNat):Nat)) e d:=by
 obtain⟨k,a5,a2,L,al,W⟩:=T;unfold vw;simp only at K I F af N y⊢;obtain⟨c,rfl⟩:=Int.eq_ofNat_of_zero_le F;obtain⟨i,rfl⟩:=Int.eq_ofNat_of_zero_le (show 0<=a2 by omega);simp only[Int.toNat_natCast];obtain⟨o,J⟩:∃o:Nat,jH st (s.extract c i)=o:=⟨_,rfl⟩;rw[J];have a4:=ab J;clear J;have V:=(Below.refl w.heap.size w).alloc (Nat.le_refl _) (.cells #[.int .i64 k,.int .i64 (c:Int),.int .i64 (i:Int),.int .i64 L,.int .i64 al,.string W] 45 (0,0));have X:(w.alloc (.cells #[.int .i64 k,.int .i64 (c:Int),.int .i64 (i:Int),.int .i64 L,.int .i64 al,.string W] 45 (0,0))).heap[w.heap.size]?=_:=heap_alloc_new w _;have C:=h.below V;have a6:u<w.heap.size:=by obtain⟨bn,a3,_⟩:=h.g.ex;exact aj a3
 obtain⟨R,E⟩:=ah (ce st k);have U:=C.may K I E;have n:=vC h M X E C;clear h M X E C;go_in;go_wp2_with fail;refine U.mono ?_;rintro e q ⟨rfl,v⟩;have H:Below w.heap.size w q:=V.trans (v.mono (by simp));have A:=(v.block _ (aj n.out.2.2.1)).trans n.out.2.2.1;have bo:q.cell? ⟨w.heap.size,0,none⟩=some (.int .i64 k):=by rw[cell_of_row _ _ _ _ _ _ A];rfl
 have ak:q.cell? ⟨w.heap.size,1,none⟩=some (.int .i64 (c:Int)):=by rw[cell_of_row _ _ _ _ _ _ A];rfl
 have Y:q.cell? ⟨w.heap.size,2,none⟩=some (.int .i64 (i:Int)):=by rw[cell_of_row _ _ _ _ _ _ A];rfl
 clear U A;cases R with
 |true=>
  obtain⟨O,ao,a0⟩:=y n.out.2.2.2.1;have x:=n.out.2.2.2.2.below v;have ap:=Cl q base u mb st k (st.length+45) f stF x.g x.r x.ok (by omega) (by have:=x.len;omega) K I O;have bd:IntKind.u8.wrap k=k:=by rw[IntKind.wrap_u8];omega
  have bl:=n.out.1.g.lo;clear y x O v;go_wp2_with (go_at_call 33;refine ap.mono ?_;rintro e bk ⟨rfl,ar,av,am,an⟩);go_end0
  exact⟨.inl ⟨n.out.2.2.2.1,rfl,⟨ar,av,a0,ao⟩,(Gp.of_below H).trans am,(H.mono (by omega)).trans an⟩⟩
 |false=>
  have z:Below w.heap.size w q.drew:=H.drew;have Q:=qH q.drew base u mb st (s.extract c i) (n.out.1.below z) (n.out.2.1.below z (Nat.le_refl _)) (by have:=ByteArray.size_extract (a:=s) (b:=c) (e:=i);omega);have a1:(jH st (s.extract c i):Nat)<=s.size:=by
   have:=mX st (s.extract c i);have:=ByteArray.size_extract (a:=s) (b:=c) (e:=i);omega
  rw[a4.out]at Q a1;have hF:(c:Int)<=(i:Int):=af;have bb:(i:Int)<=(s.size:Int):=N;have bh:(0:Int)<=(c:Int):=by omega
  have a8:(0:Int)<=(i:Int):=by omega
  have a9:IntKind.i64.wrap ((c:Int)+(o:Int))=(c:Int)+(o:Int):=by rw[IntKind.wrap_i64];omega
  clear y v F;go_wp2_with fail;refine gM (S:=fun d=>d.cell? ⟨w.heap.size,1,none⟩=some (.int .i64 (c:Int))/\d.cell? ⟨w.heap.size,2,none⟩=some (.int .i64 (i:Int))) (by kernel_rfl) ⟨ak,Y⟩ (fun hS=>?_);refine aA 0 (.pointer (some ⟨w.heap.size,1,none⟩)) rfl rfl (by kernel_rfl) (fun _ _ _=>id) hS (fun d ⟨j,m⟩=>by go_simp) ?_;simp only[List.set];refine aA 1 (.int .i64 (c:Int)) rfl rfl (by kernel_rfl) (fun _ _ _=>id) hS (fun d ⟨j,m⟩=>by go_simp) ?_;simp only[List.set];refine aA 2 (.pointer (some ⟨u,0,none⟩)) rfl rfl (by kernel_rfl) (fun _ _ _=>id) hS (fun d ⟨j,m⟩=>by go_simp) ?_;simp only[List.set];refine aA 3 (.string s) rfl rfl (by kernel_rfl) (fun _ _ _=>id) hS (fun d ⟨j,m⟩=>by go_simp) ?_;simp only[List.set];refine aA 4 (.pointer (some ⟨w.heap.size,1,none⟩)) rfl rfl (by kernel_rfl) (fun _ _ _=>id) hS (fun d ⟨j,m⟩=>by go_simp) ?_;simp only[List.set];refine aA 5 (.int .i64 (c:Int)) rfl rfl (by kernel_rfl) (fun _ _ _=>id) hS (fun d ⟨j,m⟩=>by go_simp) ?_;simp only[List.set];refine aA 6 (.pointer (some ⟨w.heap.size,2,none⟩)) rfl rfl (by kernel_rfl) (fun _ _ _=>id) hS (fun d ⟨j,m⟩=>by go_simp) ?_;simp only[List.set];refine aA 7 (.int .i64 (i:Int)) rfl rfl (by kernel_rfl) (fun _ _ _=>id) hS (fun d ⟨j,m⟩=>by go_simp) ?_;simp only[List.set];refine aA 8 (.string (s.extract c i)) rfl rfl (by kernel_rfl) (fun _ _ _=>id) hS (fun d ⟨j,m⟩=>by go_simp) ?_;simp only[List.set];refine wpAnyH_ready (rs:=[9]) (by kernel_rfl) (by simp) (AllReadyH.cons rfl (fun Z B=>?_) AllReadyH.nil);go_simp;refine Q.mono ?_;rintro e br ⟨rfl,G⟩;refine B.out _ _ ⟨aa G ak,aa G Y⟩ (fun hS=>?_);clear B Z;try simp only[Act.put,List.setIfInBounds_toArray,List.set_cons_zero,List.set_cons_succ]
  refine aA 10 (.int .i64 ((c:Int)+(o:Int))) rfl rfl (by kernel_rfl) (fun _ _ _=>id) hS (fun d ⟨j,m⟩=>by go_simp) ?_;simp only[List.set];refine aA 11 (.agg #[.int .i64 ((c:Int)+(o:Int))]) rfl rfl (by kernel_rfl) (fun _ _ _=>id) hS (fun d ⟨j,m⟩=>by go_simp) ?_;simp only[List.set];refine aA 12 (.iface 39 (.agg #[.int .i64 ((c:Int)+(o:Int))])) rfl rfl (by kernel_rfl) (fun _ _ _=>id) hS (fun d ⟨j,m⟩=>by go_simp) ?_;simp only[List.set];refine wpAnyH_ready (rs:=[13]) (by kernel_rfl) (by simp) (AllReadyH.cons rfl (fun Z B=>?_) AllReadyH.nil);go_simp;exact⟨rfl,⟨.inr ⟨n.out.2.2.2.1,rfl,z.trans (G.mono z.size)⟩⟩⟩
structure dA (s:ByteArray) (R:List Tk×List Int×Int) (st stk:List Int) (p:Nat) (l:Int) (out:List Tk) (f:Nat):Prop where
 sim:pH st stk
 wk:J3 s f stk (blk s (s.size+1) p) l out R
 fu:s.size<blk s (s.size+1) p+f
 len:st.length<=45*p+2
 l0:0<=l
 l1:l<=(p:Int)+1
 le:p<=s.size
 ol:out.length<=p
 n23:N23 stk
theorem dA.move{s:ByteArray}{R:List Tk×List Int×Int}{st stk:List Int}{p q:Nat}{l:Int}{out:List Tk}{f:Nat}(h:dA s R st stk p l out f)(a:blk s (s.size+1) p=blk s (s.size+1) q)(c:p<=q)(b:q<=s.size):dA s R st stk q l out f:=
 ⟨h.sim,by rw[<-a];exact h.wk,by rw[<-a];exact h.fu,by have:=h.len;omega,h.l0,by have:=h.l1;omega,b,by have:=h.ol;omega,h.n23⟩
theorem dA.step{s:ByteArray}{R:List Tk×List Int×Int}{st stk:List Int}{p:Nat}{l:Int}{out:List Tk}{f:Nat}(h:dA s R st stk p l out f)(c:fG s p):∃g,f=g+1/\s.size<p+1+g/\
  (if gX s p=7 then
   (if(feedL stk 5).2=true then kH s g (feedL stk 5).1 (blk s (s.size+1) (rdI s p).a) (l+1) (out++[⟨5,(p:Nat),((rdI s p).a:Nat),l,(rdI s p).n,(rdI s p).x⟩]) else kH s g stk (blk s (s.size+1) (rdI s p).a) (l+1) out)
  else if(mJ stk (gX s p)).2=true then
   (if(rdI s p).ok=true then kH s g (feedL stk (gX s p)).1 (blk s (s.size+1) (rdI s p).a) l (out++[⟨gX s p,(p:Nat),((rdI s p).a:Nat),l,(rdI s p).n,(rdI s p).x⟩]) else([],stk,((rdI s p).a:Nat)))
  else([],stk,(wrongF s p (lG stk):Nat)))=R:=by
 have d:=rA s p c.nb c.nd;have e:=h.fu;have b:=h.wk.out;rw[d]at e b;have i:=c.lt;obtain⟨g,rfl⟩:∃g,f=g+1:=⟨f-1,by omega⟩;rw[kH,if_neg (by omega)]at b;exact⟨g,rfl,by omega,b⟩
theorem CJ{s:ByteArray}{p:Nat}(h:(rdI s p).ok=true):(rdI s p).d=if(rdI s p).k=7 then 1 else 0:=by
 unfold rdI at h⊢;split
 ·simp only;unfold wf;cases hf:jb bj (s.extract p (eo s (s.size+1) p)) 22 0 with
  |none=>simp
  |some k=>simp only;rw[if_neg (by omega)]
 split
 ·split
  ·simp only;unfold kE;split
   ·simp
   ·split<;>simp
  ·rename_i c b a;rw[if_neg c,if_pos b,if_neg a]at h;cases h
 split
 ·split
  ·simp
  ·rename_i c b a e;rw[if_neg c,if_neg b,if_pos a,if_neg e]at h;cases h
 split
 ·rename_i c b a e;rw[if_neg c,if_neg b,if_neg a,if_pos e]at h;cases h
 ·rfl
theorem sd{s:ByteArray}{p:Nat}(h:(rdI s p).ok=true):gX s p=(rdI s p).k:=by unfold gX;rw[if_pos h]
section
variable {s : ByteArray} {R : List Tk × List Int × Int} {st stk : List Int} {p : Nat} {l : Int} {out : List Tk} {f : Nat}
theorem dA.next(h:dA s R st stk p l out f)(k:fG s p)(o:(rdI s p).ok=true){c b:List Int}{e:List Tk}{g:Nat}(w:s.size<p+1+g)(n:pH c b)(u:c.length<=st.length+45)(t:e.length<=out.length+1)(m:N23 b)
  (j:kH s g b (blk s (s.size+1) (rdI s p).a) (l+(rdI s p).d) e=R):dA s R c b (rdI s p).a (l+(rdI s p).d) e g:=by
 obtain⟨q,i,r,z⟩:=fD s p k.lt o;have v:=ir s (s.size+1) (rdI s p).a i;have B:=h.len;have A:=h.l0;have y:=h.l1;have x:=h.ol;exact⟨n,⟨j⟩,by omega,by omega,by omega,by omega,i,by omega,m⟩
theorem dA.sep(h:dA s R st stk p l out f)(j:fG s p)(c:(rdI s p).ok=true)(i:(rdI s p).k=7)(r:ce st 5=true){b:List Int}(o:pH b (feedL stk 5).1)(m:b.length<=st.length+45):
  ∃g,dA s R b (feedL stk 5).1 (rdI s p).a (l+(rdI s p).d) (out++[⟨5,(p:Nat),((rdI s p).a:Nat),l,(rdI s p).n,(rdI s p).x⟩]) g:=by
 obtain⟨g,rfl,q,e⟩:=h.step j;rw[sd c,if_pos i,if_pos (by rw[<-h.sim.may (by decide) (by decide)];exact r)]at e;exact⟨g,h.next j c q o m (by simp) (vT (by decide) (by decide) stk h.sim.o2 h.n23) (by rw[CJ c,if_pos i];exact e)⟩
theorem dA.skip(h:dA s R st stk p l out f)(i:fG s p)(b:(rdI s p).ok=true)(c:(rdI s p).k=7)(m:ce st 5=false):∃g,dA s R st stk (rdI s p).a (l+(rdI s p).d) out g:=by
 obtain⟨g,rfl,j,e⟩:=h.step i;rw[sd b,if_pos c,if_neg (by rw[<-h.sim.may (by decide) (by decide),m];simp)]at e;exact⟨g,h.next i b j h.sim (by omega) (by omega) h.n23 (by rw[CJ b,if_pos c];exact e)⟩
theorem uJ{k:Int}(a:1<=k)(st:List Int):mJ st k=feedL st k:=by unfold mJ;rw[if_pos (by omega)]
theorem dA.tok(h:dA s R st stk p l out f)(m:fG s p)(b:(rdI s p).ok=true)(j:(rdI s p).k≠7)(u:ce st (rdI s p).k=true){c:List Int}(r:pH c (feedL stk (rdI s p).k).1)(q:c.length<=st.length+45):
  ∃g,dA s R c (feedL stk (rdI s p).k).1 (rdI s p).a (l+(rdI s p).d) (out++[⟨(rdI s p).k,(p:Nat),((rdI s p).a:Nat),l,(rdI s p).n,(rdI s p).x⟩]) g:=by
 obtain⟨g,rfl,t,i⟩:=h.step m;obtain⟨e,o⟩:=ul s p b;rw[sd b,if_neg j,uJ e,if_pos (by rw[<-h.sim.may e o];exact u),if_pos b]at i;exact⟨g,h.next m b t r q (by simp) (vT e o stk h.sim.o2 h.n23) (by rw[CJ b,if_neg j,Int.add_zero];exact i)⟩
theorem dA.stop(h:dA s R st stk p l out f)(e:fG s p)(c:(rdI s p).ok=true)(d:(rdI s p).k≠7)(i:ce st (rdI s p).k=false):R.2.2=(wrongF s p (lG stk):Nat):=by
 obtain⟨j,rfl,m,a⟩:=h.step e;obtain⟨b,g⟩:=ul s p c;rw[sd c,if_neg d,uJ b,if_neg (by rw[<-h.sim.may b g,i];simp)]at a;rw[<-a]
theorem dA.bad(h:dA s R st stk p l out f)(d:fG s p)(b:(rdI s p).ok=false):0<=R.2.2:=by
 obtain⟨i,rfl,g,a⟩:=h.step d;have e:¬gX s p=7:=fun c=>by have:=ER s p c;rw[b]at this;cases this.1
 rw[if_neg e]at a;split at a
 ·rw[if_neg (by rw[b];simp)]at a;rw[<-a];simp
 ·rw[<-a];simp
theorem dA.fin(h:dA s R st stk s.size l out f):R=(out++[⟨6,(s.size:Nat),(s.size:Nat),l,0,⟨#[]⟩⟩],stk, -1):=by
 have c:=Ei s s.size (Nat.le_refl _);have d:=h.fu;have a:=h.wk.out;rw[c]at d a;obtain⟨b,rfl⟩:∃b,f=b+1:=⟨f-1,by omega⟩;rw[kH,if_pos (Nat.le_refl _)]at a;exact a.symm
end
theorem dA.begin(s:ByteArray):dA s (du s) [100,6] [100,6] 0 1 [] (s.size+1):=
 ⟨yZ,⟨rfl⟩,by omega,by simp,by omega,by omega,Nat.zero_le _,by simp,by intro b a;simp at a;omega⟩
theorem dA.rng{s:ByteArray}{R:List Tk×List Int×Int}{st stk:List Int}{p:Nat}{l:Int}{out:List Tk}{f:Nat}(h:dA s R st stk p l out f):∀a∈st,0<=a/\a<=133:=fun a b=>by
 have:=of_decide_eq_true (h.sim.o1 a b);omega
structure uK (s:ByteArray) (R:List Tk×List Int×Int) (z:Int):Prop where
 bad:0<=R.2.2
 ex:∃(p:Nat) (st stk:List Int) (l:Int) (out:List Tk) (f:Nat),fG s p/\dA s R st stk p l out f/\z=(p:Int)+(jH st (s.extract p (rdI s p).a):Nat)/\((rdI s p).ok=true->(rdI s p).k≠7/\ce st (rdI s p).k=false)
def Lc(o:Obj):Prop:=(∃d c,o= .map d c)\/(∃e a b,o= .cells e a b/\a≠85)
def fh(W c:World):Prop:=∀(b:Nat)(a:Obj),Lc a->W.heap[b]?=some a->c.heap[b]?=some a
theorem fh.cells{W a:World}(h:fh W a){k:Nat}{cs:Array Value}{t:TypeId}{fr:Nat×Nat}(b:W.heap[k]?=some (.cells cs t fr))(c:t≠85):a.heap[k]?=some (.cells cs t fr):=h k _ (.inr ⟨_,_,_,rfl,c⟩) b
theorem fh.row{W c:World}(h:fh W c){base e size n:Nat}{v:Value}{a:List Value}(b:W.ownsRow base e size v n a)(r:e≠85):c.ownsRow base e size v n a:=by
 refine⟨b.1,?_⟩;rcases b.2 with q|⟨o,k,j,d,g,m,i⟩
 ·exact .inl q
 ·exact .inr ⟨o,k,j,d,g,h.cells m r,i⟩
theorem fh.of_gr{W e:World}{b:Nat}(m:W.grownBy e (some b))(k:Ja b W):fh W e:=by
 intro d r i a;obtain⟨v,t,g⟩:=k;refine(m.block d (aj a) ?_).trans a;intro j;obtain rfl:d=b:=by simpa using j
 rw[g]at a;obtain rfl:=Option.some.inj a;rcases i with⟨o,n,c⟩|⟨u,w,q,c,h⟩
 ·cases c
 ·cases c;exact h rfl
theorem fh.of_put{W:World}{l:Nat}{r:Loop}(e:W.heap[l]?=some (.loop r))(c:Obj):fh W (W.putObj l c):=by
 intro g m d a;refine(World.putObj_heap_other ?_).trans a;rintro rfl;rw[e]at a;obtain rfl:=Option.some.inj a;rcases d with⟨i,h,b⟩|⟨n,o,k,b,j⟩<;>cases b
theorem fh.of_putD{W:World}{l:Nat}{q:Option (List Deferred)}(e:W.heap[l]?=some (.deferred q))(c:Obj):fh W (W.putObj l c):=by
 intro g m d a;refine(World.putObj_heap_other ?_).trans a;rintro rfl;rw[e]at a;obtain rfl:=Option.some.inj a;rcases d with⟨i,h,b⟩|⟨n,o,k,b,j⟩<;>cases b
theorem fh.of_below{W b:World}(h:Below W.heap.size W b):fh W b:=fun c d _ a=>(h.block c (aj a)).trans a
theorem GQ.kept{W e:World}{base d c:Nat}{st:List Int}(h:GQ W base d c st)(a:fh W e):GQ e base d c st:=by
 obtain⟨g,j,i⟩:=h.g.ex;exact⟨⟨⟨g,a.cells j (by decide),a.row i (by decide)⟩,h.g.lo⟩,h.r.same (fun m k b=>a _ _ (.inl ⟨_,_,rfl⟩) b) (fun n q o b=>a.cells b (by decide)),h.ok,h.len⟩
theorem GQ.same{W i:World}{base g d:Nat}{st:List Int}(h:GQ W base g d st)(b:∀(k:Nat) (o:Obj),W.heap[k]?=some o->(∀cs fr,o≠ .cells cs 45 fr)->(∀cs fr,o≠ .cells cs 31 fr)->i.heap[k]?=some o):GQ i base g d st:=by
 obtain⟨u,q,c⟩:=h.g.ex;refine⟨⟨⟨u,b _ _ q (by intro cs fr a;cases a) (by intro cs fr a;cases a),c.1,?_⟩,h.g.lo⟩,h.r.same (fun z y a=>b _ _ a (by intro cs fr a;cases a) (by intro cs fr a;cases a)) (fun e cs fr a=>b _ _ a (by intro cs fr a;cases a) (by intro cs fr a;cases a)),h.ok,h.len⟩;rcases c.2 with x|⟨e,v,t,j,m,w,n⟩
 ·exact .inl x
 ·exact .inr ⟨e,v,t,j,m,b _ _ w (by intro cs fr a;cases a) (by intro cs fr a;cases a),n⟩
structure iH (w:World) (base gb mg tv:Nat) (s:ByteArray) (st:List Int) (out:List Tk) (W:World):Prop where
 q:GQ W base gb mg st
 bl:Below base w W
 b0:W.heap[w.heap.size]?=some (.cells #[.pointer (some ⟨gb,0,none⟩)] 41 (0,0))
 b1:W.heap[w.heap.size+1]?=some (.cells #[.string s] 9 (0,0))
 tk:∃v,W.heap[tv]?=some (.cells #[v] 31 (0,0))/\W.ownsRow w.heap.size 45 6 v out.length (mD out)
theorem iH.kept{w W b:World}{base c d e:Nat}{s:ByteArray}{st:List Int}{out:List Tk}(h:iH w base c d e s st out W)(a:fh W b)(g:Below base W b):iH w base c d e s st out b:=by
 obtain⟨j,i,k⟩:=h.tk;exact⟨h.q.kept a,h.bl.trans g,a.cells h.b0 (by decide),a.cells h.b1 (by decide),⟨j,a.cells i (by decide),a.row k (by decide)⟩⟩
theorem iH.below{w W e:World}{base b c d:Nat}{s:ByteArray}{st:List Int}{out:List Tk}(h:iH w base b c d s st out W)(a:Below W.heap.size W e)(g:base<=W.heap.size):iH w base b c d s st out e:=h.kept (.of_below a) (a.mono g)
theorem iH.turn{w W c:World}{base a d g:Nat}{s:ByteArray}{st j:List Int}{out:List Tk}(h:iH w base a d g s st out W)(k:GQ c base a d j)(b:Gp a W c)(r:Below base W c)(E:a<w.heap.size)(C:w.heap.size<g):iH w base a d g s j out c:=by
 obtain⟨x,u,i⟩:=h.tk;obtain⟨B,t,_⟩:=h.q.g.ex;refine⟨k,h.bl.trans r,dd b h.b0 (by omega) (by decide),dd b h.b1 (by omega) (by decide),⟨x,dd b u (by omega) (by decide),i.1,?_⟩⟩;rcases i.2 with A|⟨z,y,v,m,n,e,o⟩
 ·exact .inl A
 ·refine .inr ⟨z,y,v,m,n,dd b e ?_ (by decide),o⟩;rintro rfl;rw[t]at e;cases e
theorem iH.setTok{w W:World}{base k j g c:Nat}{s:ByteArray}{st:List Int}{out:List Tk}{cs:Array Value}{fr:Nat×Nat}(h:iH w base k j g s st out W)(t:W.heap[c]?=some (.cells cs 45 fr))(n:∀v,W.heap[g]?=some (.cells #[v] 31 (0,0))->v.ownBlock≠some c)(r:base<=c)(u:Value):iH w base k j g s st out (W.setCell ⟨c,0,none⟩ u):=by
 have a:∀(e:Nat)(d:Obj),W.heap[e]?=some d->(∀cs fr,d≠ .cells cs 45 fr)->(W.setCell ⟨c,0,none⟩ u).heap[e]?=some d:=fun e d a q=>(heap_setCell_other _ _ _ _ (by rintro rfl;rw[t]at a;exact q _ _ (Option.some.inj a).symm)).trans a;obtain⟨v,i,m⟩:=h.tk;refine⟨h.q.same (fun e d y x _=>a e d y x),h.bl.setCell r _,a _ _ h.b0 (by intro cs fr b;cases b),a _ _ h.b1 (by intro cs fr b;cases b),⟨v,a _ _ i (by intro cs fr b;cases b),?_⟩⟩;exact World.ownsRow.kept m (row:=some c) ⟨rfl,rfl,rfl,by simp[World.setCell],fun A z o=>heap_setCell_other _ _ _ _ (fun b=>o (by rw[b]))⟩ (.inr (n v i))
theorem Iw.turn{b mb B:Nat}{s:ByteArray}{I:Nat->Int->World->Prop}{W d:World}{p q k:Nat}{l j i:Int}{e base:Nat}{cs:Array Value}{fr:Nat×Nat}(h:Iw b mb B s I W q j p l)(c:W.heap[e]?=some (.cells cs 79 fr))(g:Gp e W d)(y:Below base W d)(z:12<=base)(w:I k i d):Iw b mb B s I d q j k i:=by
 obtain⟨v,m⟩:=h.sc;have x:b≠e:=by rintro rfl;rw[show W.heap[b]?=_ from m]at c;cases c
 refine⟨⟨v,dd g m x (by decide)⟩,?_,h.ly.blocks (fun o A=>y.block o (by omega)),w,Nat.le_trans h.sz g.size⟩;obtain⟨t,r,a,u⟩:=h.mp;exact⟨t,r,(g.block _ (aj a) (by rintro rfl;rw[a]at c;cases c) (fun cs fr n=>by rw[a]at n;cases n)).trans a,u⟩
theorem Iw.below{b mb B:Nat}{s:ByteArray}{I:Nat->Int->World->Prop}{W d:World}{p q i:Nat}{l g e:Int}(h:Iw b mb B s I W q g p l)(a:Below W.heap.size W d)(o:12<=B)(n:I i e d):Iw b mb B s I d q g i e:=by
 obtain⟨m,k⟩:=h.sc;have r:=h.sz;exact⟨⟨m,(a.block _ (aj k)).trans k⟩,h.mp.kept (row:=none) ⟨a.os,a.tape,a.output,a.size,fun c j _=>a.block c j⟩ (by simp),h.ly.blocks (fun c j=>a.block c (by omega)),n,Nat.le_trans h.sz a.size⟩
theorem Iw.put{b mb B a:Nat}{s:ByteArray}{I:Nat->Int->World->Prop}{W:World}{p q:Nat}{l e:Int}{r:Loop}(h:Iw b mb B s I W q e p l)(d:W.heap[a]?=some (.loop r))(o:Obj)(v:12<=a)(t:I p l (W.putObj a o)):Iw b mb B s I (W.putObj a o) q e p l:=by
 obtain⟨m,g⟩:=h.sc;have n:b≠a:=by rintro rfl;rw[show W.heap[b]?=_ from g]at d;cases d
 obtain⟨j,i,c,k⟩:=h.mp;exact⟨⟨m,(World.putObj_heap_other n).trans g⟩,⟨j,i,(World.putObj_heap_other (by rintro rfl;rw[d]at c;cases c)).trans c,k⟩,h.ly.blocks (fun u w=>World.putObj_heap_other (by omega)),t,by simpa using h.sz⟩
theorem xd(s:ByteArray)(p:Nat)(c:p<s.size):p<=(rdI s p).a/\(rdI s p).a<=s.size:=by
 unfold rdI;split
 ·rename_i b;have:=rz s p b;exact⟨by simp only;omega,(jt s _ p (by omega)).2⟩
 split
 ·have:=iL s p c;split<;>(simp only;omega)
 split
 ·have:=ia s (s.size+1) (p+1) [] (by omega);split<;>(simp only;omega)
 split
 ·simp only;omega
 ·rename_i d;have e:=iq s p s.size (Nat.le_refl _);have:=xT (s.extract p s.size) (by omega) d;simp only;omega
theorem zS{n:Nat}{fn:Func}{P:Program}{R:Ending->World->Prop}{tmps:Array Value}{D:Nat}{a:List PanicEntry}{W:World}(b:W.heap[D]?=some (.deferred (some [])))(h:R (.panicked a) (W.putObj D (.deferred none))):LeavesInM Fence.wide n P fn tmps R [{target:= .collected D,args:=#[]}] (.panicking a) W:=
 ⟨by simp,.inl ⟨_,_,rfl,run_takeDeferred b,h⟩⟩
attribute [local go_sem] Oper.semAt_some
theorem Hm(W:World)(b:Nat)(g d c a e h:Value):W.grownBy (ja W b g d c a e h) (some b):=by
 unfold ja;refine dX ?_ (eL _ b 5 _);refine dX ?_ (eL _ b 4 _);refine dX ?_ (eL _ b 3 _);refine dX ?_ (eL _ b 2 _);refine dX ?_ (eL _ b 1 _);exact eL _ b 0 _
theorem yz:(Tryz.prog.info? 45).map (fun i=>(i.zero,i.size,i.bytes))=some (some (.agg #[.int .i64 0,.int .i64 0,.int .i64 0,.int .i64 0,.int .i64 0,.string ⟨#[]⟩]),6,56):=by kernel_rfl
structure J4 (w:World) (gb:Nat) (s:ByteArray) (b mb:Nat) (W:World):Prop where
 bl:Below w.heap.size w W
 b0:W.heap[w.heap.size]?=some (.cells #[.pointer (some ⟨gb,0,none⟩)] 41 (0,0))
 b1:W.heap[w.heap.size+1]?=some (.cells #[.string s] 9 (0,0))
 sc:bO b W s (.map (some mb)) 0 0 1 false
 mp:W.ownsMap Tryz.prog 9 (plainElem (H:=Unit) Tryz.prog 3) mb 22 (kV 22)
 lo:w.heap.size+2<=b
 ne:mb≠b
structure Hn (w:World) (base gb mb:Nat) (s:ByteArray) (R:List Tk×List Int×Int) (e:Ending) (w':World):Prop where
 out:(∃st stk toks l v,R=(toks++[⟨6,(s.size:Nat),(s.size:Nat),l,0,⟨#[]⟩⟩],stk, -1)/\pH st stk/\e= .returned v/\w'.ownsRow w.heap.size 45 6 v toks.length (mD toks)/\GQ w' base gb mb st/\st.length<=45*s.size+2/\toks.length<=s.size/\Below base w w')\/(∃z,uK s R z/\e= .panicked (xc z)/\Below base w w')
theorem se(w:World)(base u bo:Nat)(s:ByteArray)(h:GQ w base u bo [100,6])(i6:tO w)(l9:s.size<=65536)(kt:12<=base):
  Calls Tryz.prog 14 #[.pointer (some ⟨u,0,none⟩),.string s] w fun e A=>Hn w base u bo s (du s) e A:=by
 obtain⟨i2,fr,e9⟩:=i6.tabs.word;have ki:u<w.heap.size:=by obtain⟨O,L,_⟩:=h.g.ex;exact aj L
 have k8:=h.g.lo;refine rV (n:=5) Tryz.func14 rfl ?_;simp only[Tryz.ntmps14,List.size_toArray,List.length_cons,List.length_nil,Nat.reduceAdd,Nat.reduceSub,Array.replicate_succ,Array.replicate_zero,List.push_toArray,List.append_toArray,List.nil_append,List.cons_append];refine gj (fun l6 nn=>gi ?_);go_wp2_with fail;have ev:=((Below.refl w.heap.size w).alloc (Nat.le_refl _) (.cells #[.pointer (some ⟨u,0,none⟩)] 41 (0,0))).alloc (by simp) (.cells #[.string s] 9 (0,0));have g8:((w.alloc (.cells #[.pointer (some ⟨u,0,none⟩)] 41 (0,0))).alloc (.cells #[.string s] 9 (0,0))).heap[w.heap.size]?=some (.cells #[.pointer (some ⟨u,0,none⟩)] 41 (0,0)):=(Below.heap_alloc _ _ _ (by simp)).trans (heap_alloc_new w _);have cw:((w.alloc (.cells #[.pointer (some ⟨u,0,none⟩)] 41 (0,0))).alloc (.cells #[.string s] 9 (0,0))).heap[w.heap.size+1]?=some (.cells #[.string s] 9 (0,0)):=by
  have:=heap_alloc_new (w.alloc (.cells #[.pointer (some ⟨u,0,none⟩)] 41 (0,0))) (.cells #[.string s] 9 (0,0))
  rwa [World.size_alloc]at this
 have fb:((w.alloc (.cells #[.pointer (some ⟨u,0,none⟩)] 41 (0,0))).alloc (.cells #[.string s] 9 (0,0))).heap.size=w.heap.size+2:=by simp
 generalize (w.alloc (.cells #[.pointer (some ⟨u,0,none⟩)] 41 (0,0))).alloc (.cells #[.string s] 9 (0,0))=bh at ev g8 cw fb⊢;refine gj (fun hn he=>?_);have gd:∀(b v:Nat)(W:World),J4 w u s b v W->hn {tmps:=#[.pointer (some ⟨u,0,none⟩),.string s,.pointer (some ⟨w.heap.size,0,none⟩),.pointer (some ⟨w.heap.size+1,0,none⟩),.slice none 0 0,.pointer (some ⟨b,0,none⟩),undef,undef,.string s,.map (some v),.agg #[.string s,.map (some v),.int .i64 0,.int .i64 0,.int .i64 1,.bool false],undef,undef,undef,undef,undef,undef,undef,undef,undef,undef,undef,undef,undef,undef,undef,undef,undef,undef,undef,undef,undef,undef,undef,undef,undef,undef,undef,undef,undef,undef,undef,undef,undef],defers:=[]} W:=by
  intro b v W G;refine he _ _ ?_;clear he;obtain⟨d,g3⟩:=ah W.heap.size;have h7:=aj G.sc;have np:=G.lo;have nl:∀(hf:Fn)(first cap:Array Value)(w:World),(Instr.makeFunc hf first cap).run Tryz.prog w= .ok (.func hf first cap) w:=fun _ _ _ _=>rfl;refine gj (fun no gd=>gi ?_);go_wp2_with fail;refine gj (fun af E=>?_);refine gj (fun lf md=>gi ?_);go_wp2_with fail;refine uD ?_;have ef:=(Below.refl W.heap.size W).alloc (Nat.le_refl _) (.cells #[.slice none 0 0] 31 (0,0));have d8:Below w.heap.size w (W.alloc (.cells #[.slice none 0 0] 31 (0,0))):=G.bl.alloc G.bl.size _;have ek:jA b (W.alloc (.cells #[.slice none 0 0] 31 (0,0))) s (.map (some v)) 0 1 false:=⟨0,(ef.block _ h7).trans G.sc⟩;have ey:=G.mp.alloc (.cells #[.slice none 0 0] 31 (0,0));have ed:iH w base u bo d s [100,6] [] (W.alloc (.cells #[.slice none 0 0] 31 (0,0))):=
   ⟨h.below d8,d8.mono (by omega),(ef.block _ (aj G.b0)).trans G.b0,(ef.block _ (aj G.b1)).trans G.b1,⟨.slice none 0 0,by rw[<-g3];exact heap_alloc_new W _,World.ownsRow_nil _ _ _ _⟩⟩
  have e7:tO (W.alloc (.cells #[.slice none 0 0] 31 (0,0))):=i6.below d8 (Nat.le_refl _);have al:(W.alloc (.cells #[.slice none 0 0] 31 (0,0))).heap.size=d+1:=by simp;omega
  rw[g3]at h7;generalize W.alloc (.cells #[.slice none 0 0] 31 (0,0))=kg at ek ey ed e7 al⊢;have et:=G.ne;clear ef d8 G g3;obtain⟨R,gt⟩:=ah (du s);have e6:=dA.begin s;rw[gt]at e6;obtain⟨I,N⟩:∃I:Nat->Int->World->Prop,I=fun p l c=>∃st stk out f,dA s R st stk p l out f/\iH w base u bo d s st out c:=⟨_,rfl⟩;have eg:Iw b v (d+1) s I kg 0 1 0 1:=⟨ek,ey,e7,by rw[N];exact⟨_,_,_,_,e6,ed⟩,by omega⟩;have fm:∀p l c J,I p l c->Ja b c->c.grownBy J (some b)->I p l J:=by
   intro p l c J h k2 L;rw[N]at h⊢;obtain⟨st,stk,out,f,j,i⟩:=h;exact⟨st,stk,out,f,j,i.kept (.of_gr L k2) ⟨L.os,L.tape,L.output,by have:=i.bl.size;have:=L.size;have:=aj i.b0;omega,fun bx Z=>L.block bx (by have:=aj i.b0;omega) (by simp;omega)⟩⟩
  have gz:∀p k l c,blk s (s.size+1) p=blk s (s.size+1) k->p<=k->k<=s.size->I p l c->I k l c:=by
   intro p k l c en k3 x h;rw[N]at h⊢;obtain⟨st,stk,out,f,j,i⟩:=h;exact⟨st,stk,out,f,j.move en k3 x,i⟩
  have fc:∀p l c,I p l c->0<=l/\l<=(p:Int)+1/\p<=s.size:=by
   intro p l c h;rw[N]at h;obtain⟨st,stk,out,f,j,i⟩:=h;exact⟨j.l0,j.l1,j.le⟩
  have cP:∀{c:World}{k p:Nat}{g4 l:Int}{ds:Loop}(z:Obj),Iw b v (d+1) s I c k g4 p l->c.heap[d+1+1]?=some (.loop ds)->Iw b v (d+1) s I (c.putObj (d+1+1) z) k g4 p l:=by
   intro c k p g4 l ds z h V;refine h.put V z (by omega) ?_;have C:=h.ii;rw[N]at C⊢;obtain⟨st,stk,out,f,j,i⟩:=C;refine⟨st,stk,out,f,j,i.kept (.of_put V z) ?_⟩;exact(Below.refl base c).grown (grownBy_putObj' c (d+1+1) z) (by have:=h.sz;omega) (fun em e=>by cases e;omega)
  refine EZ (P:=Tryz.prog) (α:=Nat×Int) (n:=5) Tryz.func14 (gf:=30) (bd:=#[.pointer (some ⟨b,0,none⟩)]) rfl (enters_of Tryz.func30 (by kernel_rfl) rfl) (fun g=>#[vw ⟨(rdI s g.1).k,(g.1:Int),((rdI s g.1).a:Int),g.2,(rdI s g.1).n,(rdI s g.1).x⟩]) (fun _=>rfl)
   (fun g c=>fG s g.1/\(rdI s g.1).ok=true/\Iw b v (d+1) s I c (rdI s g.1).a (g.2+(rdI s g.1).d) g.1 g.2)
   (fun g c=>Iw b v (d+1) s I c (rdI s g.1).a (g.2+(rdI s g.1).d) (rdI s g.1).a (g.2+(rdI s g.1).d))
   (fun g fa c=>(fG s g.1/\(rdI s g.1).ok=true/\Iw b v (d+1) s I c (rdI s g.1).a (g.2+(rdI s g.1).d) g.1 g.2)/\∃B,d+1<=B/\(∀O,c.heap[d]?=some (.cells #[O] 31 (0,0))->O.ownBlock≠some B)/\aO B c (rdI s g.1).k (g.1:Int) ((rdI s g.1).a:Int) g.2 (rdI s g.1).n (rdI s g.1).x/\
    fa={tmps:=#[.pointer (some ⟨u,0,none⟩),.string s,.pointer (some ⟨w.heap.size,0,none⟩),.pointer (some ⟨w.heap.size+1,0,none⟩),.slice none 0 0,.pointer (some ⟨b,0,none⟩),.pointer (some ⟨d,0,none⟩),.pointer (some ⟨B,0,none⟩),.string s,.map (some v),.agg #[.string s,.map (some v),.int .i64 0,.int .i64 0,.int .i64 1,.bool false],.func (.func 30) #[.pointer (some ⟨b,0,none⟩)] #[],vw ⟨(rdI s g.1).k,(g.1:Int),((rdI s g.1).a:Int),g.2,(rdI s g.1).n,(rdI s g.1).x⟩,undef,undef,undef,undef,undef,undef,undef,undef,undef,undef,undef,undef,undef,undef,undef,undef,undef,undef,undef,undef,undef,undef,undef,undef,undef,undef,undef,undef,undef,undef,undef],defers:=[]})
   (fun c=>yw b v (d+1) s I c)
   (fun bt c=>∃K,uK s R K/\bt=xc K/\Below base w c)
   ?pZ ?pAx ?pD ?assign ?body ?seq ?done ?pan
  case pZ=>
   rintro g c ds z h V;rw[al]at V⊢;exact cP z h V
  case pAx=>
   rintro g fa c ds z ⟨⟨j,i,br⟩,B,fz,ea,hH,kj⟩ V;rw[al]at V⊢;exact⟨⟨j,i,cP z br V⟩,B,fz,fun O cl=>ea O ((World.putObj_heap_other (by omega)).symm.trans cl),(World.putObj_heap_other (by rintro rfl;have:=(show c.heap[d+1+1]?=_ from hH).symm.trans V;cases this)).trans hH,kj⟩
  case pD=>
   rintro c ds z h V;rw[al]at V⊢;cases h with
   |fin l h=>exact .fin l (cP z h V)
   |bad p l cI c9 hS d7 d6 C=>
    refine .bad p l cI c9 ((World.putObj_heap_other (by omega)).trans hS) (d7.blocks (fun bx Z=>World.putObj_heap_other (by omega))) (by simpa using d6) ?_;rw[N]at C⊢;obtain⟨st,stk,out,f,j,i⟩:=C;refine⟨st,stk,out,f,j,i.kept (.of_put V z) ?_⟩;exact(Below.refl base c).grown (grownBy_putObj' c (d+1+1) z) (by omega) (fun em e=>by cases e;omega)
  case assign=>
   rintro l ⟨p,o⟩ c mk ⟨j,i,br⟩ gp;unfold vw at gp⊢;simp only at j i br gp⊢;have m:=cS j i br;clear j i br
   gi_wp2
   have h8:=(Below.refl c.heap.size c).alloc (Nat.le_refl _) (.cells #[.int .i64 (rdI s p).k,.int .i64 (p:Int),.int .i64 ((rdI s p).a:Int),.int .i64 o,.int .i64 (rdI s p).n,.string (rdI s p).x] 45 (0,0));refine gp _ _ ⟨⟨m.out.1,m.out.2.1,Iw.below m.out.2.2 h8 (by omega) ?_⟩,c.heap.size,m.out.2.2.sz,fun O cl=>?_,heap_alloc_new c _,rfl⟩ ((KeepsOthers.alloc c _).from _);all_goals
    have C:=m.out.2.2.ii;have d6:=m.out.2.2.sz;rw[N]at C;obtain⟨st,stk,out,f,j,i⟩:=C
   ·rw[N];exact⟨st,stk,out,f,j,i.below h8 (by omega)⟩
   ·obtain⟨l8,bE,bN⟩:=i.tk;rw[Below.heap_alloc c _ d (by omega),bE]at cl;cases cl;intro e;have:=(bN.lt _ e).2;omega
  case body=>
   rintro l ⟨p,o⟩ fa c ⟨⟨bA,b4,ak⟩,B,m3,ea,a1,rfl⟩;rw[al];unfold vw;simp only at bA b4 ak a1⊢;have C:=ak.ii;rw[N]at C;obtain⟨st,stk,out,f,bk,cm⟩:=C;obtain⟨i7,hN⟩:=ul s p b4;obtain⟨kv,k4,kd,ke⟩:=fD s p bA.lt b4;have i9:=ak.sz;have bn:=fun (Z:(rdI s p).k=7) (y:ce st 5=true) bw (j:pH bw (feedL stk 5).1) (i:bw.length<=st.length+45)=>bk.sep bA b4 Z y j i;have b8:=fun (Z:(rdI s p).k=7) (y:ce st 5=false)=>bk.skip bA b4 Z y;have ao:=fun (Z:(rdI s p).k≠7) (y:ce st (rdI s p).k=true) bw (j:pH bw (feedL stk (rdI s p).k).1) (i:bw.length<=st.length+45)=>bk.tok bA b4 Z y j i;have bD:(rdI s p).k≠7->ce st (rdI s p).k=false->uK s R ((p:Int)+(jH st (s.extract p (rdI s p).a):Nat)):=fun Z y=>⟨by rw[bk.stop bA b4 Z y];omega,p,st,stk,o,out,f,bA,bk,rfl,fun _=>⟨Z,y⟩⟩;have mt:=bk.len;have l4:=bk.le;have j6:=bk.ol;have kk:=bk.sim;have m4:=bA.lt;generalize (rdI s p).k=bx at a1 i7 hN bn b8 ao bD⊢;generalize (rdI s p).a=q at a1 kv k4 ak bn b8 ao bD⊢;generalize (rdI s p).d=ca at kd ke ak bn b8 ao⊢;generalize (rdI s p).n=U at a1 bn ao⊢;generalize (rdI s p).x=Y at a1 bn ao⊢;clear bk b4 bA;refine wpIn_block ?_;refine wpIn_seq_k (fun gr fo=>?_);have dn:∀(F:Int)(J:World)(a2 a0 a3 a7 a5 bb a9:Value),1<=F->F<=78->KeepsFrom (d+1) c J->Iw b v (d+1) s (fun _ _ _=>True) J q (o+ca) p o->iH w base u bo d s st out J->d+1<=J.heap.size->aO B J F (p:Int) (q:Int) o U Y->
     (ce st F=true->∀bw,pH bw (feedL stk F).1->bw.length<=st.length+45->∃f8,dA s R bw (feedL stk F).1 q (o+ca) (out++[⟨F,(p:Nat),(q:Nat),o,U,Y⟩]) f8)->
     (ce st F=false->uK s R ((p:Int)+(jH st (s.extract p q):Nat)))->
     gr {tmps:=#[.pointer (some ⟨u,0,none⟩),.string s,.pointer (some ⟨w.heap.size,0,none⟩),.pointer (some ⟨w.heap.size+1,0,none⟩),.slice none 0 0,.pointer (some ⟨b,0,none⟩),.pointer (some ⟨d,0,none⟩),.pointer (some ⟨B,0,none⟩),.string s,.map (some v),.agg #[.string s,.map (some v),.int .i64 0,.int .i64 0,.int .i64 1,.bool false],.func (.func 30) #[.pointer (some ⟨b,0,none⟩)] #[],.agg #[.int .i64 bx,.int .i64 (p:Int),.int .i64 (q:Int),.int .i64 o,.int .i64 U,.string Y],a2,a0,a3,a7,a5,bb,a9,undef,undef,undef,undef,undef,undef,undef,undef,undef,undef,undef,undef,undef,undef,undef,undef,undef,undef,undef,undef,undef,undef,undef,undef],defers:=[]} J:=by
    intro F J a2 a0 a3 a7 a5 bb a9 i1 j0 fB cn ck mx cb ao bD;refine fo _ _ ?_;clear fo;have c7:=aM ck.b0;have ei:=aM ck.b1;obtain⟨fk,bE,bN,ff,g0,g6,g1⟩:=aw cb;obtain⟨stF,g9,df⟩:∃stF g9,ce st F=true->passOk (st.length+45) g9 st F stF/\stF.length<=st.length+45/\pH stF (feedL stk F).1:=by
     by_cases y:ce st F=true
     ·obtain⟨z,b2,kS⟩:=kk.passOk i1 j0 y;exact⟨z,_,fun _=>⟨b2,jF b2,kS⟩⟩
     ·exact⟨[],0,fun e=>absurd e y⟩
    have d9:=CallsIn.inRound l (callsIn_wide (n:=2).2 (qI J base u bo st stF ⟨F,(p:Int),(q:Int),o,U,Y⟩ s g9 ck.q cn.ly.tabs (by omega) i1 j0 (by simp only;omega) (by simp only;omega) (by simp only;omega) (fun e=>⟨(df e).1,by have:=(df e).2.1;omega,fun a cr=>by have:=of_decide_eq_true ((df e).2.2.o1 a cr);omega⟩)));unfold vw at d9;simp only[Int.toNat_natCast]at d9
    gi_wp2_with (refine⟨trivial,?_⟩;gi_at_call 15;fail)
    refine⟨trivial,d9.mono ?_⟩;rintro e r ⟨(⟨y,rfl,h0,dq,M⟩|⟨y,rfl,M⟩)⟩
    ·obtain⟨_,kn,kx⟩:=df y;obtain⟨f8,hV⟩:=ao y stF kx kn;obtain⟨nj,hJ,_⟩:=ck.q.g.ex;have b7:=ck.turn h0 dq M ki (by omega);have a6:aO B r F (p:Int) (q:Int) o U Y:=dd dq cb (by omega) (by decide);have a8:Iw b v (d+1) s (fun _ _ _=>True) r q (o+ca) p o:=Iw.turn (I:=fun _ _ _=>True) (p:=p) (l:=o) ⟨cn.sc,cn.mp,cn.ly,trivial,cn.sz⟩ hJ dq M kt trivial;have b9:KeepsFrom (d+1) c r:=fB.trans (FU hJ dq);obtain⟨O,c5,cT⟩:=b7.tk;obtain⟨hZ,hT,rfl⟩:=aB cT;have j8:=aM c5;have m2:r.frozen? ⟨d,0,none⟩=false:=frozen_of_row _ _ _ _ _ c5;obtain⟨ml,ns,mf,lq,nf,lD,nm⟩:=aw a6;obtain⟨ka,kM,kz,j5,kl⟩:=info_parts yz;obtain⟨on,f5⟩:=ah out.length;rw[f5]at c5 cT j8 j6;have l3:d+1<=r.heap.size:=a8.sz;have f9:∀k,(Value.slice hZ on hT).ownBlock=some k->w.heap.size<=k/\∃cs fr,r.heap[k]?=some (.cells cs 45 fr):=fun k x=>by
      refine⟨(cT.lt k x).1,?_⟩;rcases cT.2 with⟨b6,_⟩|⟨i8,kc,kI,b6,_,c8,_⟩
      ·rw[b6]at x;cases x
      ·rw[b6]at x;obtain rfl:i8=k:=by simpa [Value.ownBlock] using x
       exact⟨_,_,c8⟩
     have m:=F9 hV b7 a8 b9 c5 f5;clear hV b7 a8 b9 c5 f5 d9 df h0 dq M ck cn fB cb ao bD c7 ei fk bE bN ff g0 g6 g1 a6
     gi_wp2_with (gi_at_builtin;refine wpListIn_append_own _ rfl _ _ 31 rfl w.heap.size 45 ka _ 6 56 Tryz.underlying31 kM kz j5 kl rfl (by decide) _ _ _ rfl (cT.alloc _) ⟨r.heap.size,0,none⟩ 1 1 [.int .i64 F,.int .i64 (p:Int),.int .i64 (q:Int),.int .i64 o,.int .i64 U,.string Y] rfl rfl (World.news_of_block (cs:=#[.int .i64 F,.int .i64 (p:Int),.int .i64 (q:Int),.int .i64 o,.int .i64 U,.string Y]) (fr:=(0,0)) (heap_alloc_new r _)) (by intro lx i3;simp at i3;rcases i3 with rfl|rfl|rfl|rfl|rfl|rfl<;>rfl) (by unfold maxLen;omega) (by omega) (by simp;omega) ?_;intro m7 cq fu e8 _;obtain⟨el,gv,rfl⟩:=ownsRow_succ fu;have eb:cq.heap[d]?=some (.cells #[.slice hZ on hT] 31 (0,0)):=(e8.block d (by simp;omega) (fun e=>by obtain⟨_,cs,fr,b5⟩:=f9 d e.symm;rw[m.out.2.2.2.2.1]at b5;cases b5)).trans ((Below.heap_alloc _ _ _ (by omega)).trans m.out.2.2.2.2.1);have lv:=aM eb;have mv:cq.frozen? ⟨d,0,none⟩=false:=frozen_of_row _ _ _ _ _ eb)
     have b3:∀(k:Nat)(z:Obj),r.heap[k]?=some z->(∀cs fr,z≠ .cells cs 45 fr)->k≠d->(cq.setCell ⟨d,0,none⟩ (.slice (some ⟨el,0,none⟩) (on+1) gv)).heap[k]?=some z:=fun k z x b2 et=>by
      refine(heap_setCell_other _ _ _ _ et).trans ((e8.block k (by simp;have:=aj x;omega) (fun e=>?_)).trans ((Below.heap_alloc _ _ _ (aj x)).trans x));obtain⟨_,cs,fr,b5⟩:=f9 k e.symm;rw[x]at b5;exact b2 cs fr (Option.some.inj b5)
     have lb:r.heap.size<=cq.heap.size:=by have:=e8.size;simp at this;omega
     have hC:Below base r (cq.setCell ⟨d,0,none⟩ (.slice (some ⟨el,0,none⟩) (on+1) gv)):=by
      have j4:Below base r (r.alloc (.cells #[.int .i64 F,.int .i64 (p:Int),.int .i64 (q:Int),.int .i64 o,.int .i64 U,.string Y] 45)):=(Below.refl _ r).alloc (by omega) _;exact(j4.grown e8 (by simp;omega) (fun k x=>by have:=(f9 k x).1;omega)).setCell (by show base<=d;omega) _
     have kh:iH w base u bo d s stF (out++[⟨F,(p:Nat),(q:Nat),o,U,Y⟩]) (cq.setCell ⟨d,0,none⟩ (.slice (some ⟨el,0,none⟩) (on+1) gv)):=by
      have cr:=m.out.2.1;refine⟨cr.q.same (fun k z x j i=>b3 k z x j (by rintro rfl;rw[m.out.2.2.2.2.1]at x;exact i _ _ (Option.some.inj x).symm)),cr.bl.trans hC,b3 _ _ cr.b0 (by intro cs fr e;cases e) (by omega),b3 _ _ cr.b1 (by intro cs fr e;cases e) (by omega),⟨_,heap_setCell_same _ _ 0 _ _ _ eb,?_⟩⟩;rw[List.length_append,m.out.2.2.2.2.2,hU];refine World.ownsRow.kept fu (row:=some d) ⟨rfl,rfl,rfl,by simp[World.setCell],fun k x et=>heap_setCell_other _ _ _ _ (fun e=>et (by rw[e]))⟩ (.inr ?_);intro e;have b5:el=d:=by simpa [Value.ownBlock] using e
      subst b5;rcases fu.2 with⟨b6,_⟩|⟨i8,kc,kI,b6,_,c8,_⟩
      ·cases b6
      ·cases b6;rw[eb]at c8;cases c8
     refine⟨m.out.2.2.2.1.trans ?_,?_⟩
     ·exact⟨by simp[World.setCell];omega,fun k z _ x b2=>b3 k z x (fun cs fr e=>by rw[e]at b2;cases b2) (by rintro rfl;rw[m.out.2.2.2.2.1]at x;obtain rfl:=Option.some.inj x;cases b2)⟩
     ·obtain⟨gn,g7⟩:=m.out.2.2.1.sc;obtain⟨fg,fd,cf,g5⟩:=m.out.2.2.1.mp;refine⟨⟨gn,b3 _ _ g7 (by intro cs fr e;cases e) (by omega)⟩,⟨fg,fd,b3 _ _ cf (by intro cs fr e;cases e) (by rintro rfl;rw[m.out.2.2.2.2.1]at cf;cases cf),g5⟩,m.out.2.2.1.ly.blocks (fun k x=>hC.block k (by omega)),?_,by simp[World.setCell];omega⟩;rw[N];exact⟨_,_,_,_,m.out.1,kh⟩
    ·refine⟨rfl,fB.trans (kJ M),_,bD y,rfl,ck.bl.trans (M.mono (by omega))⟩
   clear fo;obtain⟨fk,bE,bN,ff,g0,g6,g1⟩:=aw a1;by_cases eq:bx=7
   ·subst eq;obtain⟨j3,fq⟩:=ah (ce st 5);have hM:=CallsIn.inRound l (callsIn_wide (n:=2).2 (cm.q.may (t:=5) (by decide) (by decide) fq));have c7:=aM cm.b0;have m:=sJ cm ak fq a1;clear cm ak fq a1 ao bD
    gi_wp2_with (refine⟨trivial,?_⟩;gi_at_call 31;fail)
    refine⟨trivial,hM.mono ?_⟩;rintro e r ⟨rfl,M⟩;have b7:=m.out.1.below M (by omega);have a6:aO B r 7 (p:Int) (q:Int) o U Y:=(M.block _ (aj m.out.2.2.2)).trans m.out.2.2.2;have z0:r.cell? ⟨B,0,none⟩=some (.int .i64 7):=(aw a6).1;have ls:r.frozen? ⟨B,0,none⟩=false:=(aw a6).2.2.2.2.2.2 0;have b9:KeepsFrom (d+1) c r:=kJ M;clear hM c7 fk bE bN ff g0 g6 g1;cases j3 with
    |false=>
     obtain⟨f8,L⟩:=b8 trivial m.out.2.2.1;have a4:Hid (KeepsFrom (d+1) c r/\Iw b v (d+1) s I r q (o+ca) q (o+ca)):=⟨b9,Iw.below m.out.2.1 M (by omega) (by rw[N];exact⟨_,_,_,_,L,b7⟩)⟩;clear dn bn b8 L b7 a6 b9 m M
     gi_wp2
     exact a4.out
    |true=>
     have hh:∀O,r.heap[d]?=some (.cells #[O] 31 (0,0))->O.ownBlock≠some B:=fun O cl=>ea O ((M.block _ (by omega)).symm.trans cl);have dk:iH w base u bo d s st out (r.setCell ⟨B,0,none⟩ (.int .i64 5)):=b7.setTok a6 hh (by omega) _;have hj:aO B (r.setCell ⟨B,0,none⟩ (.int .i64 5)) 5 (p:Int) (q:Int) o U Y:=heap_setCell_same _ _ 0 _ _ _ a6;have a8:Iw b v (d+1) s (fun _ _ _=>True) r q (o+ca) p o:=Iw.below (I:=fun _ _ _=>True) (p:=p) (l:=o) ⟨m.out.2.1.sc,m.out.2.1.mp,m.out.2.1.ly,trivial,m.out.2.1.sz⟩ M (by omega) trivial;have hw:Iw b v (d+1) s (fun _ _ _=>True) (r.setCell ⟨B,0,none⟩ (.int .i64 5)) q (o+ca) p o:=by
      obtain⟨gn,g7⟩:=a8.sc;obtain⟨fg,fd,cf,g5⟩:=a8.mp;exact⟨⟨gn,(heap_setCell_other _ _ _ _ (by show b≠B;omega)).trans g7⟩,⟨fg,fd,(heap_setCell_other _ _ _ _ (by rintro rfl;rw[show r.heap[_]?=_ from a6]at cf;cases cf)).trans cf,g5⟩,a8.ly.blocks (fun k x=>heap_setCell_other _ _ _ _ (by show k≠B;omega)),trivial,by simp[World.setCell];exact a8.sz⟩
     have ge:Hid (∀(a2 a0 a3 a7 a5 bb a9:Value),gr {tmps:=#[.pointer (some ⟨u,0,none⟩),.string s,.pointer (some ⟨w.heap.size,0,none⟩),.pointer (some ⟨w.heap.size+1,0,none⟩),.slice none 0 0,.pointer (some ⟨b,0,none⟩),.pointer (some ⟨d,0,none⟩),.pointer (some ⟨B,0,none⟩),.string s,.map (some v),.agg #[.string s,.map (some v),.int .i64 0,.int .i64 0,.int .i64 1,.bool false],.func (.func 30) #[.pointer (some ⟨b,0,none⟩)] #[],.agg #[.int .i64 7,.int .i64 (p:Int),.int .i64 (q:Int),.int .i64 o,.int .i64 U,.string Y],a2,a0,a3,a7,a5,bb,a9,undef,undef,undef,undef,undef,undef,undef,undef,undef,undef,undef,undef,undef,undef,undef,undef,undef,undef,undef,undef,undef,undef,undef,undef],defers:=[]} (r.setCell ⟨B,0,none⟩ (.int .i64 5))):=fun a2 a0 a3 a7 a5 bb a9=>dn 5 _ a2 a0 a3 a7 a5 bb a9 (by decide) (by decide) (b9.trans ((KeepsOthers.setCell _ _ _).from _)) hw dk (by simp[World.setCell];exact a8.sz) hj (fun y=>bn trivial y) (fun y=>by rw[m.out.2.2.1]at y;cases y);clear dn bn b8 b7 a6 b9 m M hh dk hj a8 hw ea
     gi_wp2
     exact ge.out _ _ _ _ _ _ _
   ·have m6:(bx==7)=false:=by rw[beq_eq_false_iff_ne];exact eq
    have ge:Hid (∀(a2 a0 a3 a7 a5 bb a9:Value),gr {tmps:=#[.pointer (some ⟨u,0,none⟩),.string s,.pointer (some ⟨w.heap.size,0,none⟩),.pointer (some ⟨w.heap.size+1,0,none⟩),.slice none 0 0,.pointer (some ⟨b,0,none⟩),.pointer (some ⟨d,0,none⟩),.pointer (some ⟨B,0,none⟩),.string s,.map (some v),.agg #[.string s,.map (some v),.int .i64 0,.int .i64 0,.int .i64 1,.bool false],.func (.func 30) #[.pointer (some ⟨b,0,none⟩)] #[],.agg #[.int .i64 bx,.int .i64 (p:Int),.int .i64 (q:Int),.int .i64 o,.int .i64 U,.string Y],a2,a0,a3,a7,a5,bb,a9,undef,undef,undef,undef,undef,undef,undef,undef,undef,undef,undef,undef,undef,undef,undef,undef,undef,undef,undef,undef,undef,undef,undef,undef],defers:=[]} c):=fun a2 a0 a3 a7 a5 bb a9=>dn bx c a2 a0 a3 a7 a5 bb a9 i7 hN (KeepsFrom.refl _ _) ⟨ak.sc,ak.mp,ak.ly,trivial,ak.sz⟩ cm (by omega) a1 (fun y=>ao eq y) (fun y=>bD eq y);clear dn ao bD bn b8 cm ak a1
    gi_wp2
    exact ge.out _ _ _ _ _ _ _
  case seq=>
   rintro l ks hO dk c b3 fA i9;rw[al]at hO fA i9 dk⊢;refine(zR 4 l b v (d+1) s (by omega) (by omega) (by omega) (by omega) I fm gz fc ks hO (fun bt c=>(∃K,uK s R K/\bt=xc K/\Below base w c)/\c.heap[d+1]?=some (.deferred (some []))) (fun p o c j i br fz=>(dk (p,o) c ⟨j,i,br⟩ fz)) c 0 1 ?_ b3).mono ?_
   ·refine Iw.below eg (by rw[al];exact fA) (by omega) ?_;have C:=eg.ii;rw[N]at C⊢;obtain⟨st,stk,out,f,j,i⟩:=C;exact⟨st,stk,out,f,j,i.below (by rw[al];exact fA) (by omega)⟩
   ·rintro e la (h|⟨bt,j,i,br⟩)
    ·exact .inl h
    ·exact .inr ⟨bt,j,i,br⟩
  case done=>
   rintro c h bs;rw[al]at bs⊢;refine E _ _ (gi ?_);clear E;rw[gt];cases h with
   |fin l h=>
    have C:=h.ii;rw[N]at C;obtain⟨st,stk,out,f,j,i⟩:=C;obtain⟨O,bE,bN⟩:=i.tk;obtain⟨c7,f7,ep,kw,k6,k5,j7,kb⟩:=jA.cells h.sc;have m1:=aM bE;have a4:=cS j i bN;clear j i bE bN h fm gz fc cP eg e6 ed ek ey e7;go_wp2_with fail;refine⟨by simp,.inl ⟨_,_,rfl,run_takeDeferred bs,?_⟩⟩;have Z:=fh.of_putD bs (.deferred none);refine⟨_,results_tmp rfl _ _ _,⟨.inl ⟨st,stk,out,l,O,a4.out.1.fin,a4.out.1.sim,rfl,Z.row a4.out.2.2 (by decide),a4.out.2.1.q.kept Z,a4.out.1.len,a4.out.1.ol,?_⟩⟩⟩;exact a4.out.2.1.bl.grown (grownBy_putObj' c (d+1) (.deferred none)) (by have:=a4.out.2.1.bl.size;have:=aj bs;omega) (fun em e=>by cases e;omega)
   |bad p l cI c9 hS d7 d6 C=>
    rw[N]at C;obtain⟨st,stk,out,f,j,i⟩:=C;obtain⟨c7,f7,ep,kw,k6,k5,j7,kb⟩:=bB hS;obtain⟨i5,m0⟩:=qR hS;have hE:=aM i.b0;have ei:=aM i.b1;clear fm gz fc cP eg e6 ed ek ey e7;obtain⟨j9,ky⟩:=xd s p cI.lt;have kA:base<=c.heap.size:=by have:=i.bl.size;omega
    have hc:Below c.heap.size c c.drew:=(Below.refl _ c).drew;have j1:fV c.drew:=(d7.tabs.below hc (Nat.le_refl _));have hX:(s.extract p (rdI s p).a).size<=1100000:=by have:=ByteArray.size_extract (a:=s) (b:=p) (e:=(rdI s p).a);omega
    have f6:=qH c.drew base u bo st (s.extract p (rdI s p).a) (i.q.below hc) j1 hX;have ko:(jH st (s.extract p (rdI s p).a):Nat)<=s.size:=by
     have:=mX st (s.extract p (rdI s p).a);have:=ByteArray.size_extract (a:=s) (b:=p) (e:=(rdI s p).a);omega
    obtain⟨K,gm⟩:∃K:Nat,jH st (s.extract p (rdI s p).a)=K:=⟨_,rfl⟩;have kq:Hid (uK s R ((p:Int)+(K:Nat))):=⟨j.bad cI c9,p,st,stk,l,out,f,cI,j,by rw[gm],fun e=>by rw[c9]at e;cases e⟩;have cN:=cS i.bl bs kA;rw[gm]at f6 ko;obtain⟨q,hQ⟩:∃q:Nat,(rdI s p).a=q:=⟨_,rfl⟩;rw[hQ]at ep f6 j9 ky;have nb:(p:Int)<=(q:Int):=by omega
    have lz:(q:Int)<=(s.size:Int):=by omega
    have k9:(0:Int)<=(p:Int):=by omega
    have m5:(0:Int)<=(q:Int):=by omega
    have nk:IntKind.i64.wrap ((p:Int)+(K:Int))=(p:Int)+(K:Int):=by rw[IntKind.wrap_i64];omega
    clear gm hQ j i hS d7 hX j1 c9;go_wp2_with fail;refine Code.wp_mono (Q:=Ha [{target:= .collected (d+1),args:=#[]}] (fun bt J=>bt=xc ((p:Int)+(K:Nat))/\Below c.heap.size c J)) (fun e a J h=>?_) ?_
    ·cases e with
     |panic bt=>
      obtain⟨kf,rfl,cb⟩:=h;show LeavesInM _ _ _ _ _ _ a.defers (.panicking _) J;rw[kf];have kp:=(cb.block _ (aj cN.out.2.1)).trans cN.out.2.1;refine zS kp ⟨.inr ⟨_,kq.out,rfl,?_⟩⟩;have j2:=cN.out.1.trans (cb.mono cN.out.2.2);exact j2.grown (grownBy_putObj' J (d+1) (.deferred none)) (by have:=cb.size;have:=cN.out.2.2;have:=k8;omega) (fun em e=>by cases e;omega)
     |_=>exact h.elim
    refine gM (S:=fun A=>A.cell? ⟨b,2,none⟩=some (.int .i64 (p:Int))/\A.cell? ⟨b,3,none⟩=some (.int .i64 (q:Int))/\A.cell? ⟨w.heap.size,0,none⟩=some (.pointer (some ⟨u,0,none⟩))/\A.cell? ⟨w.heap.size+1,0,none⟩=some (.string s)) (by kernel_rfl) ⟨i5,ep,hE,ei⟩ (fun X=>?_);refine aA 0 (.pointer (some ⟨b,2,none⟩)) rfl rfl (by kernel_rfl) (fun _ _ _=>id) X (fun A ⟨ap,ar,av,an⟩=>by go_simp) ?_;simp only[List.set];refine aA 1 (.int .i64 (p:Int)) rfl rfl (by kernel_rfl) (fun _ _ _=>id) X (fun A ⟨ap,ar,av,an⟩=>by go_simp) ?_;simp only[List.set];refine aA 2 (.pointer (some ⟨u,0,none⟩)) rfl rfl (by kernel_rfl) (fun _ _ _=>id) X (fun A ⟨ap,ar,av,an⟩=>by go_simp) ?_;simp only[List.set];refine aA 3 (.string s) rfl rfl (by kernel_rfl) (fun _ _ _=>id) X (fun A ⟨ap,ar,av,an⟩=>by go_simp) ?_;simp only[List.set];refine aA 4 (.pointer (some ⟨b,2,none⟩)) rfl rfl (by kernel_rfl) (fun _ _ _=>id) X (fun A ⟨ap,ar,av,an⟩=>by go_simp) ?_;simp only[List.set];refine aA 5 (.int .i64 (p:Int)) rfl rfl (by kernel_rfl) (fun _ _ _=>id) X (fun A ⟨ap,ar,av,an⟩=>by go_simp) ?_;simp only[List.set];refine aA 6 (.pointer (some ⟨b,3,none⟩)) rfl rfl (by kernel_rfl) (fun _ _ _=>id) X (fun A ⟨ap,ar,av,an⟩=>by go_simp) ?_;simp only[List.set];refine aA 7 (.int .i64 (q:Int)) rfl rfl (by kernel_rfl) (fun _ _ _=>id) X (fun A ⟨ap,ar,av,an⟩=>by go_simp) ?_;simp only[List.set];refine aA 8 (.string (s.extract p q)) rfl rfl (by kernel_rfl) (fun _ _ _=>id) X (fun A ⟨ap,ar,av,an⟩=>by go_simp) ?_;simp only[List.set];refine wpAnyH_ready (rs:=[9]) (by kernel_rfl) (by simp) (AllReadyH.cons rfl (fun i4 gu=>?_) AllReadyH.nil);go_simp;refine f6.mono ?_;rintro e lc ⟨rfl,cz⟩;refine gu.out _ _ ⟨aa cz i5,aa cz ep,aa cz hE,aa cz ei⟩ (fun X=>?_);clear gu i4;try simp only[Act.put,List.setIfInBounds_toArray,List.set_cons_zero,List.set_cons_succ]
    refine aA 10 (.int .i64 ((p:Int)+(K:Int))) rfl rfl (by kernel_rfl) (fun _ _ _=>id) X (fun A ⟨ap,ar,av,an⟩=>by go_simp) ?_;simp only[List.set];refine aA 11 (.agg #[.int .i64 ((p:Int)+(K:Int))]) rfl rfl (by kernel_rfl) (fun _ _ _=>id) X (fun A ⟨ap,ar,av,an⟩=>by go_simp) ?_;simp only[List.set];refine aA 12 (.iface 39 (.agg #[.int .i64 ((p:Int)+(K:Int))])) rfl rfl (by kernel_rfl) (fun _ _ _=>id) X (fun A ⟨ap,ar,av,an⟩=>by go_simp) ?_;simp only[List.set];refine wpAnyH_ready (rs:=[13]) (by kernel_rfl) (by simp) (AllReadyH.cons rfl (fun i4 gu=>?_) AllReadyH.nil);go_simp;exact⟨rfl,rfl,(hc.trans cz)⟩
  case pan=>
   rintro bt c ⟨K,d6,rfl,en⟩ bs;rw[al]at bs⊢;show LeavesInM _ _ _ _ _ _ [_] (.panicking _) c;refine⟨by simp,.inl ⟨_,_,rfl,run_takeDeferred bs,?_⟩⟩;rw[gt];exact⟨.inr ⟨K,d6,rfl,en.grown (grownBy_putObj' c (d+1) (.deferred none)) (by have:=en.size;have:=aj bs;omega) (fun em e=>by cases e;omega)⟩⟩
 clear he;refine gi (Code.wp_mono (Q:=Exit.then hn (fun _ _ _=>False)) (fun e a w h=>by cases e<;>first|exact h|exact h.elim) ?_);have f7:bh.drew.cell? ⟨w.heap.size+1,0,none⟩=some (.string s):=aM cw;refine gM (S:=fun A=>A.cell? ⟨w.heap.size+1,0,none⟩=some (.string s)) (by kernel_rfl) f7 (fun hS=>?_);refine aA 0 (.string s) rfl rfl (by kernel_rfl) (fun _ _ _=>id) hS (fun A ih=>by go_simp) ?_;simp only[List.set];refine wpAnyH_ready (rs:=[1,3]) (by kernel_rfl) (by simp) (AllReadyH.cons rfl (fun af E=>?_) (AllReadyH.cons rfl (fun af E=>?_) AllReadyH.nil))
 ·go_simp;have f1:Below w.heap.size w bh.drew:=ev.drew;refine(fK (H:=Unit) bh.drew fr i2 ((f1.block _ (aj e9)).trans e9)).mono ?_;rintro e am ⟨rfl,cc,T⟩;have ji:bh.drew.heap.size=w.heap.size+2:=fb;rw[ji]at cc T;have cB:Below w.heap.size w am:=f1.trans (T.mono (by omega));have al:w.heap.size+2<=am.heap.size:=by have:=T.size;omega
  have k7:=cc.lt;refine E.out _ _ (aM ((T.block _ (by omega)).trans cw)) (fun hS=>?_);clear E af;try simp only[Act.put,List.setIfInBounds_toArray,List.set_cons_zero,List.set_cons_succ]
  simp only[ji];refine aA 2 (.agg #[.string s,.map (some (w.heap.size+2)),.int .i64 0,.int .i64 0,.int .i64 1,.bool false]) rfl rfl (by kernel_rfl) (fun _ _ _=>id) hS (fun A ih=>by go_simp) ?_;simp only[List.set];refine wpAnyH_ready (rs:=[3]) (by kernel_rfl) (by simp) (AllReadyH.cons rfl (fun af E=>?_) AllReadyH.nil);go_simp;refine E.out _ _ ((aa ((Below.refl am.heap.size am).alloc (Nat.le_refl _) _) hS)) (fun hS=>?_);clear E af;refine wpAnyH_ready (rs:=[4]) (by kernel_rfl) (by simp) (AllReadyH.cons rfl (fun af E=>?_) AllReadyH.nil);go_simp;have G:J4 w u s am.heap.size (w.heap.size+2) (am.alloc (.cells #[.string s,.map (some (w.heap.size+2)),.int .i64 0,.int .i64 0,.int .i64 1,.bool false] 85)):=
   ⟨cB.alloc cB.size _,(Below.heap_alloc _ _ _ (by omega)).trans ((T.block _ (by omega)).trans g8),(Below.heap_alloc _ _ _ (by omega)).trans ((T.block _ (by omega)).trans cw),heap_alloc_new am _,cc.alloc _,by omega,by omega⟩
  refine E.out _ _ (aM G.b1) (fun hS=>?_);clear E af;refine wpAnyH_done (by kernel_rfl) ?_ _;exact gd _ _ _ G
 ·go_simp;have f1:Below w.heap.size w bh.drew:=ev.drew;obtain⟨c6,eh⟩:=ah ((bh.alloc (.cells #[.string ⟨#[]⟩,.map none,.int .i64 0,.int .i64 0,.int .i64 0,.bool false] 85)).drew);have eN:Below (w.heap.size+2) bh c6:=by rw[<-eh];exact((Below.refl _ bh).alloc (by omega) _).drew
  have iy:c6.heap.size=w.heap.size+3:=by rw[<-eh];show(bh.alloc _).heap.size=_;simp;omega
  have ku:c6.heap[w.heap.size+2]?=some (.cells #[.string ⟨#[]⟩,.map none,.int .i64 0,.int .i64 0,.int .i64 0,.bool false] 85 (0,0)):=by rw[<-eh,<-fb];exact heap_alloc_new bh _
  rw[eh];refine E.out _ _ (aa (eN.mono (by omega)) (aM cw)) (fun hS=>?_);clear E af;refine wpAnyH_ready (rs:=[1]) (by kernel_rfl) (by simp) (AllReadyH.cons rfl (fun af E=>?_) AllReadyH.nil);go_simp;have hB:Below w.heap.size w c6:=ev.trans (eN.mono (by omega));refine(fK (H:=Unit) c6 fr i2 ((hB.block _ (aj e9)).trans e9)).mono ?_;rintro e am ⟨rfl,cc,T⟩;rw[iy]at cc T;have cB:Below w.heap.size w am:=hB.trans (T.mono (by omega));have k7:=cc.lt;refine E.out _ _ (aa (T.mono (by omega)) hS) (fun hS=>?_);clear E af;try simp only[Act.put,List.setIfInBounds_toArray,List.set_cons_zero,List.set_cons_succ]
  simp only[iy];refine aA 2 (.agg #[.string s,.map (some (w.heap.size+3)),.int .i64 0,.int .i64 0,.int .i64 1,.bool false]) rfl rfl (by kernel_rfl) (fun _ _ _=>id) hS (fun A ih=>by go_simp) ?_;simp only[List.set];have gs:=(T.block _ (by omega)).trans ku;refine wpAnyH_ready (rs:=[4]) (by kernel_rfl) (by simp) (AllReadyH.cons rfl (fun af E=>?_) AllReadyH.nil);obtain⟨nc,l7,m9,l5,lw,mn⟩:=bz gs;obtain⟨mr,b6,b5,c8,m8,nr⟩:=er gs;go_simp;have L:=Hm am (w.heap.size+2) (.string s) (.map (some (w.heap.size+3))) (.int .i64 0) (.int .i64 0) (.int .i64 1) (.bool false);have G:J4 w u s (w.heap.size+2) (w.heap.size+3) (ja am (w.heap.size+2) (.string s) (.map (some (w.heap.size+3))) (.int .i64 0) (.int .i64 0) (.int .i64 1) (.bool false)):=by
   have al:=T.size;refine⟨cB.grown L cB.size (fun bx e=>by cases e;omega),?_,?_,kX gs _ _ _ _ _ _,cc.kept L (by simp),by omega,by omega⟩
   ·exact(L.block _ (by omega) (by simp)).trans ((T.block _ (by omega)).trans ((eN.block _ (by omega)).trans g8))
   ·exact(L.block _ (by omega) (by simp)).trans ((T.block _ (by omega)).trans ((eN.block _ (by omega)).trans cw))
  refine E.out _ _ (aM G.b1) (fun hS=>?_);clear E af;refine wpAnyH_done (by kernel_rfl) ?_ _;exact gd _ _ _ G
theorem Ho(z:Int)(w:World):(Instr.typeAssert (.iface 39 (.agg #[.int .i64 z])) 20 39 true).run Tryz.prog w= .ok (.tuple #[.agg #[.int .i64 z],.bool true]) w:=by kernel_rfl
theorem Hp(w:World):(Instr.typeAssert .nilIface 20 39 true).run Tryz.prog w= .ok (.tuple #[.agg #[.int .i64 0],.bool false]) w:=by kernel_rfl
end Go.Proofs.YtcbmoiabehpliaaGreatDoor
