import Derived.Test.YtbkolnpplhbdmaaGreatDoorHPl15
import Derived.Test.YtbkolnpplhbdmaaGreatDoorHPl16
set_option linter.all false
set_option maxRecDepth 100000
set_option maxHeartbeats 25600000
open Go.Value renaming slice->O,int->V,string->A1,ownBlock->Bc,int->Bk,string->Bn,slice->Br
open Go.IntKind renaming i64->S
open Option renaming none->U,some->X
open Go.Proofs.Tryz renaming prog->Y
open Go.Obj renaming cells->Z
open Go.Ending renaming returned->Ad
open Go.RowKit renaming intOf->Ak,Below->A9
open Go renaming World->Ax,wpList_append_own_at->A2,Value->A3,Calls->A5,maxLen->B0
open Bool renaming false->A0
namespace Go.Proofs.YtbkolnpplhbdmaaGreatDoor
open Go.RowKit Go.Maps Go.WideMaps
variable{C:Cd}{L:List Nd}{N:Nd}{T cb ce d g k m m' me s y z:Int}{a:Act}{c c1:Cr}{f:FuncId}{ks:List Int}{o:Oper}{ops:Array Oper}{r:Rwx}{t:ByteArray}
def In(C:Cd)(T:Int)(E:Bs)(W:Ax)(c:Cr)(L:List Nd)(R:List Rwx):Prop:=∃M:List Mb,M.map Mb.N=L/\Bd C T E W c M R
def Rb(C:Cd)(T:Int)(f:FuncId)(b:List A3)(c:Cr)(L:List Nd)(v:A3)(d:Cr)(a:List Nd):Prop:=
 ∀ ⦃E:Bs⦄ ⦃W:Ax⦄ ⦃R:List Rwx⦄,In C T E W c L R->A5 Y f (bV E::b).toArray W λe w'=>e= Ad v/\In C T E w' d a R/\A9 E.base W w'
def Rr(C:Cd)(T:Int)(f:FuncId)(e:List A3)(c:Cr)(L:List Nd)(t:TypeId)(n:Nat)(xs:List A3)(g:Cr)(d:List Nd):Prop:=
 ∀ ⦃E:Bs⦄ ⦃W:Ax⦄ ⦃R:List Rwx⦄,In C T E W c L R->A5 Y f (bV E::e).toArray W λh w'=>∃a b,h= Ad (O a n b)/\In C T E w' g d (⟨t,O a n b,xs⟩::R)/\A9 E.base W w'
structure At (C:Cd) (T:Int) (E:Bs) (W w:Ax) (c:Cr) (L:List Nd) (R:List Rwx):Prop where
 bd:In C T E w c L R
 bel:A9 E.base W w
def aoh:(Tryz.prog.info? 3).map (λi=>(i.zero,i.size,i.bytes))=X (X (V S 0),1,8):=by kernel_rfl
section
variable {C : Cd} {T : Int} {E : Bs} {W w w' : World} {c c' : Cr} {L L' : List Nd} {R : List Rwx} {f : FuncId} {ar : List Value} {v : Value} {Q : Ending → World → Prop} {t : TypeId} {n : Nat} {xs : List Value}
def In.at(h:In C T E w c L R):At C T E w w c L R:=⟨h,ah _ _⟩
def At.run(a:At C T E W w c L R)(k:Rb C T f ar c L v c' L')(h:∀w',At C T E W w' c' L' R->Q (Ad v) w'):A5 Y f (bV E::ar).toArray w Q:=
 (k a.bd).mono λd w' b=>b.1 ▸ h w' ⟨b.2.1,a.bel.trans b.2.2⟩
def At.runC(a:At C T E W w c L R)(k:Rc C f ar c v c')(h:∀w',At C T E W w' c' L R->w.grownBy w' (X E.cb)->Q (Ad v) w'):A5 Y f (cV E::ar).toArray w Q:=by
 obtain⟨⟨g,e,b⟩,i⟩:=a;refine(k b.cu).mono ?_;rintro e w' ⟨rfl,j,d⟩;exact h w' ⟨⟨g,e,b.went d j⟩,i.trans (yp d b.cu.lo.1 b.cu.lo.2)⟩ d
def At.runR(a:At C T E W w c L R)(k:Rr C T f ar c L t n xs c' L')(h:∀w' b d,At C T E W w' c' L' (⟨t,O b n d,xs⟩::R)->Q (Ad (O b n d)) w'):A5 Y f (bV E::ar).toArray w Q:=by
 refine(k a.bd).mono ?_;rintro i w' ⟨b,d,rfl,e,g⟩;exact h w' b d ⟨e,a.bel.trans g⟩
def At.cu(a:At C T E W w c L R):Cu C E w c:=by
 have⟨d,_,b⟩:=a.bd;exact b.cu
def At.cs(a:At C T E W w c L R):(w.cell? ⟨E.bb,0,U⟩=X (cV E)/\w.cell? ⟨E.bb,2,U⟩=X (V S (T-L.length)))/\E.bb<w.heap.size:=by
 have⟨d,e,b⟩:=a.bd;have:=b.c0;rw[show d.length=L.length by rw[<-e,bq]]at this;exact⟨this,b.lt.2.1⟩
def At.below(a:At C T E W w c L R)(d:cg w w'):At C T E W w' c L R:=by
 obtain⟨⟨e,f,b⟩,g⟩:=a;exact⟨⟨e,f,b.below d⟩,g.trans (d.mono b.lt.2.2.1)⟩
def At.al{o:Obj}(a:At C T E W w c L R):At C T E W (w.alloc o) c L R:=a.below (dC w o)
def At.lit(a:At C T E W w c L R)(ks:List Int)(f:ks.length<=100):At C T E W (w.alloc (Z (ks.map (Bk S)).toArray 3)) c L (rI (O (X ⟨w.heap.size,0,U⟩) ks.length ks.length) ks::R):=by
 obtain⟨⟨d,e,b⟩,g⟩:=a;exact⟨⟨d,e,b.newI ks f⟩,g.trans ((dC w _).mono b.lt.2.2.1)⟩
def At.lit1(a:At C T E W w c L R):At C T E W (w.alloc (Z #[V S z] 3)) c L (rI (O (X ⟨w.heap.size,0,U⟩) 1 1) [z]::R):=a.lit [z] (by simp)
def At.lit2(a:At C T E W w c L R):At C T E W (w.alloc (Z #[V S z,V S y] 3)) c L (rI (O (X ⟨w.heap.size,0,U⟩) 2 2) [z,y]::R):=a.lit [z,y] (by simp)
def At.nilI(a:At C T E W w c L R):At C T E W w c L (rI (O U 0 0) []::R):=by
 obtain⟨⟨b,e,d⟩,f⟩:=a;exact⟨⟨b,e,d.nil toI⟩,f⟩
def At.nilS(a:At C T E W w c L R):At C T E W w c L (rS (O U 0 0) []::R):=by
 obtain⟨⟨b,e,d⟩,f⟩:=a;exact⟨⟨b,e,d.nil toS⟩,f⟩
def At.swap{b:Rwx}(a:At C T E W w c L (r::b::R)):At C T E W w c L (b::r::R):=by
 obtain⟨⟨d,f,e⟩,g⟩:=a;exact⟨⟨d,f,e.swap⟩,g⟩
def At.drop(a:At C T E W w c L (r::R)):At C T E W w c L R:=by
 obtain⟨⟨b,e,d⟩,f⟩:=a;exact⟨⟨b,e,d.drop⟩,f⟩
def At.form(a:At C T E W w c L (⟨t,v,xs⟩::R)):∃a c,v= O a xs.length c:=by
 obtain⟨⟨d,e,b⟩,f⟩:=a;exact b.form
def At.apG{st:TypeId}{u l:A3}{e:Nat}{p:List Oper}{Q:Exit->Act->Ax->Prop}(A:Tryz.prog.underlying st=X (.slice t))(y:(Tryz.prog.info? t).map (λi=>(i.zero,i.size,i.bytes))=X (X l,1,e))(aK:l.cells.size=1)(F:e<=100)(ht:TO t)(h:At C T E W w c L (⟨t,v,xs⟩::R))(K:xs.length=n)(a7:n<=1000)(an:u.oneCell'=true)(H:o.guard=U)(s z:Operand)
  (ad:o.op= .call {callee:= .builtin .append,args:=#[s,z],argTypes:=#[st,st]}) (ak:a.eval s=v) (ap:a.eval z= .slice (X ⟨w.heap.size,0,U⟩) 1 1)
  (k:∀b d w1,At C T E W w1 c L (⟨t,.slice b (n+1) d,xs++[u]⟩::R)->wpList Y ops Q p (a.put o.dst (.slice b (n+1) d)) w1):
  wpList Y ops Q (o::p) a (w.alloc (.cells #[u] t)):=by
 subst K;obtain⟨⟨r,x,g⟩,ao⟩:=h.al (o:= .cells #[u] t);have⟨a3,J,a0,a1,a2⟩:=fh y;have af:(w.alloc (.cells #[u] t)).ownsRow E.base t 1 v xs.length xs:=(g.rows _ aI).2;have a6:(xs.length+1)*e<=1001*100:=Nat.mul_le_mul (by omega) F;refine A2 _ H s z st ad E.base t a3 l 1 e A J a0 a1 a2 aK (by decide) v _ _ ak af ⟨w.heap.size,0,U⟩ 1 1 [u] ap (by simp) (World.news_of_block (cs:=#[u]) (aA w _)) (by intro a9 ar;rw[List.mem_singleton.1 ar];exact an) (by unfold B0;omega) (by omega) g.lt.2.2.1 ?_;intro a8 w1 m G _ B;obtain⟨b,d,rfl⟩:=di m;have I:∀f,(Br b (xs.length+1) d).ownBlock=X f->v.ownBlock=X f\/(w.alloc (.cells #[u] t)).heap.size<=f:=λf j=>by
  rcases B with q|q
  .exact .inl (q ▸ j)
  .rw[q]at j;cases j;exact .inr (ag _)
 obtain⟨a4,a5⟩:=g.hot (r':=⟨t,.slice b (xs.length+1) d,xs++[u]⟩) G ht (by simpa using m) I;exact k b d w1 ⟨⟨r,x,a4⟩,ao.trans a5⟩
def At.app{e:List Oper}{Q:Exit->Act->Ax->Prop}(h:At C T E W w c L (rI v ks::R))(i:ks.length=n)(j:n<=1000)(g:o.guard=U)(s x:Operand)(l:o.op= .call {callee:= .builtin .append,args:=#[s,x],argTypes:=#[32,32]})(m:a.eval s=v)(p:a.eval x= O (X ⟨w.heap.size,0,U⟩) 1 1)
  (k:∀b d w1,At C T E W w1 c L (rI (O b (n+1) d) (ks++[z])::R)->wpList Y ops Q e (a.put o.dst (O b (n+1) d)) w1):wpList Y ops Q (o::e) a (w.alloc (Z #[V S z] 3)):=
 At.apG Tryz.underlying32 aoh rfl (by decide) toI h (by rw[bq,i]) j rfl g s x l m p λb d w1 f=>k b d w1 (by unfold rI;rw[eJ];exact f)
def At.appS{e:List Oper}{Q:Exit->Act->Ax->Prop}{ks:List ByteArray}{z:ByteArray}(h:At C T E W w c L (rS v ks::R))(i:ks.length=n)(j:n<=1000)(g:o.guard=U)(s x:Operand)(l:o.op= .call {callee:= .builtin .append,args:=#[s,x],argTypes:=#[31,31]})(m:a.eval s=v)(p:a.eval x= O (X ⟨w.heap.size,0,U⟩) 1 1)
  (k:∀b d w1,At C T E W w1 c L (rS (O b (n+1) d) (ks++[z])::R)->wpList Y ops Q e (a.put o.dst (O b (n+1) d)) w1):wpList Y ops Q (o::e) a (w.alloc (Z #[Bn z] 9)):=
 At.apG Tryz.underlying31 ahf rfl (by decide) toS h (by rw[bq,i]) j rfl g s x l m p λb d w1 f=>k b d w1 (by unfold rS;rw[eJ];exact f)
def At.add{op:Int}{x:ByteArray}{nm:List ByteArray}{d b:Option Addr}{g e mk ck:Nat}(a:At C T E W w c L (rS (O d g e) nm::rI (O b mk ck) ks::R))(n: -100000<=T/\T<=100000)(f:L.length<=25000)(h:∀w',At C T E W w' c (L++[dN k op m x nm ks]) R->Q (Ad (V S (L.length:Nat))) w'):
  A5 Y 85 #[bV E,.agg #[V S k,V S 0,V S 0,V S 0,V S op,V S m,Bn x,O d g e,O b mk ck]] w Q:=by
 obtain⟨⟨p,rfl,i⟩,o⟩:=a;rw[bq]at f;refine(aqK (N:=dN k op m x nm ks) i n f).mono ?_;rintro q w' ⟨rfl,j,l⟩;rw[bq]at h;exact h w' ⟨⟨_,by rw[eJ];rfl,j⟩,o.trans l⟩
def At.kids{b:Option Addr}{mk ck:Nat}(a:At C T E W w c L (rI (O b mk ck) ks::R))(l: -100000<=T/\T<=100000)(j:L.length<=25000)(h:∀w',At C T E W w' c (L++[dN k 0 0 ⟨#[]⟩ [] ks]) R->Q (Ad (V S (L.length:Nat))) w'):
  A5 Y 82 #[bV E,V S k,O b mk ck] w Q:=by
 have f:A5 Y 82 #[bV E,V S k,O b mk ck] w λd w'=>d= Ad (V S (L.length:Nat))/\At C T E W w' c (L++[dN k 0 0 ⟨#[]⟩ [] ks]) R:=by
  have g:=am a.nilS;go_in;go_wp2_with fail;refine g.out.add l j λw1 i=>?_;go_wp2;go_ret;exact⟨rfl,i⟩
 exact f.mono λd w' e=>e.1 ▸ h w' e.2
end
def jz{op n:Int}{nm:List ByteArray}(g:0<=k/\k<=1000)(h:0<=op/\op<=1000)(e: -9223372036854775808<=n/\n<=9223372036854775807)(ht:Txt k t)(a:nm.length<=3)(b:∀s∈nm,Shr s)(c:ks.length<=64)(d:∀z∈ks,0<=z/\z<=100000):JD (dN k op n t nm ks):=by
 have z: -9223372036854775808<=(0:Int)/\(0:Int)<=9223372036854775807:=by decide
 exact⟨a,c,ht,b,⟨⟨by show _<=k;omega,by show k<=_;omega⟩,z,z,z,⟨by show _<=op;omega,by show op<=_;omega⟩,e,λz f=>by have:=d z f;omega⟩⟩
def Nx(c:Cr)(L:List Nd)(a:Cr)(b:List Nd):Prop:=∃M,b=L++M/\(∀N∈M,JD N)/\c.r+bigs M<=a.r/\(c.r<=3->a.r<=3)
structure Pd (T:Int) (c:Cr) (L:List Nd) (m:Int):Prop where
 sum:T<=140
 lo: -20000+12*m<=T-L.length
 hx:c.p-400*L.length+1000*m<=4000000
 m0:0<=m/\m<=1300
 p0:0<=c.p/\0<=c.r
structure Mv (T:Int) (c0:Cr) (L0:List Nd) (c:Cr) (L:List Nd) (y:Int):Prop where
 nx:Nx c0 L0 c L
 n:L0.length<=L.length
 p:c.p<=c0.p+400*(L.length-L0.length)+y
 p0:0<=c.p/\0<=c.r
 lo: -20000<=T-L.length
abbrev Lf(s k l a:Int):Prop:=(l<5->l-s<=a)/\(5<=l->5-k<=a)
structure An (T:Int) (c:Cr) (L:List Nd) (c':Cr) (L':List Nd) (z s k g:Int):Prop where
 nx:Nx c L c' L'
 n:L.length<L'.length
 z:z=L'.length-1
 p:c'.p<=c.p+400*(L'.length-L.length)-g
 p0:0<=c'.p/\0<=c'.r
 lf:Lf s k (T-L.length) (T-L'.length)
def FB(f:FuncId)(d m s k g:Int):Prop:=∀ ⦃C:Cd⦄ ⦃T:Int⦄ ⦃c:Cr⦄ ⦃L:List Nd⦄,Pd T c L m->∃z c' L',An T c L c' L' z s k g/\Rb C T f [V S d] c L (V S z) c' L'
def FB.up{j i e:Int}(h:FB f d m s k g)(r:0<=m:=by omega)(v:m<=m':=by omega)(w:s<=j:=by omega)(t:k<=i:=by omega)(u:e<=g:=by omega):FB f d m' j i e:=λC T c L b=>by
 obtain⟨q,p,o,a,l⟩:=h (C:=C) (T:=T) (c:=c) (L:=L) ⟨b.sum,by have:=b.lo;omega,by have:=b.hx;omega,by have:=b.m0;omega,b.p0⟩;exact⟨q,p,o,⟨a.nx,a.n,a.z,by have:=a.p;omega,a.p0,by have:=a.lf;omega⟩,l⟩
def Nx.refl{a:Cr}(L:List Nd)(h:a.r=c.r):Nx c L a L:=⟨[],(dk L).symm,λb h=>(by cases h),by rw[h];exact Int.le_of_eq (Int.add_zero _),by rw[h];exact id⟩
def Nx.trans{e:Cr}{b d:List Nd}(h:Nx c L c1 b)(k:Nx c1 b e d):Nx c L e d:=by
 obtain⟨f,rfl,g,m,i⟩:=h;obtain⟨a,rfl,j,n,l⟩:=k;exact⟨f++a,bC _ _ _,λa h=>(List.mem_append.1 h).elim (g a) (j a),by rw[ahb];omega,λh=>l (i h)⟩
def Nx.add{a:Cr}{b:List Nd}(h:Nx c L c1 b)(d:JD N)(e:c1.r+bgN N<=a.r)(f:c1.r<=3->a.r<=3):Nx c L a (b++[N]):=
 h.trans ⟨[N],rfl,λg h=>by rw[List.mem_singleton.1 h];exact d,by unfold bigs;simp;exact e,f⟩
def ada(h:N.x.size<=19):bgN N=0:=by unfold bgN;rw[aa (by omega)]
def Pl(ks:List Int):Prop:=∀z∈ks,0<=z/\z<=100000
def Pl.add(h:Pl ks)(a:0<=z/\z<=100000):Pl (ks++[z]):=λb hy=>by
 rcases List.mem_append.1 hy with hy|hy
 .exact h b hy
 .rw[List.mem_singleton.1 hy];exact a
def pl0:Pl []:=λb a=>by cases a
def pl1(h:0<=z/\z<=100000):Pl [z]:=λb a=>by rw[List.mem_singleton.1 a];exact h
def pl2(h:0<=z/\z<=100000)(k:0<=y/\y<=100000):Pl [z,y]:=(pl1 h).add k
def ll:∀s∈([]:List ByteArray),Shr s:=λs a=>by cases a
section
variable {T : Int} {c0 c : Cr} {L0 L : List Nd} {y m : Int}
def Pd.mv(p:Pd T c L m):Mv T c L c L 0:=⟨Nx.refl L rfl,ag _,by omega,p.p0,by have:=p.lo;have:=p.m0;omega⟩
def Mv.len(p:Pd T c0 L0 m)(a:Mv T c0 L0 c L y)(j:y<=600:=by omega):(L.length<=25000/\ -100000<=T/\T<=100000)/\c.p<=20000000:=by
 have b:=p.sum;have d:=a.lo;have e:=a.p;have f:=p.hx;have g:=p.m0;have h:=a.n;have i:=p.lo;omega
def Mv.pick(p:Pd T c0 L0 m)(a:Mv T c0 L0 c L y)(C:Cd)(k:Int)(l:y<=500:=by omega)(f:2<=k:=by decide)(g:k<=200:=by decide):∃z c',(0<=z/\z<k)/\Mv T c0 L0 c' L (y+1)/\Rc C 41 [V S k] c (V S z) c':=by
 have i:=a.len p;have d:=a.p0;have j:=a.p;have⟨z,c',h,e,b⟩:=lm C c k f g d.1 (by omega);exact⟨z,c',h,⟨a.nx.trans (Nx.refl L e.2),a.n,by omega,by omega,a.lo⟩,b⟩
def Mv.sub(p:Pd T c0 L0 m)(a:Mv T c0 L0 c L y)(C:Cd)(hF:FB f d m' s k g)(E:1<=m'/\m'+1<=m:=by omega)(G:y<=500:=by omega)(r: -20000+12*m'<=T-L.length:=by omega)(F:s<=12/\k<=4000:=by omega):
  ∃(z:Int) (c':Cr) (L':List Nd),(0<=z/\z<=100000)/\(L.length<L'.length/\z=L'.length-1/\Lf s k (T-L.length) (T-L'.length))/\Mv T c0 L0 c' L' (y-g)/\Rb C T f [V S d] c L (V S z) c' L':=by
 have B:=a.len p;have u:=p.hx;have v:=a.p;have q:=a.p0;have w:=p.m0;have x:=a.n;have A:=p.sum;obtain⟨z,c',L',e,b⟩:=hF (C:=C) (T:=T) (c:=c) (L:=L) ⟨p.sum,r,by omega,by omega,q⟩;obtain⟨h,i,j,t,l,o⟩:=e;exact⟨z,c',L',by omega,⟨i,j,o⟩,⟨a.nx.trans h,by omega,by omega,l,by omega⟩,b⟩
def Mv.fin(p:Pd T c0 L0 m)(a:Mv T c0 L0 c L y){op n:Int}{nm:List ByteArray}{q:Int}(b:JD (dN k op n t nm ks))(h:y<=400-g:=by omega)(f:Lf s q (T-L0.length) (T-L.length-1):=by omega)(ht:t.size<=19:=by first|decide|omega):An T c0 L0 c (L++[dN k op n t nm ks]) (L.length:Nat) s q g:=by
 have d:=a.p;have e:=a.n;exact⟨a.nx.add b (by rw[ada (show(dN k op n t nm ks).x.size<=19 from ht)];omega) id,by simp;omega,by simp,by simp;omega,a.p0,by simp only[aG,bc,dE];omega⟩
def Mv.on(a:Mv T c0 L0 c L y)(b:JD N)(ht:N.x.size<=19)(f: -20000<=T-L.length-1):Mv T c0 L0 c (L++[N]) (y-400):=by
 have d:=a.p;have e:=a.n;exact⟨a.nx.add b (by rw[ada ht];omega) id,by simp;omega,by simp;omega,a.p0,by simp;omega⟩
def Mv.tail(p:Pd T c0 L0 m)(a:Mv T c0 L0 c L0 y)(C:Cd)(hF:FB f d m' s k g)(r:0<=m'/\m'+1<=m:=by omega)(t:y<=g:=by omega)(q:g<=500:=by decide):∃z c' L',An T c0 L0 c' L' z s k 0/\Rb C T f [V S d] c L0 (V S z) c' L':=by
 have i:=p.hx;have j:=a.p;have h:=a.p0;have l:=p.m0;have o:=p.lo;obtain⟨z,c',L',b,e⟩:=hF (C:=C) (T:=T) (c:=c) (L:=L0) ⟨p.sum,by omega,by omega,by omega,h⟩;exact⟨z,c',L',⟨a.nx.trans b.nx,b.n,b.z,by have:=b.p;omega,b.p0,b.lf⟩,e⟩
end
def shL:List ByteArray:=[⟨#[97]⟩,⟨#[98]⟩,⟨#[120]⟩,⟨#[121,49]⟩,⟨#[95]⟩,⟨#[73,102]⟩,⟨#[101,108,105]⟩,⟨#[102]⟩]
section
variable {T : Int} {c0 c : Cr} {L0 L : List Nd} {y m : Int}
def akE(m:0<=z/\z<8)(d:Rc C 41 [V S 8] c (V S z) c1)(ht:shL[z.toNat]?=X t):Rb C T 161 [] c L (Bn t) c1 L:=by
 intro i k j f;have a:=f.at
 have l:=a.cs;have h:=a.cu;rcases(show z=0\/z=1\/z=2\/z=3\/z=4\/z=5\/z=6\/z=7 by omega) with rfl|rfl|rfl|rfl|rfl|rfl|rfl|rfl;all_goals
  obtain rfl:=aJ (show X (_:ByteArray)=X t from ht);go_in;go_wp2_with fail;refine a.al.runC d λw1 e g=>?_;have n:=Dg h g;have b:=am e;go_wp2;go_ret;exact⟨rfl,b.out.bd,b.out.bel⟩
def Mv.short(p:Pd T c0 L0 m)(a:Mv T c0 L0 c L y)(C:Cd)(j:y<=500:=by omega):∃(t:ByteArray) (c':Cr),Shr t/\Mv T c0 L0 c' L (y+1)/\Rb C T 161 [] c L (Bn t) c' L:=by
 have⟨d,g,i,f,e⟩:=a.pick p C 8;obtain⟨t,b⟩:∃t,shL[d.toNat]?=X t:=⟨_,aw (show d.toNat<8 by omega)⟩;have h:t.size<=3:=(show ∀t∈shL,t.size<=3 by decide) t (dj b);exact⟨t,g,⟨h,uI (by omega)⟩,f,akE i e b⟩
inductive Nmc (C:Cd) (T:Int) (L:List Nd):Nat->Cr->List ByteArray->Cr->Prop
 |nil (c:Cr):Nmc C T L 0 c [] c
 |cons {n:Nat}{c c1 c2:Cr}{t:ByteArray}{l:List ByteArray}:Rb C T 161 [] c L (.string t) c1 L->Nmc C T L n c1 l c2->Nmc C T L (n+1) c (t::l) c2
def nmc(p:Pd T c0 L0 m)(C:Cd):∀(n:Nat)(c:Cr)(y:Int),Mv T c0 L0 c L y->y+n<=500->∃(l:List ByteArray) (c':Cr),l.length=n/\(∀s∈l,Shr s)/\Mv T c0 L0 c' L (y+n)/\Nmc C T L n c l c':=by
 intro n
 induction n with
 |zero=>exact λc y a _=>⟨[],c,rfl,ll,by simpa using a,.nil c⟩
 |succ n q=>
  intro c y a t;have⟨r,g,o,e,d⟩:=a.short p C;have⟨l,i,j,k,f,b⟩:=q g (y+1) e (by omega);exact⟨r::l,i,by simp[j],λs h=>by rcases List.mem_cons.1 h with rfl|h;exact o;exact k s h,by rw[show y+((n+1:Nat):Int)=y+1+n by omega];exact f,.cons d b⟩
def Mv.names(p:Pd T c0 L0 m)(a:Mv T c0 L0 c L y)(C:Cd)(n:Nat)(ap:n<=8:=by omega)(aK:y<=450:=by omega):∃(nm:List ByteArray) (c':Cr),nm.length=n/\(∀s∈nm,Shr s)/\Mv T c0 L0 c' L (y+n)/\Rr C T 83 [V S n] c L 9 n (nm.map A1) c' L:=by
 have⟨nm,l,o,q,A,b⟩:=nmc p C n c y a (by omega);refine⟨nm,l,o,q,A,λv z x I=>?_⟩;have e:=I.at.nilS;go_in;go_wp2;go_loopw [1,5] (λj ak wr=>∃(m g:Nat) (f i:List ByteArray) (h:Cr),j= V S m/\m+g=n/\f.length=g/\At C T v z wr h L (rS ak f::x)/\Nmc C T L m h i l/\f++i=nm) (λj _ _=>(Ak j).toNat)
 case atStart=>exact⟨n,0,[],nm,c,rfl,rfl,rfl,e,b,rfl⟩
 case round=>
  obtain⟨m,g,f,i,h,rfl,K,J,e,t,H⟩:=hrel;have d:=kK K J H;have ao:m<=n:=by omega
  cases t with
  |@cons m _ F _ af ad w u=>
   have an:(0:Int)<((m+1:Nat):Int):=by omega
   have ar:IntKind.i64.wrap (((m+1:Nat):Int)-1)=(m:Int):=by rw[dr];omega
   go_wp2_with fail;refine e.run w λw1 B=>?_;have b:=am B;go_wp2_with (at_builtin;refine b.out.appS d.2.1 (by have:=d.1;omega) rfl _ _ rfl rfl rfl ?_;intro k al a0 E);go_roundw
   case rel=>exact⟨m,g+1,f++[af],ad,F,by go_num,by have:=d.1;omega,by simp[d.2.1],E,u,by rw[bC];exact d.2.2⟩
   case measure=>simp[Ak]
  |nil=>
   have⟨o,q,r⟩:=d.out;rw[dk]at r;subst r;obtain⟨k,G,rfl⟩:=e.form;rw[bq,show f.length=n by omega]at e⊢;have b:=am e;go_wp2;go_ret;exact⟨k,G,rfl,b.out.bd,b.out.bel⟩
end
def w1(a: -1000<=d/\d<=1000):IntKind.i64.wrap (d-1)=d-1:=by rw[dr];omega
def wq{a o:Int}{q:Nat}(h:a+o=(q:Int))(b:q<=100):IntKind.i64.wrap (a+o)=(q:Int):=by rw[dr];omega
def wi{a:Int}(h: -9223372036854775808<=a/\a<=9223372036854775807):IntKind.i64.wrap a=a:=by rw[dr];omega
def At.last{C:Cd}{T:Int}{E:Bs}{W w:Ax}{c:Cr}{L:List Nd}{R:List Rwx}(a:At C T E W w c L R){i:Nat}{N:Nd}(h:L[i]?=X N):∃g b,w.cell? ⟨E.bb,1,U⟩=X (O (X ⟨g,0,U⟩) L.length b)/\w.cell? ⟨g,i*9,U⟩=X (V S N.k)/\i<L.length:=by
 obtain⟨⟨m,rfl,f⟩,_⟩:=a;have⟨o,j,d⟩:=f.row;have e:=(List.getElem?_eq_some_iff.1 h).1;rw[cD]at h;obtain⟨p,l,rfl⟩:=Option.map_eq_some_iff.1 h;rw[bq]at e⊢;rcases bJ d with⟨n,rfl⟩|⟨g,b,rfl⟩
 .omega
 .exact⟨g,b,by rw[aj _ _ _ _ _ _ j];rfl,(we d l).1,e⟩
def ams(w:1<=me/\me+1<=m)(u:0<=ce/\ce<=3990)(H:FB 86 d me 1 ce 0):FB 160 d m 2 (ce+1) 0:=by
 intro A ad af L a;have v:=a.lo;have x:=a.m0;have⟨ap,ak,p,g,j,b,y⟩:=a.mv.sub a A H;have s:=b.len a;obtain⟨o,rfl⟩:=iE g.1;obtain⟨i,l⟩:∃i,p[o]?=X i:=⟨_,aw (by omega)⟩;have al:(0:Int)<=(o:Int):=g.1;by_cases r:i.k=27
 .refine⟨_,_,_,b.fin a (k:=37) (op:=0) (n:=0) (t:=⟨#[]⟩) (jz (by decide) (by decide) (by decide) (lu (by decide)) (by decide) ll (by simp) (pl1 g)),λB E C f=>?_⟩;have e:=f.at
  clear f b j g a v x u w;go_in;go_wp2_with fail;refine e.run y λw1 c=>?_;obtain⟨G,F,J,z,K⟩:=c.last l;rw[r]at z;have I:(o:Int)<(p.length:Int):=by omega
  have h:=am c;clear e c l;go_wp2_with fail;refine h.out.lit1.kids s.1.2 s.1.1 λao q=>?_;go_wp2_with fail;go_ret;exact⟨rfl,q.bd,q.bel⟩
 .refine⟨_,_,_,⟨b.nx,j.1,j.2.1,by have:=b.p;omega,b.p0,by omega⟩,λB E C f=>?_⟩;have e:=f.at
  clear f b j g a v x u w;go_in;go_wp2_with fail;refine e.run y λw1 c=>?_;obtain⟨G,F,J,z,K⟩:=c.last l;have an:(i.k==27)=A0:=by simpa using r
  have I:(o:Int)<(p.length:Int):=by omega
  have h:=am c;clear e c l;go_wp2_with fail;go_ret;exact⟨rfl,h.out.bd,h.out.bel⟩
def fnB{mk ck:Int}(A:1<=mk/\mk+1<=m)(y:0<=ck/\ck<=3900)(r: -1000<=d/\d<=1000)(x:FB 90 (d-1) mk 1 ck 0):FB 87 d m 2 (ck+1) 100:=by
 intro g J L G e;have z:=e.lo;have B:=e.m0;have ap:=w1 r;obtain⟨n,ad,s,i,ar⟩:=e.mv.pick e g 3;obtain⟨n,rfl⟩:=iE s.1;obtain⟨a6,af,w,q,j,aK⟩:=i.names e g n;obtain⟨a7,ak,H,C,v,l,a0⟩:=j.sub e g x;obtain⟨E,al,ao,h,a5⟩:=l.pick e g 2;have b:=h.len e;refine⟨_,_,_,h.fin e (k:=36) (op:=E) (n:=0) (t:=⟨#[]⟩) (jz (by decide) (by omega) (by decide) (lu (by decide)) (by omega) q (by simp) (pl1 C)),?_⟩;clear w q i j l h v e z B y A s r;intro F K I p;have a:=p.at
 have c:=a.cs;clear p;go_in
 repeat' (go_wp2_with (at_builtin;with_reducible refine At.app a rfl (by simp) rfl _ _ rfl rfl rfl ?_;clear a c;intro o an f a;have c:=a.cs);first
  |(go_at_call 41;(first|with_reducible refine At.runC a (by assumption) ?_|with_reducible refine At.runC a.lit2 (by assumption) ?_|with_reducible refine At.runC a.lit1 (by assumption) ?_);clear a c;intro f a _;have c:=a.cs)
  |(go_at_call 83;with_reducible refine At.runR a (by assumption) ?_;clear a c;intro f o u a;have c:=a.cs)
  |(go_at_call 84;with_reducible refine At.runR a (by assumption) ?_;clear a c;intro f o u a;have c:=a.cs)
  |(go_at_call 82;(first|with_reducible refine At.kids a.lit1 b.1.2 b.1.1 ?_|with_reducible refine At.kids a.lit2 b.1.2 b.1.1 ?_|with_reducible refine At.kids a.nilI b.1.2 b.1.1 ?_);clear a c;intro f a;have c:=a.cs)
  |(go_at_call 85;(first|with_reducible refine At.add a.lit1.nilS b.1.2 b.1.1 ?_|with_reducible refine At.add a.lit2.nilS b.1.2 b.1.1 ?_|with_reducible refine At.add a.lit1.swap b.1.2 b.1.1 ?_|with_reducible refine At.add a.lit2.swap b.1.2 b.1.1 ?_|with_reducible refine At.add a.swap b.1.2 b.1.1 ?_|with_reducible refine At.add a b.1.2 b.1.1 ?_|with_reducible refine At.add a.nilS b.1.2 b.1.1 ?_|with_reducible refine At.add a.nilI.nilS b.1.2 b.1.1 ?_);clear a c;intro f a;have c:=a.cs)
  |(go_ret;exact⟨rfl,a.bd,a.bel⟩)
  |(with_reducible refine At.run a (by assumption) ?_;clear a c;intro f a;have c:=a.cs))
def akF{mb:Int}(H:(1<=mb/\mb+1<=m)/\1<=me/\me+1<=m)(F:0<=ce/\ce<=cb/\cb<=3900)(x: -1000<=d/\d<=1000)(w:FB 160 (d-1) mb 2 cb 0)(E:FB 86 (d-1) me 1 ce 0):FB 88 d m 4 (cb+3) 0:=by
 intro g an ap af c;have G:=c.lo;have I:=c.m0;have a5:=w1 x;obtain⟨n,ar,o,h,a6⟩:=c.mv.pick c g 4;rcases(show n=0\/n=1\/(n≠0/\n≠1) by omega) with rfl|rfl|⟨s,u⟩
 case' inl=>
  obtain⟨L,A,z,p,l,j,K⟩:=h.sub c g w;obtain⟨a7,r,ak,J,C,f,y⟩:=j.sub c g E;have b:=f.len c;refine⟨_,_,_,f.fin c (k:=32) (op:=0) (n:=0) (t:=⟨#[]⟩) (jz (by decide) (by decide) (by decide) (lu (by decide)) (by decide) ll (by simp) (pl2 p J)),?_⟩;clear h j f l C o
 case' inr.inl=>
  obtain⟨L,A,z,p,l,j,K⟩:=h.sub c g w;obtain⟨t,r,ht,f,y⟩:=j.short c g;have b:=f.len c;refine⟨_,_,_,f.fin c (k:=33) (op:=0) (n:=0) (t:=t) (jz (by decide) (by decide) (by decide) (aha (by decide) ht) (by decide) ll (by simp) (pl1 p)) (ht:=by have:=ht.sz;omega),?_⟩;clear h j f l o ht
 case' inr.inr=>
  have a0:(n==0)=A0:=by simpa using s
  have a4:(n==1)=A0:=by simpa using u
  obtain⟨t,r,ht,f,y⟩:=h.short c g;have b:=f.len c;refine⟨_,_,_,f.fin c (k:=26) (op:=0) (n:=0) (t:=t) (jz (by decide) (by decide) (by decide) (aha (by decide) ht) (by decide) ll (by simp) pl0) (ht:=by have:=ht.sz;omega),?_⟩;clear h f o ht s u
 all_goals
  clear c G I F H x;intro ad ao al v;have a:=v.at
  have e:=a.cs;clear v;go_in
  repeat' (go_wp2_with (at_builtin;with_reducible refine At.app a rfl (by simp) rfl _ _ rfl rfl rfl ?_;clear a e;intro q aK i a;have e:=a.cs);first
   |(go_at_call 41;(first|with_reducible refine At.runC a (by assumption) ?_|with_reducible refine At.runC a.lit2 (by assumption) ?_|with_reducible refine At.runC a.lit1 (by assumption) ?_);clear a e;intro i a _;have e:=a.cs)
   |(go_at_call 83;with_reducible refine At.runR a (by assumption) ?_;clear a e;intro i q B a;have e:=a.cs)
   |(go_at_call 84;with_reducible refine At.runR a (by assumption) ?_;clear a e;intro i q B a;have e:=a.cs)
   |(go_at_call 82;(first|with_reducible refine At.kids a.lit1 b.1.2 b.1.1 ?_|with_reducible refine At.kids a.lit2 b.1.2 b.1.1 ?_|with_reducible refine At.kids a.nilI b.1.2 b.1.1 ?_);clear a e;intro i a;have e:=a.cs)
   |(go_at_call 85;(first|with_reducible refine At.add a.lit1.nilS b.1.2 b.1.1 ?_|with_reducible refine At.add a.lit2.nilS b.1.2 b.1.1 ?_|with_reducible refine At.add a.lit1.swap b.1.2 b.1.1 ?_|with_reducible refine At.add a.lit2.swap b.1.2 b.1.1 ?_|with_reducible refine At.add a.swap b.1.2 b.1.1 ?_|with_reducible refine At.add a b.1.2 b.1.1 ?_|with_reducible refine At.add a.nilS b.1.2 b.1.1 ?_|with_reducible refine At.add a.nilI.nilS b.1.2 b.1.1 ?_);clear a e;intro i a;have e:=a.cs)
   |(go_ret;exact⟨rfl,a.bd,a.bel⟩)
   |(with_reducible refine At.run a (by assumption) ?_;clear a e;intro i a;have e:=a.cs))
def flL:List ByteArray:=[⟨#[49,46,53]⟩,⟨#[48,46,48]⟩,⟨#[49,101,57]⟩,⟨#[50,46,50,53,101,45,51]⟩,⟨#[57,50,50,51,51,55,50,48,51,54,56,53,52,55,55,53,56,48,56]⟩]
section
variable {T : Int} {c : Cr} {L : List Nd} {m : Int}
def amt(p:Pd T c L m)(C:Cd)(bk:1<=m):∃z c' L',An T c L c' L' z 1 1 0/\Rb C T 162 [] c L (V S z) c' L':=by
 have bj:=p.lo;have bl:=p.m0;have⟨z,w,br,f,G⟩:=p.mv.pick p C 9;have d:=f.len p;have F:=f.p0;have bf:=f.p;rcases(show z=0\/(z=1\/z=2)\/z=3\/z=4\/z=5\/(z≠0/\z≠1/\z≠2/\z≠3/\z≠4/\z≠5) by omega) with rfl|h12|rfl|rfl|rfl|⟨ak,an,ao,ap,ar,aK⟩
 case' inl=>
  have⟨g,j,a9,q,s⟩:=f.pick p C 3;have bo:=wi (a:=20+g) (by omega);refine⟨_,_,_,q.fin p (k:=20+g) (op:=0) (n:=0) (t:=⟨#[]⟩) (jz (by omega) (by decide) (by decide) (lu (by omega)) (by decide) ll (by simp) pl0),?_⟩
 case' inr.inl=>
  have⟨n,j,a5,a0,s⟩:=akr C w F.1 (by omega);have q:Mv T c L j L 4:=⟨f.nx.trans (Nx.refl L a0.2.2),f.n,by omega,by omega,f.lo⟩;refine⟨_,_,_,q.fin p (k:=23) (op:=0) (n:=n) (t:=⟨#[]⟩) (jz (by decide) (by decide) a5 (lu (by decide)) (by decide) ll (by simp) pl0),?_⟩
 case inr.inr.inl=>
  have⟨g,j,a9,q,s⟩:=f.pick p C 5;obtain⟨t,ht⟩:∃t,flL[g.toNat]?=X t:=⟨_,aw (show g.toNat<5 by omega)⟩;have I:t.size<=19:=(show ∀t∈flL,t.size<=19 by decide) t (dj ht);refine⟨_,_,_,q.fin p (k:=24) (op:=0) (n:=0) (t:=t) (jz (by decide) (by decide) (by decide) (.inl ⟨by decide,I,uI (by omega)⟩) (by decide) ll (by simp) pl0) (ht:=I),λA E B h=>?_⟩;have b:=h.at
  have e:=b.cs;rcases(show g=0\/g=1\/g=2\/g=3\/g=4 by omega) with rfl|rfl|rfl|rfl|rfl;all_goals
   obtain rfl:=aJ (show X (_:ByteArray)=X t from ht);go_in;go_wp2_with fail;refine b.runC G λw1 i _=>?_;have a8:=i.cu;have e:=i.cs;go_wp2_with fail;refine i.al.runC s λK r a3=>?_;have bs:=Dg a8 a3;have v:=am r;go_wp2_with fail;refine v.out.nilI.nilS.add d.1.2 d.1.1 λad l=>?_;go_wp2;go_ret;exact⟨rfl,l.bd,l.bel⟩
 case inr.inr.inr.inl=>
  have⟨y,j,a7,bn,s⟩:=aqJ C w F.1 (by omega) F.2;have J:∀{t:ByteArray},Rb C T 162 [] c L (V S (L.length:Nat)) j (L++[dN 25 0 0 t [] []])->(Sml t/\w.r<=j.r\/(Lng t/\t.size<=4000/\w.r+1<=j.r))->(w.r<=3->j.r<=3)->∃z c' L',An T c L c' L' z 1 1 0/\Rb C T 162 [] c L (V S z) c' L':=λ{t} k h a6=>⟨_,_,_,⟨f.nx.add (jz (by decide) (by decide) (by decide) (.inr ⟨rfl,h.imp (λo=>o.1) λo=>⟨o.1,o.2.1⟩⟩) (by decide) ll (by simp) pl0) (by
   rcases h with h|h
   .rw[ada (show(dN 25 0 0 t [] []).x.size<=19 from h.1.1)];omega
   .have:bgN (dN 25 0 0 t [] [])<=1:=by unfold bgN;split<;>decide
    omega) a6,by simp,by simp,by simp;omega,⟨by omega,by omega⟩,by simp only[aG,bc,dE];omega⟩,k⟩
  by_cases bh:4000<y.size
  .have a4:(4000:Int)<(y.size:Int):=by omega
   refine J (t:=⟨#[99,117,116]⟩) (λA E B h=>?_) (.inl ⟨⟨by decide,uI⟩,by omega⟩) (by omega);have b:=h.at
   have e:=b.cs;go_in;go_wp2_with fail;refine b.runC G λw1 i _=>?_;have e:=i.cs;go_wp2_with fail;refine i.runC s λK r _=>?_;have e:=r.cs;have v:=am r;go_wp2_with fail;refine v.out.nilI.nilS.add d.1.2 d.1.1 λad l=>?_;go_wp2;go_ret;exact⟨rfl,l.bd,l.bel⟩
  .have a4:¬(4000:Int)<(y.size:Int):=by omega
   refine J (t:=y) (λA E B h=>?_) (a7.imp (λo=>⟨o.1,by omega⟩) λo=>⟨o.1,by omega,by omega⟩) (by omega);have b:=h.at
   have e:=b.cs;go_in;go_wp2_with fail;refine b.runC G λw1 i _=>?_;have e:=i.cs;go_wp2_with fail;refine i.runC s λK r _=>?_;have e:=r.cs;have v:=am r;go_wp2_with fail;refine v.out.nilI.nilS.add d.1.2 d.1.1 λad l=>?_;go_wp2;go_ret;exact⟨rfl,l.bd,l.bel⟩
 case' inr.inr.inr.inr.inl=>
  refine⟨_,_,_,f.fin p (k:=27) (op:=0) (n:=0) (t:=⟨#[]⟩) (jz (by decide) (by decide) (by decide) (lu (by decide)) (by decide) ll (by simp) pl0),?_⟩
 case' inr.inr.inr.inr.inr=>
  have⟨t,j,ht,q,s⟩:=f.short p C;refine⟨_,_,_,q.fin p (k:=26) (op:=0) (n:=0) (t:=t) (jz (by decide) (by decide) (by decide) (aha (by decide) ht) (by decide) ll (by simp) pl0) (ht:=by have:=ht.sz;omega),?_⟩;have bb:((z==0)=A0/\(z==1)=A0/\(z==2)=A0)/\(z==3)=A0/\(z==4)=A0/\(z==5)=A0:=by simp[ak,an,ao,ap,ar,aK]
 case' inr.inl=>rcases h12 with rfl|rfl
 all_goals
  intro A E B h;have b:=h.at
  have e:=b.cs;go_in
  repeat' (go_wp2_with (at_builtin;with_reducible refine At.app b rfl (by simp) rfl _ _ rfl rfl rfl ?_;clear b e;intro H ba u b;have e:=b.cs);first
   |(go_at_call 41;(first|with_reducible refine At.runC b (by assumption) ?_|with_reducible refine At.runC b.lit2 (by assumption) ?_|with_reducible refine At.runC b.lit1 (by assumption) ?_);clear b e;intro u b _;have e:=b.cs)
   |(go_at_call 207;with_reducible refine At.runC b (by assumption) ?_;clear b e;intro u b _;have e:=b.cs)
   |(go_at_call 83;with_reducible refine At.runR b (by assumption) ?_;clear b e;intro u H af b;have e:=b.cs)
   |(go_at_call 84;with_reducible refine At.runR b (by assumption) ?_;clear b e;intro u H af b;have e:=b.cs)
   |(go_at_call 82;(first|with_reducible refine At.kids b.lit1 d.1.2 d.1.1 ?_|with_reducible refine At.kids b.lit2 d.1.2 d.1.1 ?_|with_reducible refine At.kids b.nilI d.1.2 d.1.1 ?_);clear b e;intro u b;have e:=b.cs)
   |(go_at_call 85;(first|with_reducible refine At.add b.lit1.nilS d.1.2 d.1.1 ?_|with_reducible refine At.add b.lit2.nilS d.1.2 d.1.1 ?_|with_reducible refine At.add b.lit1.swap d.1.2 d.1.1 ?_|with_reducible refine At.add b.lit2.swap d.1.2 d.1.1 ?_|with_reducible refine At.add b.swap d.1.2 d.1.1 ?_|with_reducible refine At.add b d.1.2 d.1.1 ?_|with_reducible refine At.add b.nilS d.1.2 d.1.1 ?_|with_reducible refine At.add b.nilI.nilS d.1.2 d.1.1 ?_);clear b e;intro u b;have e:=b.cs)
   |(go_ret;exact⟨rfl,b.bd,b.bel⟩)
   |(with_reducible refine At.run b (by assumption) ?_;clear b e;intro u b;have e:=b.cs))
end
def Em(v:d<=0):FB 86 d 2 1 1 0:=by
 intro i g m j f;have⟨q,n,k,l,w⟩:=amt f i (by decide);refine⟨q,n,k,l,?_⟩;have b:(j.length<=25000/\ -100000<=g/\g<=100000)/\m.p<=20000000:=f.mv.len f (by decide);intro r t s p;have a:=p.at
 have c:=a.cs;go_in
 repeat' (go_wp2_with (at_builtin;with_reducible refine At.app a rfl (by simp) rfl _ _ rfl rfl rfl ?_;clear a c;intro h u e a;have c:=a.cs);first
  |(go_at_call 41;(first|with_reducible refine At.runC a (by assumption) ?_|with_reducible refine At.runC a.lit2 (by assumption) ?_|with_reducible refine At.runC a.lit1 (by assumption) ?_);clear a c;intro e a _;have c:=a.cs)
  |(go_at_call 83;with_reducible refine At.runR a (by assumption) ?_;clear a c;intro e h o a;have c:=a.cs)
  |(go_at_call 84;with_reducible refine At.runR a (by assumption) ?_;clear a c;intro e h o a;have c:=a.cs)
  |(go_at_call 82;(first|with_reducible refine At.kids a.lit1 b.1.2 b.1.1 ?_|with_reducible refine At.kids a.lit2 b.1.2 b.1.1 ?_|with_reducible refine At.kids a.nilI b.1.2 b.1.1 ?_);clear a c;intro e a;have c:=a.cs)
  |(go_at_call 85;(first|with_reducible refine At.add a.lit1.nilS b.1.2 b.1.1 ?_|with_reducible refine At.add a.lit2.nilS b.1.2 b.1.1 ?_|with_reducible refine At.add a.lit1.swap b.1.2 b.1.1 ?_|with_reducible refine At.add a.lit2.swap b.1.2 b.1.1 ?_|with_reducible refine At.add a.swap b.1.2 b.1.1 ?_|with_reducible refine At.add a b.1.2 b.1.1 ?_|with_reducible refine At.add a.nilS b.1.2 b.1.1 ?_|with_reducible refine At.add a.nilI.nilS b.1.2 b.1.1 ?_);clear a c;intro e a;have c:=a.cs)
  |(go_ret;exact⟨rfl,a.bd,a.bel⟩)
  |(with_reducible refine At.run a (by assumption) ?_;clear a c;intro e a;have c:=a.cs))
def aoi{mb mc cc:Int}(a0:1<=d/\d<=1000)(a6:(1<=me/\me+1<=m)/\(1<=mb/\mb+1<=m)/\(1<=mc/\mc+1<=m))(aK:1<=ce/\ce<=cb/\cb+1<=cc/\cc<=3800)(w:FB 86 (d-1) me 1 ce 0)(L:FB 160 (d-1) mb 2 cb 0)
  (ad:FB 81 d mc 12 cc 100) (ar:FB 163 d mc 12 cc 100) (hF:FB 87 d mc 12 cc 100):FB 86 d m 1 (cc+1) 0:=by
 intro f B ao F c;have bn:=w1 (d:=d) (by omega);have a5:=c.lo;have a7:=c.m0;have bk:¬d<=0:=by omega
 by_cases bl:B-F.length<5
 case' pos=>
  obtain⟨l,I,an,a,ba⟩:=amt c f (by have:=c.m0;omega);have e:(F.length<=25000/\ -100000<=B/\B<=100000)/\ao.p<=20000000:=c.mv.len c (by decide);refine⟨l,I,an,⟨a.nx,a.n,a.z,a.p,a.p0,by have:=a.lf;omega⟩,?_⟩;clear a
 case' neg=>
  obtain⟨n,I,a8,i,ba⟩:=c.mv.pick c f 14;rcases(show(n=0\/n=1\/n=2\/n=3)\/n=4\/(n=5\/n=6)\/n=7\/n=8\/(n=9\/n=10)\/n=11\/n=12\/n=13 by omega) with a9|rfl|hn2|rfl|rfl|hn2|rfl|rfl|rfl
  case' inl=>
   obtain⟨l,q,o,s,r,g,u⟩:=i.sub c f w;obtain⟨al,C,G,A,y,j,E⟩:=g.sub c f w;obtain⟨v,J,z,p,ak⟩:=j.pick c f 18;have e:=p.len c;have af:=wi (a:=1+v) (by omega);refine⟨_,_,_,p.fin c (k:=31) (op:=1+v) (n:=0) (t:=⟨#[]⟩) (jz (by decide) (by omega) (by decide) (lu (by decide)) (by decide) ll (by simp) (pl2 s A)),?_⟩;clear g j p r y z
  case' inr.inl=>
   obtain⟨l,q,o,s,r,g,u⟩:=i.sub c f w;obtain⟨al,C,G,A,y,j,E⟩:=g.sub c f w;obtain⟨v,J,z,p,ak⟩:=j.pick c f 2;have e:=p.len c;have af:=wi (a:=28+v) (by omega);refine⟨_,_,_,p.fin c (k:=28+v) (op:=0) (n:=0) (t:=⟨#[]⟩) (jz (by omega) (by decide) (by decide) (lu (by omega)) (by decide) ll (by simp) (pl2 s A)),?_⟩;clear g j p r y z
  case' inr.inr.inl=>
   obtain⟨l,q,o,s,r,g,u⟩:=i.sub c f w;obtain⟨v,J,z,p,ak⟩:=g.pick c f 4;have e:=p.len c;have af:=wi (a:=19+v) (by omega);refine⟨_,_,_,p.fin c (k:=30) (op:=19+v) (n:=0) (t:=⟨#[]⟩) (jz (by decide) (by omega) (by decide) (lu (by decide)) (by decide) ll (by simp) (pl1 s)),?_⟩;clear g p r z
  case' inr.inr.inr.inl=>
   obtain⟨l,q,o,s,r,g,u⟩:=i.sub c f L;obtain⟨al,C,G,A,y,j,E⟩:=g.sub c f w;have e:=j.len c;refine⟨_,_,_,j.fin c (k:=32) (op:=0) (n:=0) (t:=⟨#[]⟩) (jz (by decide) (by decide) (by decide) (lu (by decide)) (by decide) ll (by simp) (pl2 s A)),?_⟩;clear g j r y
  case' inr.inr.inr.inr.inl=>
   obtain⟨l,q,o,s,r,g,u⟩:=i.sub c f L;obtain⟨t,C,ht,j,E⟩:=g.short c f;have e:=j.len c;refine⟨_,_,_,j.fin c (k:=33) (op:=0) (n:=0) (t:=t) (jz (by decide) (by decide) (by decide) (aha (by decide) ht) (by decide) ll (by simp) (pl1 s)) (ht:=by have:=ht.sz;omega),?_⟩;clear g j r ht
  case' inr.inr.inr.inr.inr.inl=>
   obtain⟨l,q,o,a,u⟩:=i.tail c f ad;have e:=i.len c;refine⟨l,q,o,⟨a.nx,a.n,a.z,a.p,a.p0,by have:=a.lf;omega⟩,?_⟩;clear a
  case' inr.inr.inr.inr.inr.inr.inl=>
   obtain⟨l,q,o,a,u⟩:=i.tail c f ar;have e:=i.len c;refine⟨l,q,o,⟨a.nx,a.n,a.z,a.p,a.p0,by have:=a.lf;omega⟩,?_⟩;clear a
  case' inr.inr.inr.inr.inr.inr.inr.inl=>
   obtain⟨l,q,o,a,u⟩:=i.tail c f hF;have e:=i.len c;refine⟨l,q,o,⟨a.nx,a.n,a.z,a.p,a.p0,by have:=a.lf;omega⟩,?_⟩;clear a
  case' inr.inr.inr.inr.inr.inr.inr.inr=>
   obtain⟨l,q,o,s,r,g,u⟩:=i.sub c f ad;have e:=g.len c;refine⟨_,_,_,g.fin c (k:=37) (op:=0) (n:=0) (t:=⟨#[]⟩) (jz (by decide) (by decide) (by decide) (lu (by decide)) (by decide) ll (by simp) (pl1 s)),?_⟩;clear g r
  all_goals clear i a8
  all_goals (try rcases a9 with rfl|rfl|rfl|rfl)
  all_goals (try rcases hn2 with rfl|rfl)
 all_goals
  clear c a5 a7 aK a6 a0;intro bb bh bf K;have b:=K.at
  have h:=b.cs;clear K;go_in
  repeat' (go_wp2_with (at_builtin;with_reducible refine At.app b rfl (by simp) rfl _ _ rfl rfl rfl ?_;clear b h;intro H bj x b;have h:=b.cs);first
   |(go_at_call 41;(first|with_reducible refine At.runC b (by assumption) ?_|with_reducible refine At.runC b.lit2 (by assumption) ?_|with_reducible refine At.runC b.lit1 (by assumption) ?_);clear b h;intro x b _;have h:=b.cs)
   |(go_at_call 83;with_reducible refine At.runR b (by assumption) ?_;clear b h;intro x H ap b;have h:=b.cs)
   |(go_at_call 84;with_reducible refine At.runR b (by assumption) ?_;clear b h;intro x H ap b;have h:=b.cs)
   |(go_at_call 82;(first|with_reducible refine At.kids b.lit1 e.1.2 e.1.1 ?_|with_reducible refine At.kids b.lit2 e.1.2 e.1.1 ?_|with_reducible refine At.kids b.nilI e.1.2 e.1.1 ?_);clear b h;intro x b;have h:=b.cs)
   |(go_at_call 85;(first|with_reducible refine At.add b.lit1.nilS e.1.2 e.1.1 ?_|with_reducible refine At.add b.lit2.nilS e.1.2 e.1.1 ?_|with_reducible refine At.add b.lit1.swap e.1.2 e.1.1 ?_|with_reducible refine At.add b.lit2.swap e.1.2 e.1.1 ?_|with_reducible refine At.add b.swap e.1.2 e.1.1 ?_|with_reducible refine At.add b e.1.2 e.1.1 ?_|with_reducible refine At.add b.nilS e.1.2 e.1.1 ?_|with_reducible refine At.add b.nilI.nilS e.1.2 e.1.1 ?_);clear b h;intro x b;have h:=b.cs)
   |(go_ret;exact⟨rfl,b.bd,b.bel⟩)
   |(with_reducible refine At.run b (by assumption) ?_;clear b h;intro x b;have h:=b.cs))
inductive Xsc (C:Cd) (T:Int) (f:FuncId) (d:Int):Nat->Cr->List Nd->List Int->Cr->List Nd->Prop
 |nil (c:Cr) (L:List Nd):Xsc C T f d 0 c L [] c L
 |cons {n:Nat}{c c1 c2:Cr}{L L1 L2:List Nd}{z:Int}{l:List Int}:Rb C T f [.int .i64 d] c L (.int .i64 z) c1 L1->Xsc C T f d n c1 L1 l c2 L2->Xsc C T f d (n+1) c L (z::l) c2 L2
section
variable {T : Int} {c0 c : Cr} {L0 L : List Nd} {y m : Int}
def xsc(p:Pd T c0 L0 m)(C:Cd)(z:FB f d me s ce 0)(K:1<=me/\me+1<=m)(A:1<=s/\s<=4/\0<=ce/\ce<=3950):∀(n:Nat)(c:Cr)(L:List Nd),Mv T c0 L0 c L y->y<=500->n<=8-> -20000+12*me+s*n<=T-L.length->∃(l:List Int) (c':Cr) (L':List Nd),l.length=n/\Pl l/\(L.length<=L'.length/\Lf (s*n) (ce+s*n) (T-L.length) (T-L'.length)/\(n=0->L'.length=L.length)/\(1<=n->5<=T-L.length->5-ce-s*n+s<=T-L'.length))/\Mv T c0 L0 c' L' y/\Xsc C T f d n c L l c' L':=by
 intro n;have ad:=p.m0
 induction n with
 |zero=>exact λc L a _ _ _=>⟨[],c,L,rfl,pl0,⟨ag _,by simp;omega,λ_=>rfl,λJ=>by omega⟩,a,.nil c L⟩
 |succ n e=>
  intro c L a B af b;have t:s*((n+1:Nat):Int)=s*n+s:=by rw[show((n+1:Nat):Int)=n+1 by omega,Int.mul_add,Int.mul_one]
  have u:s*(n:Int)<=4*8:=Int.mul_le_mul A.2.1 (by omega) (by omega) (by decide);have v:0<=s*(n:Int):=Int.mul_nonneg (by omega) (by omega);rw[t]at b⊢;generalize s*(n:Int)=ak at e b u v⊢;have⟨G,q,i,E,H,k,h⟩:=a.sub p C z;have⟨l,r,j,w,x,I,o,g⟩:=e q i (by simpa using k) B (by omega) (by omega);exact⟨G::l,r,j,by simp[w],λF hx=>by rcases List.mem_cons.1 hx with rfl|hx;exact E;exact x F hx,⟨by omega,by omega,by omega,by omega⟩,o,.cons h g⟩
def Mv.exprs(p:Pd T c0 L0 m)(a:Mv T c0 L0 c L y)(C:Cd)(an:FB 86 d me 1 ce 0)(n:Nat)(ap:n<=8:=by omega)(ar:y<=500:=by omega)(x:1<=me/\me+1<=m:=by omega)(a4:0<=ce/\ce<=3950:=by omega)(w: -20000+12*me+8<=T-L.length:=by omega):
  ∃(ks:List Int) (c':Cr) (L':List Nd),ks.length=n/\Pl ks/\(L.length<=L'.length/\Lf n (ce+n) (T-L.length) (T-L'.length))/\Mv T c0 L0 c' L' y/\Rr C T 84 [V S n,V S d] c L 3 n (ks.map (Bk S)) c' L':=by
 have⟨ks,r,o,t,u,s,I,b⟩:=xsc p C an x (by omega) n c L a ar ap (by omega);refine⟨ks,r,o,t,u,⟨s.1,by simpa using s.2.1⟩,I,λB H G al=>?_⟩;have f:=al.at.nilI;go_in;go_wp2;go_loopw [1,7] (λl a0 wr=>∃(m h:Nat) (g k:List Int) (j:Cr) (i:List Nd),l= V S m/\m+h=n/\g.length=h/\At C T B H wr j i (rI a0 g::G)/\Xsc C T 86 d m j i k r o/\g++k=ks) (λl _ _=>(Ak l).toNat)
 case atStart=>exact⟨n,0,[],ks,c,L,rfl,rfl,rfl,f,b,rfl⟩
 case round=>
  obtain⟨m,h,g,k,j,i,rfl,ao,w,f,z,ak⟩:=hrel;have e:=kK ao w ak;have a5:m<=n:=by omega
  cases z with
  |@cons m _ ad _ _ F _ a1 aK E A=>
   have x:(0:Int)<((m+1:Nat):Int):=by omega
   have a6:IntKind.i64.wrap (((m+1:Nat):Int)-1)=(m:Int):=by rw[dr];omega
   go_wp2_with fail;refine f.run E λw1 J=>?_;have b:=am J;go_wp2_with (at_builtin;refine b.out.app e.2.1 (by have:=e.1;omega) rfl _ _ rfl rfl rfl ?_;intro q a3 a7 K);go_roundw
   case rel=>exact⟨m,h+1,g++[a1],aK,ad,F,by go_num,by have:=e.1;omega,by simp[e.2.1],K,A,by rw[bC];exact e.2.2⟩
   case measure=>simp[Ak]
  |nil=>
   have⟨t,u,v⟩:=e.out;rw[dk]at v;subst v;obtain⟨q,af,rfl⟩:=f.form;rw[bq,show g.length=n by omega]at f⊢;have b:=am f;go_wp2;go_ret;exact⟨q,af,rfl,b.out.bd,b.out.bel⟩
end
def At.intAt{E:Bs}{W w:Ax}{R:List Rwx}{a:Option Addr}{n j:Nat}(h:At C T E W w c L (r::rI (O a n j) ks::R)){i:Nat}(e:ks[i]?=X z):∃g,a=X ⟨g,0,U⟩/\w.cell? ⟨g,i,U⟩=X (V S z):=by
 obtain⟨⟨k,_,f⟩,_⟩:=h;have b:=(f.rows _ (cG _ aI)).2;simp only[bq]at b;have o:=(List.getElem?_eq_some_iff.1 e).1;rcases bJ b with⟨m,_⟩|⟨g,l,d⟩
 .omega
 .simp at d;obtain⟨rfl,rfl,rfl⟩:=d;refine⟨g,rfl,?_⟩;rw[b.cellAt i (by omega),cD,e];rfl
def amu{mb:Int}(ar:1<=mb/\mb+1<=m/\1<=me/\me+2<=m)(an:0<=ce/\ce<=cb/\cb<=3900)(x: -1000<=d/\d<=1000)(ak:FB 160 (d-1) mb 2 cb 0)(al:FB 86 (d-1) me 1 ce 0):FB 81 d m 5 (cb+3) 100:=by
 intro h F a9 a7 c;have ap:=c.lo;have aK:=c.m0;have br:=w1 x;have⟨f,ba,a8,z,ad,o,a0⟩:=c.mv.sub c h ak;have⟨n,I,y,i,a4⟩:=o.pick c h 3;obtain⟨n,rfl⟩:=iE y.1;have⟨ks,J,C,bj,v,af,j,a5⟩:=i.exprs c h al n;have w:=j.len c;refine⟨_,_,_,j.fin c (k:=34) (op:=0) (n:=0) (t:=⟨#[]⟩) (nm:=[]) (ks:=f::ks) (jz (by decide) (by decide) (by decide) (lu (by decide)) (by decide) ll (by simp;omega) (λg hx=>by rcases List.mem_cons.1 hx with rfl|hx;exact z;exact v g hx)),λA G E u=>?_⟩;have bo:n<3:=by omega
 clear o i j ad af c ap aK an ar x y z v;have b:=u.at
 clear u;go_in;go_wp2_with fail;refine b.run a0 λw1 l=>?_;clear b;have L:=l.cs;go_wp2_with fail;refine l.lit1.runC a4 λbs q _=>?_;clear l L;go_wp2_with fail;refine q.runR a5 λbt p K r=>?_;have e:=am r.swap;clear q r;go_wp2_with fail;go_loopw [6,25] (λa6 iv wr=>∃(a:Nat),iv= V S a/\a<=n/\At h F A G wr J C (rI a6 (f::ks.take a)::rI (O p n K) ks::E)) (λ_ iv _=>n-(Ak iv).toNat)
 case atStart=>exact⟨0,rfl,aD _,e.out⟩
 case round=>
  obtain⟨a,rfl,bn,b⟩:=hrel;by_cases bk:a<n
  .obtain⟨g,hx⟩:∃g,ks[a]?=X g:=⟨_,aw (by omega)⟩;obtain⟨bh,rfl,bf⟩:=b.intAt hx;have bl:(0:Int)<=(a:Int):=by omega
   have ao:(a:Int)<(n:Int):=by omega
   have e:=gF b (show(f::ks.take a).length=a+1 by simp;omega);have B:=am (show f::ks.take (a+1)=f::ks.take a++[g] by rw[iC,hx];rfl);go_wp2_with (at_builtin;refine e.1.app e.2 (by omega) rfl _ _ rfl rfl rfl ?_;intro p bb bv H);go_roundw
   case rel=>exact⟨a+1,by go_num,by omega,by rw[B.out];exact H⟩
   case measure=>simp[Ak];omega
  .obtain⟨i,I,rfl⟩:=b.form;have ao:¬(a:Int)<(n:Int):=by omega
   rw[bq,show(f::ks.take a).length=a+1 by simp;omega]at b⊢;rw[dl (by omega)]at b;have e:=am (b.swap.drop.nilS);go_wp2_with fail;refine e.out.add w.1.2 w.1.1 λw5 s=>?_;go_wp2;go_ret;exact⟨rfl,s.bd,s.bel⟩
inductive Bkc (C:Cd) (T:Int) (d:Int):Nat->Cr->List Nd->List Int->Cr->List Nd->Prop
 |stop {n:Nat}{c:Cr}{L:List Nd}:n=0\/¬5<T-L.length->Bkc C T d n c L [] c L
 |cons {n:Nat}{c c1 c2:Cr}{L L1 L2:List Nd}{z:Int}{l:List Int}:5<T-L.length->Rb C T 42 [.int .i64 d] c L (.int .i64 z) c1 L1->Bkc C T d n c1 L1 l c2 L2->Bkc C T d (n+1) c L (z::l) c2 L2
section
variable {T : Int} {c0 c : Cr} {L0 L : List Nd} {y m : Int}
def bkc(p:Pd T c0 L0 m)(C:Cd){ms cs:Int}(hS:FB 42 d ms 6 cs 0)(A:1<=ms/\ms+1<=m)(z:0<=cs/\cs<=3900)(E:y<=500):∀(n:Nat)(c:Cr)(L:List Nd),Mv T c0 L0 c L y->∃(l:List Int) (c':Cr) (L':List Nd),l.length<=n/\Pl l/\((T-L.length<5->L'.length=L.length)/\(5<=T-L.length->5-cs<=T-L'.length))/\Mv T c0 L0 c' L' y/\Bkc C T d n c L l c' L':=by
 intro n;have B:=p.m0
 induction n with
 |zero=>exact λc L a=>⟨[],c,L,ag _,pl0,by omega,a,.stop (.inl rfl)⟩
 |succ n t=>
  intro c L a;by_cases b:5<T-L.length
  .obtain⟨v,k,g,s,w,i,f⟩:=a.sub p C hS;have⟨l,o,h,q,r,x,j,e⟩:=t k g (by simpa using i);exact⟨v::l,o,h,by simp[q],λu hx=>by rcases List.mem_cons.1 hx with rfl|hx;exact s;exact r u hx,by omega,j,.cons b f e⟩
  .exact⟨[],c,L,aD _,pl0,by omega,a,.stop (.inr b)⟩
end
def ahr{ms cs:Int}(G:1<=ms/\ms+1<=m)(F:0<=cs/\cs<=3900)(hS:FB 42 d ms 6 cs 0):FB 90 d m 1 (cs+1) 100:=by
 intro g l ba u c;have a0:=c.lo;have a3:=c.m0;have⟨n,A,H,w,a6⟩:=c.mv.pick c g 4;obtain⟨n,rfl⟩:=iE H.1;have⟨ks,ao,v,aK,C,ar,o,e⟩:=bkc c g hS G F (by decide) n A u w;have E:=o.len c;refine⟨_,_,_,o.fin c (k:=1) (op:=0) (n:=0) (t:=⟨#[]⟩) (nm:=[]) (ks:=ks) (jz (by decide) (by decide) (by decide) (lu (by decide)) (by decide) ll (by omega) C),λK ak af B=>?_⟩;have bl:n<=3:=by omega
 have b:=B.at.nilI;have cs:=b.cs;clear w o ar c a0 a3 F G H C B aK hS;go_in;go_wp2_with fail;refine b.runC a6 λw1 x _=>?_;clear b cs;go_wp2;go_loopw [5,6] (λa8 s wr=>∃(a:Nat) (f r:List Int) (p:Cr) (j:List Nd),s= V S a/\f.length+a<=3/\At g l K ak wr p j (rI a8 f::af)/\Bkc g l d a p j r ao v/\f++r=ks) (λ_ s _=>(Ak s).toNat)
 case atStart=>exact⟨n,[],ks,A,u,rfl,by simp;omega,x,e,rfl⟩
 case round=>
  clear x e;obtain⟨a,f,r,p,j,rfl,q,b,I,h⟩:=hrel;have cs:=b.cs;cases I with
  |@cons a _ ap _ _ ad _ a9 a7 bh L J=>
   have bj:(0:Int)<((a+1:Nat):Int):=by omega
   have bn:IntKind.i64.wrap (((a+1:Nat):Int)-1)=(a:Int):=by rw[dr];omega
   have i:=gF q h;have bk:a<=3:=by omega
   clear q h;go_wp2_with fail;refine b.run L λbr y=>?_;have e:=am y;clear b y cs;go_wp2_with (at_builtin;refine e.out.app rfl (by have:=i.1;omega) rfl _ _ rfl rfl rfl ?_;intro al bf bs an);go_roundw
   case rel=>exact⟨a,f++[a9],a7,ap,ad,by go_num,by have:=i.1;simp;omega,an,J,by rw[bC];exact i.2⟩
   case measure=>simp[Ak]
  |stop a5=>
   rw[dk]at h;subst h;obtain⟨al,bb,rfl⟩:=b.form;rw[bq]at b⊢;have e:=am b.nilS;clear b;have a4:(0<(a:Int)/\¬5<l-v.length)\/¬0<(a:Int):=by omega
   clear a5 q;rcases a4 with⟨q1,bo⟩|q1;all_goals
    go_wp2_with fail;refine e.out.add E.1.2 E.1.1 λw5 z=>?_;go_wp2;go_ret;exact⟨rfl,z.bd,z.bel⟩
inductive Tbc (C:Cd) (T:Int) (d:Int):Nat->Cr->List Nd->List Int->Cr->List Nd->Prop
 |nil (c:Cr) (L:List Nd):Tbc C T d 0 c L [] c L
 |item {n:Nat}{c c1 c2 c3:Cr}{L L1 L3:List Nd}{z:Int}{l:List Int}:Rb C T 86 [.int .i64 d] c L (.int .i64 z) c1 L1->Rc C 41 [.int .i64 3] c1 (.int .i64 0) c2->L1.length<=25000->Tbc C T d n c2 (L1++[dN 40 0 0 ⟨#[]⟩ [] [z]]) l c3 L3->Tbc C T d (n+1) c L ((L1.length:Nat)::l) c3 L3
 |pair {n:Nat}{c c1 c2 c3 c4:Cr}{L L1 L2 L3:List Nd}{z y:Int}{l:List Int}:Rb C T 86 [.int .i64 d] c L (.int .i64 z) c1 L1->Rc C 41 [.int .i64 3] c1 (.int .i64 1) c2->Rb C T 86 [.int .i64 d] c2 L1 (.int .i64 y) c4 L2->L2.length<=25000->Tbc C T d n c4 (L2++[dN 41 0 0 ⟨#[]⟩ [] [z,y]]) l c3 L3->Tbc C T d (n+1) c L ((L2.length:Nat)::l) c3 L3
 |named {n:Nat}{c c1 c2 c3 c4:Cr}{L L1 L3:List Nd}{z o:Int}{t:ByteArray}{l:List Int}:Rb C T 86 [.int .i64 d] c L (.int .i64 z) c1 L1->Rc C 41 [.int .i64 3] c1 (.int .i64 o) c2->((o==0)=false/\(o==1)=false)->Rb C T 161 [] c2 L1 (.string t) c4 L1->L1.length<=25000->Tbc C T d n c4 (L1++[dN 42 0 0 t [] [z]]) l c3 L3->Tbc C T d (n+1) c L ((L1.length:Nat)::l) c3 L3
section
variable {T : Int} {c0 c : Cr} {L0 L : List Nd} {y m : Int}
def tbc(p:Pd T c0 L0 m)(C:Cd)(I:FB 86 d me 1 ce 0)(a6:1<=me/\me+1<=m)(aK:0<=ce/\ce<=3900):∀(n:Nat)(c:Cr)(L:List Nd)(y:Int),Mv T c0 L0 c L y->y<=400->n<=3-> -20000+12*me+3*n<=T-L.length->∃(l:List Int) (c':Cr) (L':List Nd) (b:Int),b<=y/\l.length=n/\Pl l/\(L.length<=L'.length/\Lf (3*n) (ce+3*n) (T-L.length) (T-L'.length))/\Mv T c0 L0 c' L' b/\Tbc C T d n c L l c' L':=by
 intro n;have a7:=p.m0
 induction n with
 |zero=>exact λc L y u _ _ _=>⟨[],c,L,y,Int.le_refl _,rfl,pl0,⟨ag _,by simp;omega⟩,u,.nil c L⟩
 |succ n z=>
  intro c L y u ba a8 a0;have⟨F,ap,an,x,ar,ad,A⟩:=u.sub p C I;have⟨t,af,a9,s,B⟩:=ad.pick p C 3;have g:∀{G:List Nd}{N:Nd},((G++[N]).length:Int)=G.length+1:=by simp
  rcases(show t=0\/t=1\/(t≠0/\t≠1) by omega) with rfl|rfl|⟨ak,al⟩
  .have r:=s.len p;have e:=s.on (N:=dN 40 0 0 ⟨#[]⟩ [] [F]) (jz (by decide) (by decide) (by decide) (lu (by decide)) (by decide) ll (by simp) (pl1 x)) (aD 19) (by omega);obtain⟨l,k,i,b,H,o,q,a,j,h⟩:=z af _ _ e (by omega) (by omega) (by rw[g];omega);rw[g]at a;exact⟨_::l,k,i,b,by omega,by simp[o],λf hx=>by rcases List.mem_cons.1 hx with rfl|hx;exact⟨by omega,by omega⟩;exact q f hx,⟨by have:=a.1;simp at this;omega,by omega⟩,j,.item A B r.1.1 h⟩
  .obtain⟨f,w,ao,hx,av,e,E⟩:=s.sub p C I;have r:=e.len p;have v:=e.on (N:=dN 41 0 0 ⟨#[]⟩ [] [F,f]) (jz (by decide) (by decide) (by decide) (lu (by decide)) (by decide) ll (by simp) (pl2 x hx)) (aD 19) (by omega);obtain⟨l,k,i,b,H,o,q,a,j,h⟩:=z w _ _ v (by omega) (by omega) (by rw[g];omega);rw[g]at a;exact⟨_::l,k,i,b,by omega,by simp[o],λf hx=>by rcases List.mem_cons.1 hx with rfl|hx;exact⟨by omega,by omega⟩;exact q f hx,⟨by have:=a.1;simp at this;omega,by omega⟩,j,.pair A B E r.1.1 h⟩
  .obtain⟨K,w,J,e,E⟩:=s.short p C;have r:=e.len p;have v:=e.on (N:=dN 42 0 0 K [] [F]) (jz (by decide) (by decide) (by decide) (aha (by decide) J) (by decide) ll (by simp) (pl1 x)) (by have:=J.sz;show K.size<=19;omega) (by omega);obtain⟨l,k,i,b,H,o,q,a,j,h⟩:=z w _ _ v (by omega) (by omega) (by rw[g];omega);rw[g]at a;exact⟨_::l,k,i,b,by omega,by simp[o],λf hx=>by rcases List.mem_cons.1 hx with rfl|hx;exact⟨by omega,by omega⟩;exact q f hx,⟨by have:=a.1;simp at this;omega,by omega⟩,j,.named A B ⟨by simpa using ak,by simpa using al⟩ E r.1.1 h⟩
end
def aoj(a4:1<=me/\me+1<=m)(ar:0<=ce/\ce<=3900)(aK: -1000<=d/\d<=1000)(ap:FB 86 (d-1) me 1 ce 0):FB 163 d m 10 (ce+10) 100:=by
 intro x K bE I j;have bt:=j.lo;have bv:=j.m0;have ca:=w1 aK;have⟨n,af,a5,L,bx⟩:=j.mv.pick j x 4;obtain⟨n,rfl⟩:=iE a5.1;obtain⟨ks,bn,bj,cd,bw,bs,ao,br,A,e⟩:=tbc j x ap a4 ar n af I _ L (by decide) (by omega) (by omega);have E:=A.len j;have F:=E.1.2;refine⟨_,_,_,A.fin j (k:=35) (op:=0) (n:=0) (t:=⟨#[]⟩) (nm:=[]) (ks:=ks) (jz (by decide) (by decide) (by decide) (lu (by decide)) (by decide) ll (by omega) ao),λbh bl bk an=>?_⟩;have b8:n<=3:=by omega
 have b:=an.at.nilI;have l:=b.cs;clear L A br j bt bv ar a4 a5 ao an bs ap aK bw;go_in;go_wp2_with fail;refine b.runC bx λw1 ad _=>?_;clear b l;go_wp2;go_loopw [5,6] (λbA H wr=>∃(a:Nat) (o G:List Int) (C:Cr) (z:List Nd),H= V S a/\o.length+a<=3/\At x K bh bl wr C z (rI bA o::bk)/\Tbc x K (d-1) a C z G bn bj/\o++G=ks) (λ_ H _=>(Ak H).toNat)
 case atStart=>exact⟨n,[],ks,af,I,rfl,by simp;omega,ad,e,rfl⟩
 case round=>
  clear ad e;obtain⟨a,o,G,C,z,rfl,a0,b,bf,u⟩:=hrel;have f:=gF a0 u;have b7:a<=3:=by omega
  clear a0 u;cases bf with
  |nil=>
   have u:=f.2;rw[dk]at u;subst u;obtain⟨B,b0,rfl⟩:=b.form;rw[bq]at b⊢;have e:=am b.nilS;clear b;go_wp2_with fail;refine e.out.add E.1.2 E.1.1 λw5 i=>?_;go_wp2;go_ret;exact⟨rfl,i.bd,i.bel⟩
  |@item a _ ak c5 _ _ J _ bb w q r v p=>
   have a3:(0:Int)<((a+1:Nat):Int):=by omega
   have a6:IntKind.i64.wrap (((a+1:Nat):Int)-1)=(a:Int):=by rw[dr];omega
   go_wp2_with fail;refine b.run q λa7 c=>?_;clear b;have l:=c.cs;go_wp2_with fail;refine c.runC r λa8 g _=>?_;clear c l;go_wp2_with fail;refine g.lit1.kids F v λa9 h=>?_;have e:=am h;clear g h;go_wp2_with (at_builtin;refine e.out.app rfl (by have:=f.1;omega) rfl _ _ rfl rfl rfl ?_;intro B al ba s);go_roundw
   case rel=>exact⟨a,o++[_],w,_,_,by go_num,by have:=f.1;simp;omega,s,p,by rw[bC];exact f.2⟩
   case measure=>simp[Ak]
  |@pair a _ ak c5 _ bo _ J bD _ bb cc w q r y v p=>
   have a3:(0:Int)<((a+1:Nat):Int):=by omega
   have a6:IntKind.i64.wrap (((a+1:Nat):Int)-1)=(a:Int):=by rw[dr];omega
   go_wp2_with fail;refine b.run q λa7 c=>?_;clear b;have l:=c.cs;go_wp2_with fail;refine c.runC r λa8 g _=>?_;clear c l;go_wp2_with fail;refine g.run y λa9 h=>?_;clear g;go_wp2_with fail;refine h.lit2.kids F v λw5 i=>?_;have e:=am i;clear h i;go_wp2_with (at_builtin;refine e.out.app rfl (by have:=f.1;omega) rfl _ _ rfl rfl rfl ?_;intro B al ba s);go_roundw
   case rel=>exact⟨a,o++[_],w,_,_,by go_num,by have:=f.1;simp;omega,s,p,by rw[bC];exact f.2⟩
   case measure=>simp[Ak]
  |@named a _ ak c5 _ bo _ J _ bb cb t w q r b9 y v p=>
   have a3:(0:Int)<((a+1:Nat):Int):=by omega
   have a6:IntKind.i64.wrap (((a+1:Nat):Int)-1)=(a:Int):=by rw[dr];omega
   go_wp2_with fail;refine b.run q λa7 c=>?_;clear b;have l:=c.cs;go_wp2_with fail;refine c.runC r λa8 g _=>?_;clear c l;go_wp2_with fail;refine g.run y λa9 h=>?_;clear g;go_wp2_with fail;refine h.lit1.nilS.add F v λw5 i=>?_;have e:=am i;clear h i;go_wp2_with (at_builtin;refine e.out.app rfl (by have:=f.1;omega) rfl _ _ rfl rfl rfl ?_;intro B al ba s);go_roundw
   case rel=>exact⟨a,o++[_],w,_,_,by go_num,by have:=f.1;simp;omega,s,p,by rw[bC];exact f.2⟩
   case measure=>simp[Ak]
def FBl(f:FuncId)(d m s k b:Int):Prop:=∀ ⦃C:Cd⦄ ⦃T:Int⦄ ⦃c:Cr⦄ ⦃L:List Nd⦄,Pd T c L m->T-L.length<=b->∃z c' L',An T c L c' L' z s k 100/\Rb C T f [V S d] c L (V S z) c' L'
def FBl.all(h:FBl f d m s k 140):FB f d m s k 100:=λ_ _ _ _ a=>h a (by have:=a.sum;omega)
def Mv.subL{g:Cr}{e:List Nd}(p:Pd T g e m)(a:Mv T g e c L y)(C:Cd){b:Int}(hF:FBl f d m' s k b)(t:T-L.length<=b)(G:1<=m'/\m'+1<=m)(I:y<=500)(u: -20000+12*m'<=T-L.length)(H:s<=12/\k<=4000):
  ∃(z:Int) (c':Cr) (L':List Nd),(0<=z/\z<=100000)/\(L.length<L'.length/\z=L'.length-1/\Lf s k (T-L.length) (T-L'.length))/\Mv T g e c' L' (y-100)/\Rb C T f [V S d] c L (V S z) c' L':=by
 have F:=a.len p;have w:=p.hx;have x:=a.p;have r:=a.p0;have A:=p.m0;have B:=a.n;have E:=p.sum;obtain⟨z,c',L',b,h⟩:=hF (C:=C) (T:=T) (c:=c) (L:=L) ⟨p.sum,u,by omega,by omega,r⟩ t;obtain⟨i,j,l,v,o,q⟩:=b;exact⟨z,c',L',by omega,⟨j,l,q⟩,⟨a.nx.trans i,by omega,by omega,o,by omega⟩,h⟩
def IJ{mk mr ck cr b:Int}(A: -1000<=d/\d<=1000)(B:(1<=me/\me+1<=m)/\(1<=mk/\mk+1<=m)/\(1<=mr/\mr+1<=m))(L:(0<=ce/\ce+3<=k)/\(0<=ck/\ck+3<=k)/\(0<=cr/\cr+1<=k)/\k<=3800)(K:FB 86 d me 1 ce 0)(y:FB 90 (d-1) mk 1 ck 0)
  (z:10<b->FBl 89 (d-1) mr 4 cr (b-2)):FBl 89 d m 4 k b:=by
 intro i F a6 ar c ad;have bh:=w1 A;have af:=c.lo;have ak:=c.m0;obtain⟨bo,a7,aK,q,I,r,bj⟩:=c.mv.sub c i K;obtain⟨bn,a8,C,p,J,s,bk⟩:=r.sub c i y;obtain⟨n,a9,al,g,bl⟩:=s.pick c i 3;have l:=jz (k:=7) (op:=0) (n:=0) (t:=⟨#[]⟩) (by decide) (by decide) (by decide) (lu (by decide)) (by decide) ll (by simp) (pl2 q p);have a:=g.len c;rcases(show n=0\/n=1\/(n≠0/\n≠1) by omega) with rfl|rfl|⟨v,w⟩
 case' inl=>
  obtain⟨ao,G,E,o,j,f,an⟩:=g.sub c i y;have a:=f.len c;refine⟨_,_,_,f.fin c (jz (k:=7) (op:=0) (n:=0) (t:=⟨#[]⟩) (by decide) (by decide) (by decide) (lu (by decide)) (by decide) ll (by simp) ((pl2 q p).add o)),?_⟩;clear f j
 case' inr.inl=>
  by_cases bf:10<F-C.length
  case' pos=>
   obtain⟨ao,G,E,o,j,f,an⟩:=g.subL c i (z (by omega)) (by omega) B.2.2 (by omega) (by omega) (by omega);have a:=f.len c;refine⟨_,_,_,f.fin c (jz (k:=7) (op:=0) (n:=0) (t:=⟨#[]⟩) (by decide) (by decide) (by decide) (lu (by decide)) (by decide) ll (by simp) ((pl2 q p).add o)),?_⟩;clear f j
  case' neg=>refine⟨_,_,_,g.fin c l,?_⟩
 case' inr.inr=>
  refine⟨_,_,_,g.fin c l,?_⟩;have bb:(n==0)=A0/\(n==1)=A0:=by simp[v,w]
  clear v w
 all_goals
  clear r s g I J al l c af ak L B A ad z;intro ap a5 a0 x;have b:=x.at
  have e:=b.cs;clear x;go_in
  repeat' (go_wp2_with (at_builtin;with_reducible refine At.app b rfl (by simp) rfl _ _ rfl rfl rfl ?_;clear b e;intro u ba h b;have e:=b.cs);first
   |(go_at_call 41;(first|with_reducible refine At.runC b (by assumption) ?_|with_reducible refine At.runC b.lit2 (by assumption) ?_|with_reducible refine At.runC b.lit1 (by assumption) ?_);clear b e;intro h b _;have e:=b.cs)
   |(go_at_call 83;with_reducible refine At.runR b (by assumption) ?_;clear b e;intro h u H b;have e:=b.cs)
   |(go_at_call 84;with_reducible refine At.runR b (by assumption) ?_;clear b e;intro h u H b;have e:=b.cs)
   |(go_at_call 82;(first|with_reducible refine At.kids b.lit1 a.1.2 a.1.1 ?_|with_reducible refine At.kids b.lit2 a.1.2 a.1.1 ?_|with_reducible refine At.kids b.nilI a.1.2 a.1.1 ?_);clear b e;intro h b;have e:=b.cs)
   |(go_at_call 85;(first|with_reducible refine At.add b.lit1.nilS a.1.2 a.1.1 ?_|with_reducible refine At.add b.lit2.nilS a.1.2 a.1.1 ?_|with_reducible refine At.add b.lit1.swap a.1.2 a.1.1 ?_|with_reducible refine At.add b.lit2.swap a.1.2 a.1.1 ?_|with_reducible refine At.add b.swap a.1.2 a.1.1 ?_|with_reducible refine At.add b a.1.2 a.1.1 ?_|with_reducible refine At.add b.nilS a.1.2 a.1.1 ?_|with_reducible refine At.add b.nilI.nilS a.1.2 a.1.1 ?_);clear b e;intro h b;have e:=b.cs)
   |(go_ret;exact⟨rfl,b.bd,b.bel⟩)
   |(with_reducible refine At.run b (by assumption) ?_;clear b e;intro h b;have e:=b.cs))
def aok{C':Int}(G:d<=0)(s:2<=m)(q:0<=C'/\C'<=3800)(p:FB 81 1 (m-1) 5 C' 0):FB 42 d m 6 (C'+1) 0:=by
 intro j A C x e;have r:=e.lo;have u:=e.m0;obtain⟨I,E,y,v,o,g,H⟩:=e.mv.sub e j p;have b:=g.len e;refine⟨_,_,_,g.fin e (k:=6) (op:=0) (n:=0) (t:=⟨#[]⟩) (jz (by decide) (by decide) (by decide) (lu (by decide)) (by decide) ll (by simp) (pl1 v)),?_⟩;clear g o e r u q s;intro w B z i;have a:=i.at
 have c:=a.cs;clear i;go_in
 repeat' (go_wp2_with (at_builtin;with_reducible refine At.app a rfl (by simp) rfl _ _ rfl rfl rfl ?_;clear a c;intro h F f a;have c:=a.cs);first
  |(go_at_call 41;(first|with_reducible refine At.runC a (by assumption) ?_|with_reducible refine At.runC a.lit2 (by assumption) ?_|with_reducible refine At.runC a.lit1 (by assumption) ?_);clear a c;intro f a _;have c:=a.cs)
  |(go_at_call 83;with_reducible refine At.runR a (by assumption) ?_;clear a c;intro f h l a;have c:=a.cs)
  |(go_at_call 84;with_reducible refine At.runR a (by assumption) ?_;clear a c;intro f h l a;have c:=a.cs)
  |(go_at_call 82;(first|with_reducible refine At.kids a.lit1 b.1.2 b.1.1 ?_|with_reducible refine At.kids a.lit2 b.1.2 b.1.1 ?_|with_reducible refine At.kids a.nilI b.1.2 b.1.1 ?_);clear a c;intro f a;have c:=a.cs)
  |(go_at_call 85;(first|with_reducible refine At.add a.lit1.nilS b.1.2 b.1.1 ?_|with_reducible refine At.add a.lit2.nilS b.1.2 b.1.1 ?_|with_reducible refine At.add a.lit1.swap b.1.2 b.1.1 ?_|with_reducible refine At.add a.lit2.swap b.1.2 b.1.1 ?_|with_reducible refine At.add a.swap b.1.2 b.1.1 ?_|with_reducible refine At.add a b.1.2 b.1.1 ?_|with_reducible refine At.add a.nilS b.1.2 b.1.1 ?_|with_reducible refine At.add a.nilI.nilS b.1.2 b.1.1 ?_);clear a c;intro f a;have c:=a.cs)
  |(go_ret;exact⟨rfl,a.bd,a.bel⟩)
  |(with_reducible refine At.run a (by assumption) ?_;clear a c;intro f a;have c:=a.cs))
def aq4{l v K c5:Cr}{n i:List Nd}{o u:Int}{q e:Nat}{f:List Int}(bt:1<=d/\d<=1000)(bE:¬T-L.length<8)(a9:z=4\/z=5\/z=6)(ba:Rc C 41 [V S 17] c (V S z) c1)(bb:Rc C 41 [V S 2] c1 (V S o) l)(b0:IntKind.i64.wrap (1+o)=(q:Int))(b7:q<=3)(B:Xsc C T 88 d q l L ks v n)(bf:Rc C 41 [V S 2] v (V S u) K)(b6:IntKind.i64.wrap (1+u)=(e:Int))(b8:e<=3)(bh:Rr C T 84 [V S e,V S d] K n 3 e (f.map (Bk S)) c5 i)(af:ks.length=q)(bs:f.length=e)(ak:(i.length<=25000/\ -100000<=T/\T<=100000)/\c5.p<=20000000):Rb C T 42 [V S d] c L (V S (i.length:Nat)) c5 (i++[dN 5 0 q ⟨#[]⟩ [] (ks++f)]):=by
 intro F H G a6;have b:=a6.at
 have ad:=b.cs;have bv:¬d<=0:=by omega
 rcases a9 with rfl|rfl|rfl;all_goals
  go_in;go_wp2_with fail;refine b.runC ba λw1 I _=>?_;have ad:=I.cs;go_wp2_with fail;refine I.runC bb λb9 a1 _=>?_;go_wp2;go_loopw [11,13] (λA iv wr=>∃(a:Nat) (k:Nat) (g y:List Int) (w:Cr) (r:List Nd),iv= V S a/\a+k=q/\g.length=a/\At C T F H wr w r (rI A g::G)/\Xsc C T 88 d k w r y v n/\g++y=ks) (λ_ iv _=>q-(Ak iv).toNat)
  case atStart=>exact⟨0,q,[],ks,l,L,rfl,by simp,rfl,a1.nilI,B,rfl⟩
  case round=>
   obtain⟨a,k,g,y,w,r,rfl,a7,a8,b,ao,m⟩:=hrel;have h:=kK a7 a8 m;have bD:a<=q:=by omega
   cases ao with
   |@cons k _ a3 _ _ a0 _ bl bj aK ap=>
    have x:(a:Int)<(q:Int):=by omega
    go_wp2_with fail;refine b.run aK λbk t=>?_;have B:=am t;go_wp2_with (at_builtin;refine B.out.app h.2.1 (by omega) rfl _ _ rfl rfl rfl ?_;intro s a5 an j);go_roundw
    case rel=>exact⟨a+1,k,g++[bl],bj,a3,a0,by go_num,by have:=h.1;omega,by simp[h.2.1],j,ap,by rw[bC];exact h.2.2⟩
    case measure=>simp[Ak];omega
   |nil=>
    have x:¬(a:Int)<(q:Int):=by omega
    have m:=h.2.2;rw[dk]at m;subst m;have ad:=b.cs;go_wp2_with fail;refine b.runC bf λbk t _=>?_;go_wp2_with fail;refine t.runR bh λan s a4 j=>?_;have B:=am j.swap;go_wp2;go_loopw [11,118] (λA iv wr=>∃(a:Nat),iv= V S a/\a<=e/\At C T F H wr c5 i (rI A (g++f.take a)::rI (O s e a4) f::G)) (λ_ iv _=>e-(Ak iv).toNat)
    case atStart=>exact⟨0,rfl,aD _,by simpa using B.out⟩
    case round=>
     obtain⟨a,rfl,bA,b⟩:=hrel;by_cases bw:a<e
     .obtain⟨E,al⟩:∃E,f[a]?=X E:=⟨_,aw (by omega)⟩;obtain⟨br,rfl,bo⟩:=b.intAt al;have bx:(0:Int)<=(a:Int):=by omega
      have x:(a:Int)<(e:Int):=by omega
      have B:=gF b (show(g++f.take a).length=q+a by rw[aG,gJ,af];omega);have ar:=am (show g++f.take (a+1)=g++f.take a++[E] by rw[iC,al,bC];rfl);go_wp2_with (at_builtin;refine B.1.app B.2 (by omega) rfl _ _ rfl rfl rfl ?_;intro s a5 an j);go_roundw
      case rel=>exact⟨a+1,by go_num,by omega,by rw[ar.out];exact j⟩
      case measure=>simp[Ak];omega
     .obtain⟨bn,l,rfl⟩:=b.form;have x:¬(a:Int)<(e:Int):=by omega
      rw[bq,show(g++f.take a).length=q+a by rw[aG,gJ,af];omega]at b⊢;rw[dl (by omega)]at b;have B:=am (b.swap.drop.nilS);go_wp2_with fail;refine B.out.add ak.1.2 ak.1.1 λw5 J=>?_;go_wp2;go_ret;exact⟨rfl,J.bd,J.bel⟩
def aq5{mm C':Int}(bE:1<=d/\d<=1000)(b3:1<=mm/\mm+2<=m)(bD:4<=C'/\C'<=3700)(I:FB 86 d mm 1 C' 0)(bk:FB 87 d mm 12 C' 0)(bl:FB 88 d mm 4 (C'-3) 0)(a8:FB 81 d mm 12 C' 0)(bj:FB 81 1 mm 5 C' 0)
  (bh:FB 89 d mm 12 C' 100) (ad:FB 90 (d-1) mm 1 C' 100):FB 42 d m 6 (C'+5) 0:=by
 intro e ar ce a9 b;have cn:=w1 (d:=d) (by omega);have b2:=b.lo;have b4:=b.m0;have ck:¬d<=0:=by omega
 by_cases b1:ar-a9.length<8
 case' pos=>
  obtain⟨E,bt,cb,r,bA,l,bn⟩:=b.mv.sub b e bj;have g:=l.len b;refine⟨_,_,_,l.fin b (k:=6) (op:=0) (n:=0) (t:=⟨#[]⟩) (jz (by decide) (by decide) (by decide) (lu (by decide)) (by decide) ll (by simp) (pl1 r)),?_⟩;clear l bA
 case' neg=>
  obtain⟨n,bt,b5,l,bn⟩:=b.mv.pick b e 17;rcases(show(n=0\/n=1)\/n=2\/n=3\/(n=4\/n=5\/n=6)\/n=7\/(n=8\/n=9)\/n=10\/n=11\/n=12\/n=13\/n=14\/n=15\/n=16 by omega) with hn2|rfl|rfl|hn'|rfl|hn2|rfl|rfl|rfl|rfl|rfl|rfl|rfl
  case' inl=>
   obtain⟨j,s,C,f,A⟩:=l.pick b e 3;obtain⟨i,x⟩:∃i:Nat,1+j=(i:Int):=⟨(1+j).toNat,by omega⟩;have aK:=wq x (by omega);obtain⟨nm,u,z,o,h,w⟩:=f.names b e i;obtain⟨G,an,K,q,ao⟩:=h.pick b e 3;obtain⟨G,rfl⟩:=iE K.1;obtain⟨ks,c5,bs,L,H,bb,p,al⟩:=q.exprs b e I G;have g:=p.len b;refine⟨_,_,_,p.fin b (k:=2) (op:=0) (n:=0) (t:=⟨#[]⟩) (nm:=nm) (ks:=ks) (jz (by decide) (by decide) (by decide) (lu (by decide)) (by omega) o (by omega) H),?_⟩;clear f h q p bb C K z o L H x
  case' inr.inl=>
   obtain⟨E,s,B,r,y,f,A⟩:=l.sub b e I;obtain⟨nm,u,z,o,h,w⟩:=f.names b e 1;replace w:Rr e ar 83 [V S 1] s B 9 1 (nm.map A1) u B:=w;have g:=h.len b;refine⟨_,_,_,h.fin b (k:=3) (op:=0) (n:=0) (t:=⟨#[]⟩) (nm:=nm) (jz (by decide) (by decide) (by decide) (lu (by decide)) (by omega) o (by simp) (pl1 r)),?_⟩;clear f h y z o
  case' inr.inr.inl=>
   obtain⟨E,s,B,r,y,f,A⟩:=l.sub b e bk;obtain⟨nm,u,z,o,h,w⟩:=f.names b e 1;replace w:Rr e ar 83 [V S 1] s B 9 1 (nm.map A1) u B:=w;have g:=h.len b;refine⟨_,_,_,h.fin b (k:=4) (op:=0) (n:=0) (t:=⟨#[]⟩) (nm:=nm) (jz (by decide) (by decide) (by decide) (lu (by decide)) (by omega) o (by simp) (pl1 r)),?_⟩;clear f h y z o
  case inr.inr.inr.inl=>
   obtain⟨j,s,C,f,A⟩:=l.pick b e 2;obtain⟨i,x⟩:∃i:Nat,1+j=(i:Int):=⟨(1+j).toNat,by omega⟩;have aK:=wq x (by omega);obtain⟨ks,u,J,z,o,F,h,br⟩:=xsc b e bl (by omega) (by omega) i s a9 f (by omega) (by omega) (by omega);obtain⟨G,an,K,q,ao⟩:=h.pick b e 2;obtain⟨b9,bx⟩:∃i:Nat,1+G=(i:Int):=⟨(1+G).toNat,by omega⟩;have b6:=wq bx (by omega);have cl:12-C'-4*i<=ar-J.length:=by have:=F.2.2.2 (by omega) (by omega);omega
   obtain⟨b8,c5,bs,L,H,bb,p,al⟩:=q.exprs b e I b9;have g:=p.len b;exact⟨_,_,_,p.fin b (k:=5) (op:=0) (n:=i) (t:=⟨#[]⟩) (nm:=[]) (ks:=ks++b8) (jz (by decide) (by decide) (by omega) (lu (by decide)) (by decide) ll (by rw[aG];omega) (λbo b7=>(List.mem_append.1 b7).elim (o bo) (H bo))),aq4 bE b1 hn' bn A aK (by omega) br ao b6 (by omega) al z L g⟩
  case' inr.inr.inr.inr.inl=>
   obtain⟨E,s,B,r,y,f,A⟩:=l.sub b e a8;have g:=f.len b;refine⟨_,_,_,f.fin b (k:=6) (op:=0) (n:=0) (t:=⟨#[]⟩) (jz (by decide) (by decide) (by decide) (lu (by decide)) (by decide) ll (by simp) (pl1 r)),?_⟩;clear f y
  case' inr.inr.inr.inr.inr.inl=>
   obtain⟨E,s,B,a,A⟩:=l.tail b e bh;have g:=l.len b;refine⟨E,s,B,⟨a.nx,a.n,a.z,a.p,a.p0,by have:=a.lf;omega⟩,?_⟩;clear a
  case' inr.inr.inr.inr.inr.inr.inl=>
   obtain⟨E,s,B,r,y,f,A⟩:=l.sub b e I;obtain⟨a0,u,J,ak,F,h,w⟩:=f.sub b e ad;have g:=h.len b;refine⟨_,_,_,h.fin b (k:=8) (op:=0) (n:=0) (t:=⟨#[]⟩) (jz (by decide) (by decide) (by decide) (lu (by decide)) (by decide) ll (by simp) (pl2 r ak)),?_⟩;clear f h y F
  case' inr.inr.inr.inr.inr.inr.inr.inl=>
   obtain⟨j,s,C,f,A⟩:=l.pick b e 2;obtain⟨i,x⟩:∃i:Nat,2+j=(i:Int):=⟨(2+j).toNat,by omega⟩;have aK:=wq x (by omega);obtain⟨ks,u,J,L,H,F,h,w⟩:=f.exprs b e I i;obtain⟨a0,an,a6,ak,a7,q,ao⟩:=h.sub b e ad;obtain⟨nm,c5,z,o,p,al⟩:=q.names b e 1;replace al:Rr e ar 83 [V S 1] an a6 9 1 (nm.map A1) c5 a6:=al;have g:=p.len b;refine⟨_,_,_,p.fin b (k:=9) (op:=0) (n:=0) (t:=⟨#[]⟩) (nm:=nm) (ks:=ks++[a0]) (jz (by decide) (by decide) (by decide) (lu (by decide)) (by omega) o (by simp;omega) (H.add ak)),?_⟩;have b0:i<=1000:=by omega
   clear f h q p F a7 C z o H x
  case' inr.inr.inr.inr.inr.inr.inr.inr.inl=>
   obtain⟨E,s,B,r,y,f,A⟩:=l.sub b e I;obtain⟨a0,u,J,ak,F,h,w⟩:=f.sub b e ad;obtain⟨j,an,C,q,ao⟩:=h.pick b e 2;obtain⟨i,x⟩:∃i:Nat,1+j=(i:Int):=⟨(1+j).toNat,by omega⟩;have aK:=wq x (by omega);obtain⟨nm,c5,z,o,p,al⟩:=q.names b e i;have g:=p.len b;refine⟨_,_,_,p.fin b (k:=10) (op:=0) (n:=0) (t:=⟨#[]⟩) (nm:=nm) (jz (by decide) (by decide) (by decide) (lu (by decide)) (by omega) o (by simp) (pl2 r ak)),?_⟩;clear f h q p y F C z o x
  case' inr.inr.inr.inr.inr.inr.inr.inr.inr.inl=>
   obtain⟨j,s,C,f,A⟩:=l.pick b e 2;by_cases af:j=0
   case' pos=>
    subst af;obtain⟨G,u,K,h,w⟩:=f.pick b e 2;have cq:=wi (a:=11+G) (by omega);have g:=h.len b;refine⟨_,_,_,h.fin b (k:=11+G) (op:=0) (n:=0) (t:=⟨#[]⟩) (jz (by omega) (by decide) (by decide) (lu (by omega)) (by decide) ll (by simp) pl0),?_⟩;clear h K
   case' neg=>
    have bw:(j==0)=A0:=by simpa using af
    obtain⟨G,u,K,h,w⟩:=f.pick b e 3;obtain⟨G,rfl⟩:=iE K.1;obtain⟨ks,an,a6,L,H,a7,q,ao⟩:=h.exprs b e I G;have g:=q.len b;refine⟨_,_,_,q.fin b (k:=13) (op:=0) (n:=0) (t:=⟨#[]⟩) (ks:=ks) (jz (by decide) (by decide) (by decide) (lu (by decide)) (by decide) ll (by omega) H),?_⟩;clear h q a7 K L H af
   all_goals clear f C
  case' inr.inr.inr.inr.inr.inr.inr.inr.inr.inr.inl=>
   obtain⟨E,s,B,r,y,f,A⟩:=l.sub b e ad;obtain⟨a0,u,J,ak,F,h,w⟩:=f.sub b e ad;obtain⟨j,an,C,q,ao⟩:=h.pick b e 2;obtain⟨i,x⟩:∃i:Nat,1+j=(i:Int):=⟨(1+j).toNat,by omega⟩;have aK:=wq x (by omega);obtain⟨nm,c5,z,o,p,al⟩:=q.names b e i;have g:=p.len b;refine⟨_,_,_,p.fin b (k:=14) (op:=0) (n:=0) (t:=⟨#[]⟩) (nm:=nm) (jz (by decide) (by decide) (by decide) (lu (by decide)) (by omega) o (by simp) (pl2 r ak)),?_⟩;clear f h q p y F C z o x
  case' inr.inr.inr.inr.inr.inr.inr.inr.inr.inr.inr.inl=>
   obtain⟨j,s,C,f,A⟩:=l.pick b e 2;by_cases af:j=0
   case' pos=>
    subst af;obtain⟨E,u,J,a,w⟩:=f.tail b e ad;have g:=f.len b;refine⟨E,u,J,⟨a.nx,a.n,a.z,a.p,a.p0,by have:=a.lf;omega⟩,?_⟩;clear a
   case' neg=>
    have bw:(j==0)=A0:=by simpa using af
    obtain⟨E,u,J,r,F,h,w⟩:=f.sub b e I;have g:=h.len b;refine⟨_,_,_,h.fin b (k:=15) (op:=0) (n:=0) (t:=⟨#[]⟩) (jz (by decide) (by decide) (by decide) (lu (by decide)) (by decide) ll (by simp) (pl1 r)),?_⟩;clear h F af
   all_goals clear f C
  case' inr.inr.inr.inr.inr.inr.inr.inr.inr.inr.inr.inr=>
   obtain⟨E,s,B,r,y,f,A⟩:=l.sub b e a8;have g:=f.len b;refine⟨_,_,_,f.fin b (k:=16) (op:=0) (n:=0) (t:=⟨#[]⟩) (jz (by decide) (by decide) (by decide) (lu (by decide)) (by decide) ll (by simp) (pl1 r)),?_⟩;clear f y
  all_goals clear l b5
  all_goals (try rcases hn2 with rfl|rfl)
 all_goals
  clear b b2 bD b3 b4 I bk bl a8 bj bh ad;intro ca cd cc bf;have c:=bf.at
  have v:=c.cs;clear bf;go_in
  repeat' (go_wp2_with (at_builtin;with_reducible refine At.app c L b0 rfl _ _ rfl rfl rfl ?_;clear c v;intro ba cf ap c;have v:=c.cs);first
   |(go_at_call 41;(first|with_reducible refine At.runC c (by assumption) ?_|with_reducible refine At.runC c.lit2 (by assumption) ?_|with_reducible refine At.runC c.lit1 (by assumption) ?_);clear c v;intro ap c _;have v:=c.cs)
   |(go_at_call 83;with_reducible refine At.runR c (by assumption) ?_;clear c v;intro ap ba bv c;have v:=c.cs)
   |(go_at_call 84;with_reducible refine At.runR c (by assumption) ?_;clear c v;intro ap ba bv c;have v:=c.cs)
   |(go_at_call 82;(first|with_reducible refine At.kids c.lit1 g.1.2 g.1.1 ?_|with_reducible refine At.kids c.lit2 g.1.2 g.1.1 ?_|with_reducible refine At.kids c.nilI g.1.2 g.1.1 ?_);clear c v;intro ap c;have v:=c.cs)
   |(go_at_call 85;(first|with_reducible refine At.add c.lit1.nilS g.1.2 g.1.1 ?_|with_reducible refine At.add c.lit2.nilS g.1.2 g.1.1 ?_|with_reducible refine At.add c.lit1.swap g.1.2 g.1.1 ?_|with_reducible refine At.add c.lit2.swap g.1.2 g.1.1 ?_|with_reducible refine At.add c.swap g.1.2 g.1.1 ?_|with_reducible refine At.add c g.1.2 g.1.1 ?_|with_reducible refine At.add c.nilS g.1.2 g.1.1 ?_|with_reducible refine At.add c.nilI.nilS g.1.2 g.1.1 ?_);clear c v;intro ap c;have v:=c.cs)
   |(go_ret;exact⟨rfl,c.bd,c.bel⟩)
   |(with_reducible refine At.run c (by assumption) ?_;clear c v;intro ap c;have v:=c.cs))
def amv:FB 81 1 10 5 5 100:=amu (mb:=3) (me:=2) (cb:=2) (ce:=1) (by decide) (by decide) (by decide) (ams (me:=2) (ce:=1) (by decide) (by decide) (Em (by decide))) (Em (by decide))
def abf(a:d<=0):FB 90 d 16 1 7 100:=ahr (ms:=15) (cs:=6) (by decide) (by decide) (aok (C':=5) a (by decide) (by decide) amv.up)
def akG:∀(b:Nat)(d:Int),b<=1000->d<=0-> -1000+(b:Int)<=d->FBl 89 d (17+b) 4 (10+((b / 2:Nat):Int)) b:=by
 intro b
 induction b using Nat.strongRecOn with
 |_ b e=>
  intro d f a g;rcases bg b 2 with hb2|hb2
  .refine IJ (me:=2) (mk:=16) (mr:=15) (ce:=1) (ck:=7) (cr:=0) (by omega) (by omega) (by omega) (Em a) (abf (by omega)).up (λc=>by omega)
  refine IJ (me:=2) (mk:=16) (mr:=15+b) (ce:=1) (ck:=7) (cr:=9+((b / 2:Nat):Int)) (by omega) (by omega) (by omega) (Em a) (abf (by omega)).up (λc=>?_);have:=e (b-2) (by omega) (d-1) (by omega) (by omega) (by omega);rw[show((b-2:Nat):Int)=(b:Int)-2 by omega,show(17:Int)+((b:Int)-2)=15+b by omega,show(10:Int)+(((b-2) / 2:Nat):Int)=9+((b / 2:Nat):Int) by omega]at this;exact this
structure Lv (d m Ce Ck Cr:Int):Prop where
 e:FB 86 d m 1 Ce 0
 k:FB 90 d m 1 Ck 100
 r:FB 89 d m 4 Cr 100
def lv0:Lv 0 160 1 7 80:=⟨(Em (by decide)).up,(abf (by decide)).up,(FBl.all (akG 140 0 (by decide) (by decide) (by decide))).up⟩
def lvS{a b Cr cc:Int}(h:Lv d m a b Cr)(y:0<=d/\d<=10)(z:20<=m/\m<=1200)(v:1<=a/\1<=b/\1<=Cr:=by decide)(x:a+10<=cc/\b+1<=cc:=by decide)(w:cc+4<=cb/\b+3<=cb/\Cr+1<=cb/\cb<=3000:=by decide):FB 42 (d+1) (m+9) 6 (cb+5) 0/\Lv (d+1) (m+10) (cc+1) (cb+6) cb:=by
 have f:d+1-1=d:=by omega
 have c:FB 86 (d+1-1) m 1 a 0:=by rw[f];exact h.e
 have j:FB 90 (d+1-1) m 1 b 100:=by rw[f];exact h.k
 have q:FB 89 (d+1-1) m 4 Cr 100:=by rw[f];exact h.r
 have g:FB 160 (d+1-1) (m+1) 2 (a+1) 0:=ams (by omega) (by omega) c;have n:FB 81 (d+1) (m+3) 5 (a+1+3) 100:=amu (by omega) (by omega) (by omega) g c;have t:FB 163 (d+1) (m+1) 10 (a+10) 100:=aoj (by omega) (by omega) (by omega) c;have o:FB 87 (d+1) (m+1) 2 (b+1) 100:=fnB (mk:=m) (ck:=b) (by omega) (by omega) (by omega) j.up;have i:FB 86 (d+1) (m+5) 1 (cc+1) 0:=aoi (mc:=m+4) (cc:=cc) (by omega) (by omega) (by omega) c g n.up t.up o.up;have s:FB 88 (d+1) (m+2) 4 (a+1+3) 0:=akF (by omega) (by omega) (by omega) g c;have l:FB 89 (d+1) (m+6) 4 cb 100:=FBl.all (IJ (me:=m+5) (mk:=m) (ce:=cc+1) (ck:=b) (mr:=m) (cr:=Cr) (by omega) (by omega) (by omega) i j.up (λ_=>λ_ _ _ _ u _=>q u));have hS:FB 42 (d+1) (m+9) 6 (cb+5) 0:=aq5 (mm:=m+7) (by omega) (by omega) (by omega) i.up o.up s.up n.up amv.up l.up j.up;have p:FB 90 (d+1) (m+10) 1 (cb+5+1) 100:=ahr (ms:=m+9) (cs:=cb+5) (by omega) (by omega) hS;exact⟨hS,i.up,p.up,l.up⟩
def ahs(g:1<=d/\d<=5):FB 42 d 220 6 130 0:=by
 have a:=lvS (cc:=11) (cb:=81) lv0 (by decide) (by decide) (by decide) (by decide) (by decide);have b:=lvS (cc:=88) (cb:=92) a.2 (by decide) (by decide) (by decide) (by decide) (by decide);have c:=lvS (cc:=99) (cb:=103) b.2 (by decide) (by decide) (by decide) (by decide) (by decide);have e:=lvS (cc:=110) (cb:=114) c.2 (by decide) (by decide) (by decide) (by decide) (by decide);have f:=lvS (cc:=121) (cb:=125) e.2 (by decide) (by decide) (by decide) (by decide) (by decide);rcases(show d=1\/d=2\/d=3\/d=4\/d=5 by omega) with rfl|rfl|rfl|rfl|rfl
 .exact a.1.up
 .exact b.1.up
 .exact c.1.up
 .exact e.1.up
 .exact f.1.up
structure Tw (w:Ax) (lo:Nat) (v:A3) (M:List Mb):Prop where
 lw:Lw w lo v M
 sep:(bL M).Nodup
def TrP(C:Cd)(E:Bs)(W:Ax)(L:List Nd)(c:Cr)(e:Ending)(a:Ax):Prop:=∃(g b:Nat) (M:List Mb),e= Ad (.agg #[O (X ⟨g,0,U⟩) L.length b])/\M.map Mb.N=L/\Tw a E.base (O (X ⟨g,0,U⟩) L.length b) M/\Cu C E a c/\A9 E.base W a
def Rt(C:Cd)(f:FuncId)(c:Cr)(L:List Nd)(a:Cr):Prop:=∀ ⦃E:Bs⦄ ⦃W:Ax⦄,Cu C E W c->A5 Y f #[cV E] W (TrP C E W L a)
abbrev trR(q:Nat):Rwx:=⟨26,O (X ⟨q,0,U⟩) 1 1,[O U 0 0]⟩
section
variable {C : Cd} {T : Int} {E F : Bs} {W W' : World} {c : Cr} {M : List Mb}
def Cu.start{w1:Ax}(h:Cu C E w1 c)(T:Int){q:Nat}(g:w1.heap[q]?=X (Z #[O U 0 0] 26 (0,0)))(e:E.base<=q):Bd C T ⟨E.base,E.cb,w1.heap.size,E.a0,E.cap⟩ (w1.alloc (Z #[cV E,O U 0 0,V S T] 116)) c [] [trR q]:=by
 have d:=dC w1 (Z #[cV E,O U 0 0,V S T] 116);have a:=h.below d;have f:w1.ownsRow E.base 26 1 (O (X ⟨q,0,U⟩) 1 1) 1 [O U 0 0]:=⟨rfl,.inr ⟨q,1,#[O U 0 0],rfl,e,g,ag _,by unfold B0;omega,rfl,rfl⟩⟩;refine⟨⟨a.lo,a.code,a.cur⟩,h.lo.2,⟨O U 0 0,?_,fs _ _ _ _⟩,λi b=>(by cases b),λi b=>?_,?_⟩
 .simpa using aA w1 (Z #[cV E,O U 0 0,V S T] 116)
 .rw[List.mem_singleton.1 b];exact⟨by show TO 26;decide,dA f d⟩
 .simp[bR,bL,Bc]
def Bd.ans{q:Nat}(h:Bd C T F W c M [trR q]):W.heap[q]?=X (Z #[O U 0 0] 26 (0,0))/\q≠F.bb:=by
 have j:=(h.rows _ aI).2;have b:W.heap[q]?=X (Z #[O U 0 0] 26 (0,0)):=by
  rcases j.2 with⟨a,_⟩|⟨m,l,d,a,_,i,n,o,e,f⟩
  .cases a
  .cases a;have:d.toList=[O U 0 0]:=by
    have g:d.toList.take (1*1)=[O U 0 0]:=f;rw[<-g,dl];rw[fK,e];exact ag _
   rw[i,Array.toList_inj.1 (this.trans rfl:d.toList=(#[O U 0 0]:Array A3).toList)]
 have⟨p,k,_⟩:=h.row;refine⟨b,λa=>?_⟩;rw[a,k]at b;simp only[fw,lF]at b;exact absurd b.2.1 (by decide)
def Bd.done{q:Nat}{v:A3}(h:Bd C T F W c M [trR q])(e:W.cell? ⟨F.bb,1,U⟩=X v):Tw (W.setCell ⟨q,0,U⟩ v) F.base v M/\Cu C F (W.setCell ⟨q,0,U⟩ v) c/\A9 F.base W (W.setCell ⟨q,0,U⟩ v)/\(W.setCell ⟨q,0,U⟩ v).heap[q]?=X (Z #[v] 26 (0,0)):=by
 have⟨k,j⟩:=h.ans;have⟨d,f,p2⟩:=h.row;obtain rfl:d=v:=by
  rw[aj _ _ _ _ _ _ f]at e;exact aJ e
 obtain⟨a,g⟩:=h.hot (r':=⟨26,O U 0 0,[]⟩) (zK (qI W q) 0 d) (by show TO 26;decide) (fs _ _ _ _) (λn i=>by cases i);have⟨m,b,l⟩:=a.row;obtain rfl:m=d:=by
  rw[ay _ _ _ _ j.symm,f]at b;simp at b;exact b.symm
 exact⟨⟨⟨l,a.each⟩,by simpa [bR,Bc] using a.sep⟩,a.cu,g,bp _ q 0 _ _ _ k⟩
def Bd.root{wr w5:Ax}{q d h:Nat}{b g:Option Addr}{p:A3}(m:Bd C T F wr c M (rS (O U 0 0) []::rI (O b ks.length d) ks::[trR q]))
  (l:wr.heap[F.bb]?=X (Z #[cV F,O g M.length h,V S (T-M.length)] 116 (0,0)))
  (j:w5.ownsRow F.base 34 9 p (M.length+1) (oE M++(wA (dN 1 0 0 ⟨#[]⟩ [] ks) (O U 0 0) (O b ks.length d)).toList))
  (E:(wr.alloc (Z (wA (dN 1 0 0 ⟨#[]⟩ [] ks) (O U 0 0) (O b ks.length d)) 34)).grownBy w5 (Br g M.length h).ownBlock):
  ∃a c5,p= O (X ⟨a,0,U⟩) (M.length+1) c5/\(w5.cell? ⟨F.bb,1,U⟩=X (O g M.length h)/\w5.frozen? ⟨F.bb,1,U⟩=A0)/\(w5.cell? ⟨q,0,U⟩=X (O U 0 0)/\w5.frozen? ⟨q,0,U⟩=A0)/\q≠F.bb/\F.bb≠q/\
   Hid (∀e,e=(w5.setCell ⟨F.bb,1,U⟩ (O (X ⟨a,0,U⟩) (M.length+1) c5)).setCell ⟨q,0,U⟩ (O (X ⟨a,0,U⟩) (M.length+1) c5)->Tw e F.base (O (X ⟨a,0,U⟩) (M.length+1) c5) (M++[⟨dN 1 0 0 ⟨#[]⟩ [] ks,O U 0 0,O b ks.length d⟩])/\Cu C F e c/\A9 F.base wr e/\e.heap[q]?=X (Z #[O (X ⟨a,0,U⟩) (M.length+1) c5] 26 (0,0))):=by
 have i:=dC wr (Z (wA (dN 1 0 0 ⟨#[]⟩ [] ks) (O U 0 0) (O b ks.length d)) 34);have B:=m.below i;have G:=(i.block _ (ai l)).trans l;rcases bJ j with⟨H,_⟩|⟨a,c5,rfl⟩
 .omega
 have A:oE M++(wA (dN 1 0 0 ⟨#[]⟩ [] ks) (O U 0 0) (O b ks.length d)).toList=oE (M++[⟨dN 1 0 0 ⟨#[]⟩ [] ks,O U 0 0,O b ks.length d⟩]):=by rw[uy];show _=oE M++(cMb _++[]);rw[dk];rfl
 rw[A]at j;have y:T+1-1=T:=by omega
 have z:T+1-(M.length:Int)-1=T-M.length:=by omega
 obtain⟨o,s,k⟩:=Bd.push (T:=T+1) (N:=dN 1 0 0 ⟨#[]⟩ [] ks) (by rw[y];exact B) (by rw[z];exact G) rfl j E;have⟨r,f⟩:=o.ans;have n:w5.heap[q]?=X (Z #[O U 0 0] 26 (0,0)):=(ay _ _ _ _ f).symm.trans r;refine⟨a,c5,rfl,⟨by rw[aj _ _ _ _ _ _ k];rfl,cH _ _ _ _ _ k⟩,⟨by rw[aj _ _ _ _ _ _ n];rfl,cH _ _ _ _ _ n⟩,f,f.symm,?_⟩;rintro e rfl;obtain⟨t,u,w,x⟩:=o.done (v:= O (X ⟨a,0,U⟩) (M.length+1) c5) (by rw[aj _ _ _ _ _ _ (bp _ F.bb 1 _ _ _ k)];rfl);exact⟨t,u,((i.mono m.lt.2.2.1).trans s).trans w,x⟩
end
structure Td (c:Cr) (L:List Nd) (c':Cr):Prop where
 nd:∀N∈L,JD N
 n:L≠[]/\L.length<=265
 p:0<=c'.p/\c'.p<=20000000
 r:0<=c'.r/\c.r+bigs L<=c'.r/\(c.r<=3->c'.r<=3)
def aol(C:Cd)(c:Cr)(br:0<=c.p/\c.p<=100)(cF:0<=c.r):∃L c',Td c L c'/\Rt C 20 c L c':=by
 obtain⟨k,cd,bA,cl,da⟩:=lm C c 120 (by decide) (by decide) br.1 (by omega);obtain⟨af,ce,bk,cn,dc⟩:=lm C cd 5;obtain⟨G,ad,bn,cq,df⟩:=lm C ce 8;obtain⟨G,rfl⟩:=iE bn.1;have p:Pd (20+k) ad [] 221:=⟨by omega,by simp;omega,by simp;omega,by decide,by omega⟩;obtain⟨u,a5,I,ed,bt,ba,z,v⟩:=bkc p C (ahs (d:=1+af) (by omega)) (by decide) (by decide) (by decide) G ad [] p.mv;simp only[dE]at ba;have cB:I.length<=264:=by omega
 have bs:=z.p;simp only[dE]at bs;have bd:JD (dN 1 0 0 ⟨#[]⟩ [] u):=jz (by decide) (by decide) (by decide) (lu (by decide)) (by decide) ll (by omega) bt;obtain⟨d2,B,bD,dn,dq⟩:=z.nx.add bd (by rw[ada (show(dN 1 0 0 ⟨#[]⟩ [] u).x.size<=19 from aD _)];exact Int.le_of_eq (Int.add_zero _)) id;rw[dI]at B;have cr:=z.p0;refine⟨I++[dN 1 0 0 ⟨#[]⟩ [] u],a5,⟨by rw[B];exact bD,⟨by simp,by simp;omega⟩,by omega,by rw[B];omega⟩,λb j n=>?_⟩;have el:=wi (a:=20+k) (by omega);have ek:=wi (a:=1+af) (by omega);have eg:G<=7:=by omega
 have d9:=bk.1;have em:=bA.1;clear bD dn dq B z p ba bs bd bt cl cn cq bk bA bn cr br cF;have a:=n.cw;go_in;go_wp2_with fail;refine a.al.run da λw1 q m=>?_;have F:=(m.block j.heap.size (by simp) (λl=>by have:=n.lt;have:=aJ l;omega)).trans (aA j _);have cz:=q.cu.lt;have ct:b.base<=j.heap.size:=n.lo.2;have o:=q.cu.start (20+k) F ct;have bf:A9 b.base j w1:=yp q.gr n.lo.1 n.lo.2;have bh:=bf.trans ((dC w1 (Z #[cV b,O U 0 0,V S (20+k)] 116)).mono q.cu.lo.2);have w:=am bh;clear a F m bf bh n q;go_wp2_with fail;obtain⟨g,hF⟩:=aC (⟨b.base,b.cb,w1.heap.size,b.a0,b.cap⟩:Bs);have t:g.base=b.base/\g.cb=b.cb/\w1.heap.size=g.bb/\g.a0=b.a0/\g.cap=b.cap:=by rw[<-hF];exact⟨rfl,rfl,rfl,rfl,rfl⟩
 rw[hF]at o;have a9:cV b=cV g:=by show Value.pointer _=Value.pointer _;rw[t.2.1]
 have f:=In.at (R:=[trR j.heap.size]) ⟨[],rfl,o⟩;rw[<-t.1]at w;generalize (w1.alloc _)=ca at f w⊢;rw[t.2.2.1,a9];have b6:=am t;clear o hF a9 t cz;have cy:=w.out;refine f.runC dc λdx s _=>?_;clear f;go_wp2_with fail;refine s.runC df λd0 A _=>?_;have a2:=am A.nilI;clear s A cy;go_wp2_with fail;go_loopw [5,6] (λb0 ap wr=>∃(e:Nat) (i ao:List Int) (c5:Cr) (J:List Nd),ap= V S e/\i.length+e<=7/\At C (20+k) g ca wr c5 J (rI b0 i::[trR j.heap.size])/\Bkc C (20+k) (1+af) e c5 J ao a5 I/\i++ao=u) (λ_ ap _=>(Ak ap).toNat)
 case atStart=>exact⟨G,[],u,ad,[],rfl,by simp;omega,a2.out,v,rfl⟩
 case round=>
  clear a2 v;obtain⟨e,i,ao,c5,J,rfl,an,f,o,l⟩:=hrel;have a7:=f.cs;cases o with
  |@cons e _ cf _ _ b9 _ d1 dg d8 b8 b1=>
   have ea:(0:Int)<((e+1:Nat):Int):=by omega
   have ei:IntKind.i64.wrap (((e+1:Nat):Int)-1)=(e:Int):=by rw[dr];omega
   have H:=gF an l;have eb:e<=7:=by omega
   clear an l;go_wp2_with fail;refine f.run b8 λdx s=>?_;have v:=am s;clear f s a7;go_wp2_with (at_builtin;refine v.out.app rfl (by have:=H.1;omega) rfl _ _ rfl rfl rfl ?_;intro aK a8 d0 A);go_roundw
   case rel=>exact⟨e,i++[d1],dg,cf,b9,by go_num,by have:=H.1;simp;omega,A,b1,by rw[bC];exact H.2⟩
   case measure=>simp[Ak]
  |stop bw=>
   rw[dk]at l;subst l;obtain⟨a3,a6,rfl⟩:=f.form;rw[bq]at f⊢;obtain⟨⟨K,rfl,E⟩,bj⟩:=f.nilS;rw[bq]at cB a7 bw;obtain⟨b0,m,ak⟩:=E.row;obtain⟨aK,a8,rfl⟩:=di ak;have d3:wr.cell? ⟨g.bb,1,U⟩=X (O aK K.length a8):=by rw[aj _ _ _ _ _ _ m];rfl
   have y:=Ft E m ak (w.out.trans bj);have ee:=E.lt;obtain⟨cI,c0,c7,c8,c9⟩:=fh za;clear f m ak E bj;have F:(0<(e:Int)/\¬5<20+k-K.length)\/¬0<(e:Int):=by omega
   clear bw an;rcases F with⟨q1,en⟩|q1;all_goals
    go_wp2_with (at_builtin;refine A2 _ rfl _ _ 24 rfl g.base 34 cI _ 9 112 Tryz.underlying24 c0 c7 c8 c9 rfl (by decide) _ _ _ rfl (dA y.2.2.1 (dC wr _)) ⟨wr.heap.size,0,U⟩ 1 1 (wA (dN 1 0 0 ⟨#[]⟩ [] i) (O U 0 0) (O a3 i.length a6)).toList rfl rfl (World.news_of_block (aA wr _)) (by intro eo bx;simp at bx;rcases bx with rfl|rfl|rfl|rfl|rfl|rfl|rfl|rfl|rfl<;>rfl) (by unfold B0;omega) (by omega) (by simp;omega) ?_;intro ep w5 bo bl _ cx;obtain⟨ck,c5,rfl,d4,d6,eh,ef,b5⟩:=y.1.root y.2.1 bo bl;clear bo bl cx);obtain⟨bE,ar,cc,ds⟩:=b5.out _ rfl;have h:=b6.out;rw[h.1]at bE;exact aL (io rfl _ _ j.heap.size _ _ _ _ rfl ds Tryz.underlying26 rfl (by kernel_rfl)) rfl ⟨ck,c5,K++[⟨dN 1 0 0 ⟨#[]⟩ [] i,O U 0 0,O a3 i.length a6⟩],by simp,by simp,by simpa using bE,⟨by rw[<-h.1,<-h.2.1];exact ar.lo,by rw[<-h.1,<-h.2.2.2.1];exact ar.code,by have:=ar.cur;unfold cuO at this;rw[h.2.1,h.2.2.2.1,h.2.2.2.2]at this;exact this⟩,by have:=y.2.2.2.trans cc;rw[h.1]at this;exact this⟩
