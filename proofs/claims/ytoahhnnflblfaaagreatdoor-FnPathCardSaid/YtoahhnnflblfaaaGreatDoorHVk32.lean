import Derived.Test.YtoahhnnflblfaaaGreatDoorHVk31
import Derived.Test.YtoahhnnflblfaaaGreatDoorHVk22
set_option linter.all false
set_option maxRecDepth 100000
set_option maxHeartbeats 6400000
open Go.Value renaming slice->O,int->A0
open Option renaming none->Q,some->U
open Go.Proofs.Tryz renaming prog->V
open Go.Obj renaming cells->X
open Bool renaming false->Z,true->Ax
namespace Go.Proofs.YtoahhnnflblfaaaGreatDoor
open Go.RowKit Go.Maps Go.WideMaps
theorem afI{ns:List Nd}(d:JE ns)(o:∀i:Nat,i<ns.length->B9 (ad ns i)):∀(f i tab:Nat),i<f->i<ns.length->
  (eK (ad ns i).k=Ax->Cb ns i (yc ns f i tab))/\(ja (ad ns i).k=Ax->SCl ns i (rD ns f i tab))/\((ad ns i).k=7->∃y,BCl ns i y/\∀w,xl ns f i w tab=w++y)
 |0,i,tab,q,_=>by omega
 |f+1,i,tab,q,h=>by
  have j:=fun (z t:Nat) (c:z<i) (b:z<ns.length)=>afI d o f z t (by omega) b;have l:JzE ns (fun k=>yc ns f k tab) (fun k t=>rD ns f k t) i tab:=⟨fun z c b a=>(j z tab c b).1 a,fun z c b a=>(j z (tab+1) c b).2.1 a,o⟩;have m:(ad ns i).k=7->∃y,BCl ns i y/\∀w,Az ns (fun k=>yc ns f k tab) (fun k t=>rD ns f k t) (fun k w=>xl ns f k w tab) (ad ns i) w tab=w++y:=fun a=>
   anF l d h a fun z c b a=>(j z tab c b).2.2 a
  refine⟨fun a=>?_,fun a=>?_,fun a=>?_⟩
  ·rw[yc];exact ak4 l d h a
  ·rw[rD];exact ak5 l d h a fun p=>by
    obtain⟨y,e,g⟩:=m p;exact⟨y,e,g _⟩
  ·obtain⟨y,e,g⟩:=m a;exact⟨y,e,fun w=>by rw[xl];exact g w⟩
def aau(l:List Wt)(c:Fo):Prop:=∀(tk:Nat->Tk)(n a:Nat),a<n->oq tk n 0 l a->(tk a).k=6->∃b:Fo,b.bare=c/\P tk n .stats 0 b a/\DD tk n [100,6] 0 (a+1)
theorem Hu:aau [] .nil:=fun tk n d b c a=>by
 obtain rfl:=c.nils;exact⟨.nil,rfl,.sstop (.inr a) b,DD.exp a (by decide:xE 100 6=([],Ax)) b (DD.tok a b ⟨0,.nil⟩)⟩
theorem Dw{ns:List Nd}{S:Int->ByteArray}:∀(ks:List Int),(∀z∈ks,∃y:Nat,z=(y:Int)/\SCl ns y (S y))->∃m,ik oE (⟨#[10]⟩++iA (ks.map fun k=>S k++⟨#[10]⟩)) m/\ID m (px (Sh ns) ks)/\(cst m:Int)<=wK ns ks+11
 |[],_=>⟨[nlW],LE,ID.nil,by show(11:Int)<=0+11;decide⟩
 |z::r,h=>by
  obtain⟨y,rfl,l,b,c,d,g⟩:=h z bz;obtain⟨m,e,f,i⟩:=Dw r fun y a=>h y (dm _ a);refine⟨nlW::(l++m),?_,ID.cons d f,by simp only[cst,cg,wt,sgF,jK,nlW,Int.reduceLT,reduceIte];rw[wK];omega⟩;rw[dq,Bk,aB];exact LE.app (c.app e ax yz) (ax b) rfl
theorem aik{ns:List Nd}(h:(cF ns).1=0)(o:∀i:Nat,i<ns.length->B9 (ad ns i)):
  ∃l,Rz (jl ns) 0 l (jl ns).size/\aau l (px (Sh ns) (ad ns ((ns.length:Int)-1)).ks)/\(cst l:Int)<=Wp ns ns.length:=by
 have a:=E5 h;have H:=a.len;have k:((ns.length:Int)-1)=((ns.length-1:Nat):Int):=by omega
 have e:=(J2 h).2.2;have g:=a.root;unfold jl;rw[k]at e g⊢;rw[<-g,a.at_ (ns.length-1) (by omega)];have K:=ui (ad ns ((ns.length-1:Nat):Int));have p:=(je (a.nb (ns.length-1) (by omega))).1;have b:∀z∈(ad ns ((ns.length-1:Nat):Int)).ks,∃y:Nat,z=(y:Int)/\SCl ns y (rD ns ns.length y 0):=fun z b=>by
  obtain⟨y,rfl,C,d,r,G,m⟩:=rq a (by omega) b;have f:=Dr _ 0 (sC p e) r (by omega) (by omega);rw[m]at f;exact⟨y,rfl,(afI a o ns.length y 0 d d).2.1 f⟩
 cases er:(ad ns ((ns.length-1:Nat):Int)).ks with
 |nil=>
  exact⟨[],.nil,Hu,by simp only[cst,wK];omega⟩
 |cons z j=>
  rw[er]at b;obtain⟨y,rfl,l,I,s,u,J⟩:=b z bz;obtain⟨x,A,B,L⟩:=Dw (S:=fun c=>rD ns ns.length c 0) j fun y q=>b y (dm _ q);refine⟨l++x,?_,aj9 u B,by rw[cg,wK];omega⟩;rw[dq,Bk,aB];have:=(s.app A ax yz) (rD ns ns.length y 0++(⟨#[10]⟩++iA (j.map fun c=>rD ns ns.length c 0++⟨#[10]⟩))) 0 ⟨by omega,fun i F=>by rw[fE]⟩ rfl;rw[fE]at this;exact this
inductive Cd:List Wt->List Wt->Prop where
 |nil:Cd [] []
 |tok {t:Wt}{l e:List Wt}:t.k≠7->Cd l e->Cd (t::l) (t::e)
 |sep {t u:Wt}{l e:List Wt}:t.k=7->u.k=7->Cd l e->Cd (t::l) (u::e)
 |more {t u:Wt}{l e:List Wt}:t.k=7->u.k=7->Cd (t::l) e->Cd (t::l) (u::e)
theorem Cd.refl:∀(l:List Wt),Cd l l
 |[]=> .nil
 |t::l=>by
  by_cases h:t.k=7
  ·exact .sep h h (Cd.refl l)
  ·exact .tok h (Cd.refl l)
theorem Cd.seg{l e:List Wt}(h:Cd l e):∀{tk:Nat->Tk}{n i:Nat},i+e.length<=n->(∀q t,e[q]?=U t->(tk (i+q)).k=Cv t/\(t.k≠7->(tk (i+q)).n=t.n/\(tk (i+q)).x=t.x))->oq tk n i l (i+e.length):=by
 induction h with
 |nil=>intro tk n i _ _;exact .nil
 |@tok t l e b m j=>
  intro tk n i f c;rw[cC]at f⊢;obtain⟨a,d⟩:=c 0 t rfl;rw[gI]at a d;unfold Cv at a;rw[aa b]at a;have:=j (tk:=tk) (n:=n) (i:=i+1) (by omega) fun q t g=>by have:=c (q+1) t g;rw[show i+1+q=i+(q+1) by omega];exact this
  rw[show i+(e.length+1)=i+1+e.length by omega];exact .tok b a (d b).1 (d b).2 (by omega) this
 |@sep t o l e b m p j=>
  intro tk n i f c;rw[cC]at f⊢;obtain⟨a,d⟩:=c 0 o rfl;rw[gI]at a d;unfold Cv at a;rw[ab m]at a;have:=j (tk:=tk) (n:=n) (i:=i+1) (by omega) fun q t g=>by have:=c (q+1) t g;rw[show i+1+q=i+(q+1) by omega];exact this
  rw[show i+(e.length+1)=i+1+e.length by omega];exact .sep b a (by omega) this
 |@more t o l e b m p j=>
  intro tk n i f c;rw[cC]at f⊢;obtain⟨a,d⟩:=c 0 o rfl;rw[gI]at a d;unfold Cv at a;rw[ab m]at a;have:=j (tk:=tk) (n:=n) (i:=i+1) (by omega) fun q t g=>by have:=c (q+1) t g;rw[show i+1+q=i+(q+1) by omega];exact this
  rw[show i+(e.length+1)=i+1+e.length by omega];exact .more b a (by omega) this
theorem ajf:xu 54 1 10 5 5:=ai6 (mb:=3) (me:=2) (cb:=2) (ce:=1) (by decide) (by decide) (by decide) (ai5 (me:=2) (ce:=1) (by decide) (by decide) (AF (by decide))) (AF (by decide))
theorem J4{d:Int}(a:d<=0):xu 63 d 16 1 7:=aei (ms:=15) (cs:=6) (by decide) (by decide) (akt (C:=5) a (by decide) (by decide) (ajf.weak.up (by decide) (by decide) (by decide) (by decide)))
theorem ail:∀(b:Nat)(d:Int),b<=1000->d<=0-> -1000+(b:Int)<=d->FBl 62 d (17+b) 4 (10+((b / 2:Nat):Int)) b:=by
 intro b
 induction b using Nat.strongRecOn with
 |_ b e=>
  intro d f a g;rcases bv b 2 with hb2|hb2
  ·refine EF (me:=2) (mk:=16) (mr:=15) (ce:=1) (ck:=7) (cr:=0) (by omega) (by omega) (by omega) (AF a) (J4 (by omega)).weak (fun c=>by omega)
  refine EF (me:=2) (mk:=16) (mr:=15+b) (ce:=1) (ck:=7) (cr:=9+((b / 2:Nat):Int)) (by omega) (by omega) (by omega) (AF a) (J4 (by omega)).weak (fun c=>?_);have:=e (b-2) (by omega) (d-1) (by omega) (by omega) (by omega);rw[show((b-2:Nat):Int)=(b:Int)-2 by omega,show(17:Int)+((b:Int)-2)=15+b by omega,show(10:Int)+(((b-2) / 2:Nat):Int)=9+((b / 2:Nat):Int) by omega]at this;exact this
theorem FBl.all{f:FuncId}{d m s c:Int}(h:FBl f d m s c 140):xu f d m s c:=fun _ _ _ _ _ _ a=>h a (by have:=a.sum;omega)
structure Lv (d m Ce Ck Cr:Int):Prop where
 e:FB 59 d m 1 Ce
 k:xu 63 d m 1 Ck
 r:xu 62 d m 4 Cr
theorem lv0:Lv 0 160 1 7 80:=⟨(AF (by decide)).up (by decide) (by decide) (by decide) (by decide),(J4 (by decide)).up (by decide) (by decide) (by decide) (by decide),(FBl.all (ail 140 0 (by decide) (by decide) (by decide))).up (by decide) (by decide) (by decide) (by decide)⟩
theorem lvS{d m a b c cc cb:Int}(h:Lv d m a b c)(H:0<=d/\d<=10)(I:20<=m/\m<=1200)(C:1<=a/\1<=b/\1<=c)(G:a+10<=cc/\b+1<=cc)(F:cc+4<=cb/\b+3<=cb/\c+1<=cb/\cb<=3000):FB 29 (d+1) (m+9) 6 (cb+5)/\Lv (d+1) (m+10) (cc+1) (cb+6) cb:=by
 have g:d+1-1=d:=by omega
 have f:FB 59 (d+1-1) m 1 a:=by rw[g];exact h.e
 have l:xu 63 (d+1-1) m 1 b:=by rw[g];exact h.k
 have u:xu 62 (d+1-1) m 4 c:=by rw[g];exact h.r
 have i:FB 111 (d+1-1) (m+1) 2 (a+1):=ai5 (by omega) (by omega) f;have p:xu 54 (d+1) (m+3) 5 (a+1+3):=ai6 (by omega) (by omega) (by omega) i f;have A:xu 114 (d+1) (m+1) 10 (a+10):=akr (by omega) (by omega) (by omega) f;have q:xu 60 (d+1) (m+1) 2 (b+1):=fnB (by omega) (by omega) (by omega) l.weak;have j:FB 59 (d+1) (m+5) 1 (cc+1):=aks (mc:=m+4) (cc:=cc) (by omega) (by omega) (by omega) f i (p.up (by omega) (by omega) (by omega) (by omega)) (A.up (by omega) (by omega) (by omega) (by omega)) (q.up (by omega) (by omega) (by omega) (by omega));have x:FB 61 (d+1) (m+2) 4 (a+1+3):=ahB (by omega) (by omega) (by omega) i f;have o:xu 62 (d+1) (m+6) 4 cb:=FBl.all (EF (me:=m+5) (mk:=m) (ce:=cc+1) (ck:=b) (mr:=m) (cr:=c) (by omega) (by omega) (by omega) j l.weak (fun _=>fun _ _ _ _ _ _ B _=>u B));have hS:FB 29 (d+1) (m+9) 6 (cb+5):=amz (mm:=m+7) (by omega) (by omega) (by omega) (j.up (by omega) (by omega) (by omega) (by omega)) (q.weak.up (by omega) (by omega) (by omega) (by omega)) (x.up (by omega) (by omega) (by omega) (by omega)) (p.weak.up (by omega) (by omega) (by omega) (by omega)) (ajf.weak.up (by decide) (by omega) (by omega) (by omega)) (o.up (by omega) (by omega) (by omega) (by omega)) (l.up (by omega) (by omega) (by omega) (by omega));have s:xu 63 (d+1) (m+10) 1 (cb+5+1):=aei (ms:=m+9) (cs:=cb+5) (by omega) (by omega) hS;exact⟨hS,j.up (by omega) (by omega) (by omega) (by omega),s.up (by omega) (by omega) (by omega) (by omega),o.up (by omega) (by omega) (by omega) (by omega)⟩
theorem afJ{d:Int}(g:1<=d/\d<=5):FB 29 d 220 6 130:=by
 have a:=lvS (cc:=11) (cb:=81) lv0 (by decide) (by decide) (by decide) (by decide) (by decide);have b:=lvS (cc:=88) (cb:=92) a.2 (by decide) (by decide) (by decide) (by decide) (by decide);have c:=lvS (cc:=99) (cb:=103) b.2 (by decide) (by decide) (by decide) (by decide) (by decide);have e:=lvS (cc:=110) (cb:=114) c.2 (by decide) (by decide) (by decide) (by decide) (by decide);have f:=lvS (cc:=121) (cb:=125) e.2 (by decide) (by decide) (by decide) (by decide) (by decide);rcases(show d=1\/d=2\/d=3\/d=4\/d=5 by omega) with rfl|rfl|rfl|rfl|rfl
 ·exact a.1.up (by decide) (by decide) (by decide) (by decide)
 ·exact b.1.up (by decide) (by decide) (by decide) (by decide)
 ·exact c.1.up (by decide) (by decide) (by decide) (by decide)
 ·exact e.1.up (by decide) (by decide) (by decide) (by decide)
 ·exact f.1.up (by decide) (by decide) (by decide) (by decide)
section
variable {E : Bs} {W W' : World} {y z : Int}
theorem Cu.start(h:Cu E W y)(o:y<=50)(l:Int)(r:Rwx)(g:TO r.t)(f:W.ownsRow E.base r.t 1 r.v r.xs.length r.xs):Bd ⟨E.base,E.cb,W.heap.size,E.a0,E.len,E.cap,50,0⟩ (W.alloc (X #[cV E,O Q 0 0,.int .i64 l] 86)) [] l 0 [r]:=by
 have b:=bI W (X #[cV E,O Q 0 0,.int .i64 l] 86);obtain⟨i,j,k,d,e,m,a⟩:=h.cur;exact⟨⟨h.lo.1,h.lo.2⟩,⟨h.hl,(by decide:(50:Int)<=100)⟩,h.code.below (b.mono h.lo.2),⟨i,j,k,d.below b h.lt,e,by simp;omega,a.1,a.2.1,a.1⟩,⟨_,ar W _,bi _ _ _ _⟩,fun z c=>(by cases c),fun z c=>by rw[List.mem_singleton.1 c];exact⟨g,aI f b⟩,by simp[bR,bL];cases r.v.ownBlock<;>simp⟩
end
def TrP(E:Bs)(W:World)(e:Ending)(w':World):Prop:=
 ∃(b n c:Nat) (a:List Mb),e= .returned (.agg #[O (U ⟨b,0,Q⟩) n c])/\a.length=n/\n<=265/\Lw w' E.base (O (U ⟨b,0,Q⟩) n c) a/\(∀y∈a,B9 y.N)/\Cu {E with g:=bigs a} w' 20000000/\Below E.base W w'
theorem Cu.same{E a:Bs}{W:World}{y:Int}(h:Cu a W y)(e:a.base=E.base/\a.cb=E.cb/\a.a0=E.a0/\a.len=E.len/\a.cap=E.cap/\a.g=E.g):Cu E W y:=by
 obtain⟨c,d,f,b,o,p⟩:=e;obtain⟨i,j,k,q,r,s,l,m⟩:=h;rw[c,d]at i;rw[b]at j;rw[c,f,b]at k;rw[d,f,b,o]at l;rw[p]at m;exact⟨i,j,k,q,r,s,l,m⟩
theorem afK{a:Bs}{wr e:World}{M:List Mb}{l:Int}{q f A:Nat}{b u:Option Addr}{ks:List Int}{al:Value}
  (K:Bd a wr M l 2 (⟨9,O Q 0 0,([]:List ByteArray).map Value.string⟩::⟨3,O b ks.length f,ks.map (A0 .i64)⟩::[⟨26,O (U ⟨q,0,Q⟩) 1 1,[O Q 0 0]⟩]))
  (H:wr.heap[a.bb]?=U (X #[cV a,O u M.length A,.int .i64 l] 86 (0,0))) (a1:B9 (dN 1 0 0 ⟨#[]⟩ [] ks)) (bl:M.length<=25000)
  (C:e.ownsRow a.base 36 9 al (M.length+1) (mi M++(dE (dN 1 0 0 ⟨#[]⟩ [] ks) (O Q 0 0) (O b ks.length f)).toList))
  (a4:(wr.alloc (X (dE (dN 1 0 0 ⟨#[]⟩ [] ks) (O Q 0 0) (O b ks.length f)) 36)).grownBy e (Value.slice u M.length A).ownBlock):
  ∃d c,al= O (U ⟨d,0,Q⟩) (M.length+1) c/\e.cell? ⟨a.bb,1,Q⟩=U (O u M.length A)/\e.frozen? ⟨a.bb,1,Q⟩=Z/\e.cell? ⟨q,0,Q⟩=U (O Q 0 0)/\e.frozen? ⟨q,0,Q⟩=Z/\q≠a.bb/\a.bb≠q/\
   Hid (∀j,j=(e.setCell ⟨a.bb,1,Q⟩ (O (U ⟨d,0,Q⟩) (M.length+1) c)).setCell ⟨q,0,Q⟩ (O (U ⟨d,0,Q⟩) (M.length+1) c)->
    Lw j a.base (O (U ⟨d,0,Q⟩) (M.length+1) c) (M++[⟨dN 1 0 0 ⟨#[]⟩ [] ks,O Q 0 0,O b ks.length f⟩])/\(∀y∈M++[(⟨dN 1 0 0 ⟨#[]⟩ [] ks,O Q 0 0,O b ks.length f⟩:Mb)],B9 y.N)/\Cu {a with g:=bigs (M++[(⟨dN 1 0 0 ⟨#[]⟩ [] ks,O Q 0 0,O b ks.length f⟩:Mb)])} j 20000000/\Below a.base wr j/\j.heap[q]?=U (X #[O (U ⟨d,0,Q⟩) (M.length+1) c] 26 (0,0))):=by
 have m:=bI wr (X (dE (dN 1 0 0 ⟨#[]⟩ [] ks) (O Q 0 0) (O b ks.length f)) 36);have L:=K.below m;have a7:=(m.block _ (au H)).trans H;rcases bK C with⟨bk,_⟩|⟨d,c,rfl⟩
 ·omega
 have ap:mi M++(dE (dN 1 0 0 ⟨#[]⟩ [] ks) (O Q 0 0) (O b ks.length f)).toList=mi (M++[⟨dN 1 0 0 ⟨#[]⟩ [] ks,O Q 0 0,O b ks.length f⟩]):=by rw[vz];show _=mi M++(cMb _++[]);rw[fj];rfl
 rw[ap]at C;obtain⟨ak,am,s⟩:=Bd.push (N:=dN 1 0 0 ⟨#[]⟩ [] ks) L a7 rfl C a4 a1 (by rw[ad0 (show(dN 1 0 0 ⟨#[]⟩ [] ks).x.size<=19 from aG _)];exact L.bg0);have a6:=(ak.rows _ bz).2;obtain⟨i,o,a3⟩:∃i,(e.setCell ⟨a.bb,1,Q⟩ (O (U ⟨d,0,Q⟩) (M.length+1) c)).heap[q]?=U (X i 26 (0,0))/\i=#[O Q 0 0]:=by
  rcases a6.2 with⟨k,_⟩|⟨g,bj,i,k,_,a2,I,J,p,B⟩
  ·cases k
  ·cases k;refine⟨i,a2,?_⟩;have:i.toList=[O Q 0 0]:=by
    have a0:i.toList.take (1*1)=[O Q 0 0]:=B;rw[<-a0,cI];rw[eB,p];exact ag _
   exact Array.toList_inj.1 this
 subst a3;have r:q≠a.bb:=fun k=>by
  rw[k,cE _ a.bb 1 _ _ _ s]at o;simp only[iq,lC]at o;exact absurd o.2.1 (by decide)
 have af:e.heap[q]?=U (X #[O Q 0 0] 26 (0,0)):=(bh _ _ _ _ r).symm.trans o;refine⟨d,c,rfl,by rw[ay _ _ _ _ _ _ s];rfl,dI _ _ _ _ _ s,by rw[ay _ _ _ _ _ _ af];rfl,dI _ _ _ _ _ af,r,r.symm,?_⟩;rintro j rfl;obtain⟨h,an⟩:=ak.hot (r':=⟨26,O Q 0 0,[]⟩) (wI (vg _ q) 0 (O (U ⟨d,0,Q⟩) (M.length+1) c)) (by show TO 26;decide) (bi _ _ _ _) (fun b m=>by cases m);have a5:=cE (e.setCell ⟨a.bb,1,Q⟩ (O (U ⟨d,0,Q⟩) (M.length+1) c)) q 0 _ _ (O (U ⟨d,0,Q⟩) (M.length+1) c) o;obtain⟨bf,G,ba⟩:=h.row;have ao:bf= O (U ⟨d,0,Q⟩) (M.length+1) c:=by
  rw[bh _ _ _ _ r.symm,cE _ a.bb 1 _ _ _ s]at G;simp at G;exact G.symm
 subst ao;obtain⟨a8,a9,bd,I,J,p,B⟩:=h.cur;refine⟨⟨by simpa using ba,fun y F=>(h.each y F).1⟩,fun y F=>(h.each y F).2,⟨⟨h.lo.1,h.lt.2.2.1⟩,h.hl.1,h.code,a8,a9,bd,I,J,?_,B⟩,((m.mono K.lt.2.2.1).trans am).trans an,a5⟩;have:=h.hl.2;rw[aF]at p;simp at p;omega
theorem am6{E:Bs}{W:World}{y:Int}(h:Cu E W y)(c9:y<=10):Calls V 16 #[cV E] W (TrP E W):=by
 have b8:=h.lt;have K:=aj fun (cm:Obj)=>GL (h.below (bI W cm) b8) 120 (by decide) (by decide) (by omega);go_in;go_wp2_with fail;refine(K.out _).mono ?_;rintro r w1 ⟨z,rfl,ba,k,L,ak⟩;have a8:=L.blk (ar W _) (by decide);have a1:Below E.base W w1:=((bI W _).mono h.lo.2).trans ak;have a7:w1.ownsRow E.base 26 1 (.slice (U ⟨W.heap.size,0,Q⟩) 1 1) 1 [.slice Q 0 0]:=⟨rfl,.inr ⟨W.heap.size,1,#[.slice Q 0 0],rfl,h.lo.2,a8,ag _,by unfold maxLen;omega,rfl,rfl⟩⟩;have o:=k.start (by omega) (20+z) ⟨26,.slice (U ⟨W.heap.size,0,Q⟩) 1 1,[.slice Q 0 0]⟩ (by show TO 26;decide) a7;have c8:IntKind.i64.wrap (20+z)=20+z:=by rw[cw];omega
 have b9:=k.lt;have J:=aj a1;clear K L a8 ak a1 a7;go_wp2_with fail;obtain⟨cp,x⟩:=aA (w1.alloc (.cells #[cV E,.slice Q 0 0,.int .i64 (20+z)] 86));have A:=bI w1 (.cells #[cV E,.slice Q 0 0,.int .i64 (20+z)] 86);obtain⟨a,hF⟩:=aA (⟨E.base,E.cb,w1.heap.size,E.a0,E.len,E.cap,50,0⟩:Bs);have l:a.base=E.base/\a.cb=E.cb/\w1.heap.size=a.bb/\a.a0=E.a0/\a.len=E.len/\a.cap=E.cap:=by rw[<-hF];exact⟨rfl,rfl,rfl,rfl,rfl,rfl⟩
 have ao:cV E=cV a:=by show Value.pointer _=Value.pointer _;rw[l.2.1]
 rw[hF,x]at o;rw[x]at A⊢;have i:=eH (J.out.trans (A.mono k.lo.2)) l;rw[l.2.2.1,ao];clear x A hF b9 ao J k l;have bj:=pK o 5 (by decide) (by decide) (by decide) (by decide);refine bj.mono ?_;rintro r dg ⟨q,cr,cs,rfl,H,_,al⟩;have bk:=pK H 8 (by decide) (by decide) (by decide) (by decide);have c7:IntKind.i64.wrap (1+q)=1+q:=by rw[cw];omega
 have bo:=aj (i.out.1.trans (by rw[<-i.out.2.1];exact al));clear bj al o H;go_wp2_with fail;refine bk.mono ?_;rintro r G ⟨n,cl,da,rfl,I,_,am⟩;obtain⟨n,rfl⟩:=gc cl;have bp:=aj (bo.out.trans (by rw[<-i.out.2.1];exact am));have F:rH a G [] (20+z) 2 [⟨26,.slice (U ⟨W.heap.size,0,Q⟩) 1 1,[.slice Q 0 0]⟩] 221:=⟨I.wide (by decide),by simp;omega,by omega,by decide,by decide⟩;have hS:=afJ (d:=1+q) (by omega);clear bk am I;go_wp2_with fail;go_loopw [5,6] (fun v C wr=>∃(b:Nat) (M:List Mb) (c:List Int),C= .int .i64 b/\c.length+b<=7/\Pl c/\At a G [] (20+z) 2 wr M 2 (⟨3,v,c.map (A0 .i64)⟩::[⟨26,.slice (U ⟨W.heap.size,0,Q⟩) 1 1,[.slice Q 0 0]⟩])/\ -125<=20+z-M.length) (fun _ C _=>(intOf C).toNat)
 case atStart=>exact⟨n,[],[],rfl,by simp;omega,(fun z ba=>by cases ba),F.at.nil toI,by simp;omega⟩
 case round=>
  obtain⟨b,M,c,rfl,B,m,e,cz⟩:=hrel;have bA:=e.c2;have cB:b<=7:=by omega
  by_cases a2:0<b/\5<20+z-M.length
  ·have b5:(0:Int)<(b:Int):=by omega
   have b7:=a2.2;have bl:=e.sub F hS (by decide) (by omega) (by decide);have p:=eH B m;clear B m;go_wp2_with fail;refine bl.mono ?_;rintro r cn ⟨br,bn,rfl,bf,cy,bs,ap⟩;unfold Lf at ap;clear bl bA;go_wp2_with (at_builtin;refine bs.app bn rfl (by have:=p.out.1;omega) rfl _ _ rfl rfl rfl ?_;intro af an dj bt);go_roundw
   case rel=>exact⟨b-1,br,c++[bn],by go_num,by have:=p.out.1;simp;omega,p.out.2.add bf.1 bf.2,bt,by omega⟩
   case measure=>simp[intOf];omega
  ·obtain⟨bw,bx,rfl⟩:=e.formI;have c0:=e.len F;have g:=(e.nil GE).bd;rw[fx]at g;obtain⟨v,s,u⟩:=g.row;obtain⟨af,an,rfl⟩:=cH u;have cq:wr.cell? ⟨a.bb,1,Q⟩=U (.slice af M.length an):=by rw[ay _ _ _ _ _ _ s];rfl
   have b0:B9 (dN 1 0 0 ⟨#[]⟩ [] c):=oF (by decide) (by decide) (by decide) (pD (by first|decide|omega)) (by decide) wn (by omega) m;have c3:=g.lt;have j:=tH g s u e.bel;obtain⟨ca,cc,ce,cf,ck⟩:=fl zn;clear m B g s u;by_cases b5:0<b;all_goals
    first
    |(have b6:(0:Int)<(b:Int):=by omega
      have b7:¬5<20+z-M.length:=by omega)
    |(have b6:¬(0:Int)<(b:Int):=by omega)
    clear a2;go_wp2_with (at_builtin;refine wpList_append_own_at _ rfl _ _ 24 rfl a.base 36 ca _ 9 112 Tryz.underlying24 cc ce cf ck rfl (by decide) _ _ _ rfl (aI j.out.2.2.1 (bI wr _)) ⟨wr.heap.size,0,Q⟩ 1 1 (dE (dN 1 0 0 ⟨#[]⟩ [] c) (.slice Q 0 0) (.slice bw c.length bx)).toList rfl rfl (World.news_of_block (ar wr _)) (by intro dc a9;simp at a9;rcases a9 with rfl|rfl|rfl|rfl|rfl|rfl|rfl|rfl|rfl<;>rfl) (by unfold maxLen;omega) (by omega) (by simp;omega) ?_;intro df cn a4 a3 _ b2;obtain⟨bE,bD,rfl,ct,ap,cu,cx,c4,c6,bq⟩:=afK j.out.1 j.out.2.1 b0 (by omega) a4 a3;clear a4 a3 b2);have hF:=bq.out _ rfl;have f:=i.out.2;rw[f.1]at hF;exact bB (ir rfl _ _ W.heap.size _ _ _ _ rfl hF.2.2.2.2 Tryz.underlying26 rfl (by kernel_rfl)) rfl ⟨bE,M.length+1,bD,_,rfl,by simp,by omega,hF.1,hF.2.1,hF.2.2.1.same ⟨rfl,f.2.1,f.2.2.2.1,f.2.2.2.2.1,f.2.2.2.2.2,rfl⟩,bp.out.trans ((by rw[<-f.1];exact j.out.2.2.2:Below E.base G wr).trans hF.2.2.2.1)⟩
open Go.Lib (strCells strCells_length wpList_append_own_string)
theorem Cx(a b:ByteArray):strCells (a++b)=strCells a++strCells b:=by
 unfold strCells;rw[js,D3,fK]
theorem acg{w:World}{base g n cap:Nat}{T:ByteArray}(a:w.ownsRow base 5 1 (O (U ⟨g,0,Q⟩) n cap) n (strCells T)):
  (convert 22 9 (O (U ⟨g,0,Q⟩) n cap)).run V w= .ok (.string T) w:=by
 have b:strCells T=B8 (ux T.data.toList):=by
  unfold strCells B8 ux;rw[List.map_map];rfl
 rw[b]at a;rw[pd a,xh]
theorem yh(k:Int)(w:World):Calls V 30 #[.int .i64 k] w fun e w'=>e= .returned (.bool (Lj k))/\w'=w:=by
 by_cases b:k=46\/k=47\/k=40\/k=44\/k=10\/k=25
 ·rcases b with rfl|rfl|rfl|rfl|rfl|rfl;all_goals
   go_in;go_wp2;go_ret;exact⟨rfl,rfl⟩
 ·have c:(k==46)=Z:=by rw[aL];omega
  have d:(k==47)=Z:=by rw[aL];omega
  have f:(k==40)=Z:=by rw[aL];omega
  have g:(k==44)=Z:=by rw[aL];omega
  have h:(k==10)=Z:=by rw[aL];omega
  have i:(k==25)=Z:=by rw[aL];omega
  by_cases j:60<k
  ·have a:Lj k=Ax:=by unfold Lj;exact bg (by omega)
   rw[a];clear b a;go_in;go_wp2;go_ret;exact⟨rfl,rfl⟩
  ·have a:Lj k=Z:=by unfold Lj;exact az (by omega)
   rw[a];clear b a;go_in;go_wp2;go_ret;exact⟨rfl,rfl⟩
section
variable {E : Bs} {W w w' : World} {y : Int}
theorem afL(h:Cu E W y)(o:y<=800000000):
  Calls V 31 #[cV E] W fun e w'=>∃s:ByteArray,e= .returned (.string s)/\(s.size<=5/\s∈G7)/\Cu E w' (y+1)/\Kb W w'/\Below E.base W w':=by
 have j:=h.lt;have i:=h.lo;have b:=aj fun (l:Obj)=>GL (h.below (bI W l) j) 7 (by decide) (by decide) (by omega);go_in;go_wp2_with fail;refine(b.out _).mono ?_;rintro e w1 ⟨z,rfl,p,c,a,d⟩;have f:=a.blk (ar W _) (by decide);have m:=fun k=>ay w1 W.heap.size k _ _ _ f;have g:=jn c ((Kb.of_below (bI W _)).trans a) (((bI W _).mono i.2).trans d);clear c a d f b;rcases(show z=0\/z=1\/z=2\/z=3\/z=4\/z=5\/z=6 by omega) with rfl|rfl|rfl|rfl|rfl|rfl|rfl;all_goals
  go_wp2_with fail;go_ret;exact⟨_,rfl,⟨by decide,by simp[G7]⟩,g.out⟩
theorem aim{f c p k g d q l:Nat}{a e:Value}{r x2:List Value}(m:w.ownsRow f c p a k r)(o:w.ownsRow g d q e l x2)(j:c≠d):a.ownBlock=Q\/a.ownBlock≠e.ownBlock:=by
 rcases o.2 with⟨b,_⟩|⟨A,u,x,b,_,i,_⟩
 ·rw[b];cases h:a.ownBlock with
  |none=>exact .inl rfl
  |some s=>exact .inr (by simp[Value.ownBlock])
 ·right;rw[b];exact gi m i (iE j)
structure Lo (E:Bs) (W w:World) (y:Int) (v:Value) (t:ByteArray) (tv:Value) (ts:List Tk):Prop where
 cu:Cu E w y
 out:w.ownsRow E.base 5 1 v t.size (strCells t)
 tok:w.ownsRow E.base 88 6 tv ts.length (Ae ts)
 bel:Below E.base W w
variable {v tv : Value} {t : ByteArray} {ts : List Tk}
theorem Lo.kb(h:Lo E W w y v t tv ts){z:Int}(c:Cu E w' z)(a:Kb w w')(b:Below E.base w w'):Lo E W w' z v t tv ts:=
 ⟨c,a.row h.out (by decide),a.row h.tok (by decide),h.bel.trans b⟩
theorem Lo.below(h:Lo E W w y v t tv ts)(a:Below w.heap.size w w'):Lo E W w' y v t tv ts:=
 h.kb (h.cu.below a h.cu.lt) (Kb.of_below a) (a.mono h.cu.lo.2)
theorem Lo.app{p:Array Oper}{q:List Oper}{o:Oper}{a:Act}{l:Exit->Act->World->Prop}(h:Lo E W w y v t tv ts)(s:ByteArray)(m:Nat)(an:s.size<=m)(ao:t.size+m<=4000000)(A:o.guard=Q)(sl x:Operand)
  (B:o.op= .call {callee:= .builtin .append,args:=#[sl,x],argTypes:=#[22,9]}) (G:a.eval sl=v) (H:a.eval x= .string s)
  (k:∀f w1,Lo E W w1 y f (t++s) tv ts->(t++s).size<=t.size+m->(∀(b:Nat)(cs:Array Value)(e:TypeId)(fr:Nat×Nat),w.heap[b]?=U (.cells cs e fr)->e≠5->w1.heap[b]?=U (.cells cs e fr))->wpList V p l q (a.put o.dst f) w1):wpList V p l (o::q) a w:=by
 obtain⟨I,J,K,L,af⟩:=fl Tryz.info5;refine wpList_append_own_string _ A sl x 22 9 B E.base 5 I Tryz.underlying22 Tryz.underlying9 J K L af _ _ _ G h.out s H (by unfold maxLen;omega) (by omega) h.cu.lo.2 ?_;intro f r C d _;have j:Below E.base w r:=(ai _ w).grown d h.cu.lo.2 (fun k c=>(h.out.lt k c).1);obtain⟨ak,al,am,g,u⟩:=h.cu.cur;refine k f r ⟨⟨⟨h.cu.lo.1,dh h.cu.lo.2 j.size⟩,h.cu.hl,h.cu.code.below j,ak,al,am,(d.block _ g.lt (fun i=>gi h.out g (by decide) i.symm)).trans g,u⟩,by rw[ae,Cx];exact C,h.tok.kept d (aim h.tok h.out (by decide)),h.bel.trans j⟩ (by rw[ae];omega) (fun b cs e fr c F=>(d.block _ (au c) (fun i=>gi h.out c F i.symm)).trans c)
end
end Go.Proofs.YtoahhnnflblfaaaGreatDoor
namespace Go.Proofs.YtoahhnnflblfaaaGreatDoor
open Go.Lib (strCells strCells_length)
open Go.RowKit Go.Maps Go.WideMaps
structure TkO (n:Nat) (ts:List Tk):Prop where
 each:∀T∈ts,0<=T.f/\T.f<=T.t/\T.t<=(n:Int)/\0<=T.l
 next:ts.Pairwise fun a b=>a.t<=b.f
theorem aav(s:ByteArray):∀(f:Nat)(st:List Int)(p:Nat)(l:Int)(a:List Tk),p<=s.size->TkO s.size a->(∀T∈a,T.t<=(p:Int))->0<=l->TkO s.size (sE s f st p l a).1
 |0,st,p,l,a,_,_,_,_=>⟨fun T hT=>(by cases hT),.nil⟩
 |f+1,st,p,l,a,af,i,j,g=>by
  have h:∀(c:Tk)(q b:Nat),c.f=(p:Int)->c.t=(q:Int)->p<=q->q<=s.size->q<=b->0<=c.l->TkO s.size (a++[c])/\∀T∈a++[c],T.t<=(b:Int):=fun c q b m o I J K L=>by
   refine⟨⟨fun T hT=>?_,List.pairwise_append.2 ⟨i.next,List.pairwise_singleton _ _,fun u B H d=>?_⟩⟩,fun T hT=>?_⟩
   ·rcases List.mem_append.1 hT with hT|hT
    ·exact i.each T hT
    ·rw[List.mem_singleton.1 hT,m,o];omega
   ·rw[List.mem_singleton.1 d,m];exact j u B
   ·rcases List.mem_append.1 hT with hT|hT
    ·have:=j T hT;omega
    ·rw[List.mem_singleton.1 hT,o];omega
  have G:∀b,p<=b->∀T∈a,T.t<=(b:Int):=fun b r T hT=>by have:=j T hT;omega
  have d:∀q,q<=s.size->q<=blk s (s.size+1) q/\blk s (s.size+1) q<=s.size:=fun q F=>pq s (s.size+1) q F;rw[sE];split
  ·rename_i r;exact(h ⟨6,(s.size:Nat),(s.size:Nat),l,0,⟨#[]⟩⟩ s.size s.size (by show((s.size:Nat):Int)=_;omega) rfl (by omega) (by omega) (by omega) g).1
  ·rename_i r;split
   ·rename_i A;have k:=qa s p (by omega) (aif s p A).1;have e:=d _ k.2.1;split
    ·have:=h ⟨5,(p:Nat),((eE s p).a:Nat),l,(eE s p).n,(eE s p).x⟩ (eE s p).a (blk s (s.size+1) (eE s p).a) rfl rfl (by omega) (by omega) (by omega) g;exact aav s f _ _ _ _ e.2 this.1 this.2 (by omega)
    ·exact aav s f _ _ _ _ e.2 i (G _ (by omega)) (by omega)
   ·split
    ·split
     ·rename_i C;have k:=qa s p (by omega) C;have e:=d _ k.2.1;have:=h ⟨rA s p,(p:Nat),((eE s p).a:Nat),l,(eE s p).n,(eE s p).x⟩ (eE s p).a (blk s (s.size+1) (eE s p).a) rfl rfl (by omega) (by omega) (by omega) g;exact aav s f _ _ _ _ e.2 this.1 this.2 g
     ·exact⟨fun T hT=>(by cases hT),.nil⟩
    ·exact⟨fun T hT=>(by cases hT),.nil⟩
theorem af0(s:ByteArray):TkO s.size (kD s).1:=by
 have b:TkO s.size []:=⟨fun c a=>(by cases a),.nil⟩;unfold kD;split
 ·exact b
 split
 ·exact aav s _ _ _ _ _ (pq s (s.size+1) 0 (aG _)).2 b (fun c a=>(by cases a)) (by decide)
 ·exact b
theorem aaw{n:Int}:∀(l:List Tk)(c:Int),l.Pairwise (fun a b=>a.f<b.f)->(∀T∈l,c<=T.f/\T.f<=n)->c<=n+1->(l.length:Int)<=n+1-c
 |[],c,_,_,h=>by simp;omega
 |T::r,c,k,g,h=>by
  have m:=g T bz;obtain⟨i,j⟩:=List.pairwise_cons.1 k;have:=aaw (n:=n) r (T.f+1) j (fun d e=>by have:=i d e;have:=g d (dm _ e);omega) (by omega);rw[cC];simp;omega
theorem ain(s:ByteArray):(kD s).1.length<=s.size+1:=by
 have e:=af0 s;have g:(kD s).1.Pairwise fun c d=>c.f<d.f:=by
  unfold kD;split
  ·exact .nil
  split
  ·exact(aat s (s.size+1) [100,6] (blk s (s.size+1) 0) 1 [] (pq s (s.size+1) 0 (aG _)).2 .nil (fun b a=>by cases a)).1
  ·exact .nil
 have:=aaw (n:=(s.size:Int)) _ 0 g (fun b a=>by have:=e.each b a;omega) (by omega);omega
theorem TkO.at_{n:Nat}{ts:List Tk}(h:TkO n ts){i:Nat}{T a:Tk}(g:ts[i]?=U T)(j:ts[i+1]?=U a):T.t<=a.f:=by
 obtain⟨d,b⟩:=List.getElem?_eq_some_iff.1 g;obtain⟨e,c⟩:=List.getElem?_eq_some_iff.1 j;rw[<-b,<-c];exact(List.pairwise_iff_getElem.1 h.next) i (i+1) d e (by omega)
end Go.Proofs.YtoahhnnflblfaaaGreatDoor
namespace Go.Proofs.YtoahhnnflblfaaaGreatDoor
open Go.RowKit Go.Maps Go.WideMaps
def Nd.bk(N:Nd):Nd:={N.bare with ks:=N.ks}
theorem zB:∀(a:Fo),a.bare.sz=a.sz
 | .nil=>rfl
 | .cons N k r=>by rw[Fo.bare,Fo.sz,Fo.sz,zB k,zB r]
theorem Dx:∀(a:Fo)(b:Nat),a.bare.tops b=a.tops b
 | .nil,b=>rfl
 | .cons N k r,b=>by rw[Fo.bare,Fo.tops,Fo.tops,zB k,Dx r]
theorem xB:∀(a:Fo)(b:Nat),a.bare.flat b=(a.flat b).map Nd.bk
 | .nil,b=>rfl
 | .cons N k r,b=>by
  rw[Fo.bare,Fo.flat,Fo.flat,zB,Dx,xB k,xB r,fK,dq];rfl
def sl(ns:List Nd)(a b:Nat):List Nd:=(ns.take b).drop a
theorem af1(ns:List Nd){a b c:Nat}(f:a<=b)(e:b<=c)(g:c<=ns.length):sl ns a b++sl ns b c=sl ns a c:=by
 unfold sl;have d:ns.take c=ns.take b++(ns.take c).drop b:=by
  have:=uH b (ns.take c);rw[List.take_take,sI e]at this;exact this.symm
 conv=>rhs;rw[d]
 rw[List.drop_append_of_le_length (by rw[gx];omega)]
theorem ali{ns:List Nd}{i:Nat}(h:i<ns.length):sl ns i (i+1)=[ad ns i]:=by
 unfold sl ad;rw[gG,aE h,List.drop_append_of_le_length (by rw[gx];omega),lA (by rw[gx];omega),fD,List.getD,aE h];rfl
structure Szk (ns:List Nd):Prop where
 at_:∀i:Nat,i<ns.length->∃a:Nat,a<=i/\rG (gC ns) (ad ns i).ks.reverse i=U (a:Int)/\(gC ns).getD i 0=(i:Int)-a+1
 root:(gC ns).getD (ns.length-1) 0=(ns.length:Int)
theorem alj{ns:List Nd}(h:(cF ns).1=0):Szk ns:=by
 have i:=lL h;have x:yu (gC ns):=uw ns fun N b f e=>by
  obtain⟨a,g,r⟩:=fL b;exact(i.kid a N (by rw[aE g,r]) f e).1
 unfold cF at h;by_cases l:gJ ns=Ax
 ·rw[ab l]at h;exact absurd h (by decide)
 rw[aa l]at h;obtain⟨m,s⟩:=aA (gp (eC ns) ns.length 0);rw[s]at h;cases m with
 |some a=>rw[tf2]at h;exact absurd h (by simp)
 |none=>
  rw[tf2]at h;obtain⟨o,k⟩:=aA (gp (fp (gC ns)) ns.length 0);rw[k]at h;cases o with
  |some a=>rw[LI]at h;exact absurd h (by simp)
  |none=>
   have u:=ny k;rw[LI]at h;refine⟨fun a g=>?_,?_⟩
   ·have b:ns[a]?=U (ad ns a):=by
     unfold ad;rw[fD,List.getD,aE g];rfl
    generalize ad ns a=N at b;have d:=u a (aG _) (by omega);unfold fp at d;have c:=Jy b;rw[c]at d;unfold po at d c;cases hw:rG ((gC ns).take a) N.ks.reverse a with
    |none=>rw[hw]at d;simp at d
    |some A=>
     rw[hw]at c;simp only at c;rw[Be (gC ns) a _ _ (fun f e=>i.kid a N b f (by simpa using e))]at hw;have q:=I3 x _ _ _ (fun f e=>(i.kid a N b f (by simpa using e)).1) (by omega) hw;obtain⟨p,rfl⟩:=gc q.1;exact⟨p,by omega,hw,c⟩
   ·by_cases j:(gC ns).getD (ns.length-1) 0=(ns.length:Int)
    ·exact j
    ·rw[ab j]at h;exact absurd h (by simp)
theorem aio{ns:List Nd}(d:JE ns)(k:Szk ns):∀i:Nat,i<ns.length->∃a:Nat,a<=i/\(gC ns).getD i 0=(i:Int)-a+1/\(Sh ns i).sz=i+1-a/\(Sh ns i).flat a=(sl ns a (i+1)).map Nd.bk/\(Sh ns i).tops a=[(i:Int)]:=by
 intro i
 induction i using Nat.strongRecOn with
 |_ i H=>
  intro f;obtain⟨a,j,b,B⟩:=k.at_ i f;have L:∀(c:List Int)(t:Nat)(a:Nat),t<=i->(∀z∈c,z∈(ad ns i).ks)->rG (gC ns) c.reverse t=U (a:Int)->a<=t/\(px (Sh ns) c).sz=t-a/\(px (Sh ns) c).flat a=(sl ns a t).map Nd.bk/\(px (Sh ns) c).tops a=c:=by
   intro c
   induction c using vK with
   |c=>
    intro t a F _ b;have A:t=a:=by simp[rG]at b;omega
    subst A;refine⟨ag _,by simp[px,Fo.sz],?_,rfl⟩;unfold sl;rw[lA (by rw[gx];omega)];rfl
   |d ao z I=>
    intro t a F g b;rw[List.reverse_append,List.reverse_cons,List.reverse_nil,fx,Kk,rG]at b;by_cases l:z=(t:Int)-1/\(gC ns).getD z.toNat 0≠0
    ·rw[ab l]at b;obtain⟨y,rfl,ak,al,_⟩:=rq d f (g z (by simp));obtain⟨e,am,o,p,q,r⟩:=H y ak al;rw[show((y:Int)).toNat=y by omega,o,show(t:Int)-((y:Int)-e+1)=(e:Int) by omega]at b;obtain⟨s,h,u,x⟩:=I e a (by omega) (fun af G=>g af (by simp[G])) b;have C:t=y+1:=by omega
     subst C;rw[E6,jx];refine⟨by omega,by rw[Fo.sz_app,h,p];omega,?_,?_⟩
     ·rw[Fo.flat_app,h,u,show a+(e-a)=e by omega,q,<-fK,af1 ns s (by omega) (by omega)]
     ·rw[Fo.tops_app,h,x,show a+(e-a)=e by omega,r]
    ·rw[aa l]at b;cases b
  obtain⟨an,m,J,K⟩:=L _ i a (ag _) (fun z g=>g) b;refine⟨a,j,B,?_,?_,?_⟩
  ·rw[rz d f,aJ,m];omega
  ·rw[rz d f,Ah,J,K,<-af1 ns j (Nat.le_succ i) (by omega),ali f,fK];rfl
  ·rw[rz d f,rK,m,show a+(i-a)=i by omega]
theorem aip{ns:List Nd}(h:(cF ns).1=0):(Sh ns ((ns.length-1:Nat):Int)).flat 0=ns.map Nd.bk:=by
 have a:=E5 h;have b:=alj h;have i:=a.len;obtain⟨c,g,d,_,e,_⟩:=aio a b (ns.length-1) (by omega);have f:=b.root;rw[d]at f;obtain rfl:c=0:=by omega
 rw[e];unfold sl;rw[jt,cI (by omega)]
section
variable {ns ms : List Nd} {M N : Nd}
theorem BB(h:M.bk=N.bk):M.k=N.k/\M.op=N.op/\M.n=N.n/\M.x=N.x/\M.nm=N.nm/\M.ks=N.ks:=by
 have a:=congrArg Nd.k h;have b:=congrArg Nd.op h;have c:=congrArg Nd.n h;have d:=congrArg Nd.x h;have e:=congrArg Nd.nm h;have f:=congrArg Nd.ks h;exact⟨a,b,c,d,e,f⟩
theorem Fi(h:ms.map Nd.bk=ns.map Nd.bk)(i:Nat):(ms.getD i nI).bk=(ns.getD i nI).bk:=by
 have a:=congrArg (fun b=>b[i]?) h;simp only[cA]at a;rw[bc,bc];cases h1:ms[i]?<;>cases h2:ns[i]?<;>rw[h1,h2]at a<;>simp_all
theorem BC(h:ms.map Nd.bk=ns.map Nd.bk)(e:M.bk=N.bk)(j:Nat):eu ms M j=eu ns N j:=by
 unfold eu;rw[(BB e).2.2.2.2.2];exact(BB (Fi h _)).1
theorem ajg(h:ms.map Nd.bk=ns.map Nd.bk)(e:M.bk=N.bk):∀f j,iF ms M f j=iF ns N f j
 |0,j=>rfl
 |f+1,j=>by rw[iF,iF,BC h e,ajg h e f]
theorem ajh(h:ms.map Nd.bk=ns.map Nd.bk)(e:M.bk=N.bk):∀f j,G8 ms M f j=G8 ns N f j
 |0,j=>rfl
 |f+1,j=>by rw[G8,G8,BC h e,ajh h e f]
theorem aji(h:ms.map Nd.bk=ns.map Nd.bk)(e:M.bk=N.bk):∀f j,C7 ms M f j=C7 ns N f j
 |0,j=>rfl
 |f+1,j=>by rw[C7,C7,BC h e,aji h e f]
theorem ajj(h:ms.map Nd.bk=ns.map Nd.bk)(e:M.bk=N.bk):∀f j,Gp ms M f j=Gp ns N f j
 |0,j=>rfl
 |f+1,j=>by rw[Gp,Gp,BC h e,ajj h e f]
theorem am7(h:ms.map Nd.bk=ns.map Nd.bk)(e:M.bk=N.bk):mq ms M=mq ns N:=by
 obtain⟨a,b,c,d,f,g⟩:=BB e;unfold mq stB jp aD ez;simp only[BC h e,ajg h e,ajh h e,aji h e,ajj h e,a,b,c,d,f,g]
theorem alk:∀(ns ms:List Nd),ms.map Nd.bk=ns.map Nd.bk->gC ms=gC ns:=by
 have f:∀(ns ms:List Nd)(a:List Int),ms.map Nd.bk=ns.map Nd.bk->ms.foldl (fun a N=>a++[po a a.length N.ks]) a=ns.foldl (fun a N=>a++[po a a.length N.ks]) a:=by
  intro ns
  induction ns with
  |nil=>intro ms a b;cases ms with
   |nil=>rfl
   |cons _ _=>simp at b
  |cons N ns e=>
   intro ms a b;cases ms with
   |nil=>simp at b
   |cons M ms=>
    obtain⟨c,d⟩:=mH b;rw[ju,ju,(BB c).2.2.2.2.2];exact e ms _ d
 exact fun ns ms b=>f ns ms [] b
theorem alm(h:ms.map Nd.bk=ns.map Nd.bk):Ca ms=Ca ns:=by
 have b:ms.length=ns.length:=by simpa using congrArg List.length h
 unfold Ca;rw[b];generalize List.replicate ns.length (0:Int)=D;generalize ns.length=a
 induction a generalizing D with
 |zero=>rfl
 |succ a c=>rw[dpN,dpN,(BB (Fi h a)).2.2.2.2.2];exact c _
theorem aax{p:Nat->Bool}:∀{f j:Nat},(∀k,j<=k->k<j+f->p k=Z)->gp p f j=Q
 |0,j,_=>rfl
 |f+1,j,h=>by
  rw[gp,aa (by rw[h j (ag _) (by omega)];simp)];exact aax fun k a b=>h k (by omega) (by omega)
theorem aiq(h:ms.map Nd.bk=ns.map Nd.bk)(a:(cF ns).1=0)(q:∀N∈ms,0<=N.f/\N.f<=N.t/\0<=N.l):cF ms=(0,0):=by
 have j:ms.length=ns.length:=by simpa using congrArg List.length h
 have k:=E5 a;have x:gp (eC ms) ms.length 0=Q:=aax fun c _ i=>by
  have i:c<ms.length:=by omega
  have b:=k.nb c (by omega);have e:=Fi h c;have o:ad ns c=ns.getD c nI:=by unfold ad;rw[fD,bc,bc,aE (by omega)];rfl
  rw[o]at b;have u:ms.getD c nI∈ms:=by rw[bc,aE i];exact lG _
  have d:=q _ u;unfold eC;unfold iJ at b⊢;rw[cL,cL]at b;have r:=aH b.1;have g:=(BB e).2.2.2.2.2;have m:AH (ms.getD c nI)=Ax:=bg ⟨d.1,d.2.1,d.2.2,by rw[g];exact r.2.2.2⟩;rw[m,g,b.2.1,am7 h e,b.2.2];rfl
 have s:gJ ms=gJ ns:=by
  unfold gJ;rw[j,(BB (Fi h _)).1]
 unfold cF at a⊢;rw[s,x,alk ns ms h,alm h,j];by_cases b:gJ ns=Ax
 ·rw[ab b]at a;exact absurd a (by decide)
 rw[aa b]at a⊢;cases hR:gp (eC ns) ns.length 0 with
 |some c=>rw[hR,tf2]at a;exact absurd a (by simp)
 |none=>
  rw[hR]at a;rw[tf2]at a⊢;cases hR2:gp (fp (gC ns)) ns.length 0 with
  |some c=>rw[hR2,LI]at a;exact absurd a (by simp)
  |none=>
   rw[hR2]at a;rw[LI]at a⊢;split at a
   ·exact absurd a (by simp)
   ·rename_i p;rw[aa p];have:=aeE a;rw[this];rfl
end
def Pln(N:Nd):Prop:=0<=N.f/\N.f<=N.t/\0<=N.l
def am8(tk:Nat->Tk):wF->Nat->Prop
 | .more _ s x,i=>(∃q,q<i/\s=tk q)/\x.all Pln
 | .post s a,i=>(∃q,q<i/\s=tk q)/\a.all Pln
 | .body s,i=>∃q,q<=i/\s=tk q
 |_,_=>True
section
variable {tk : Nat → Tk} {n : Nat}
theorem fs(c:∀q r,q<=r->r<n->0<=(tk q).f/\(tk q).f<=(tk r).t/\0<=(tk q).l){q r:Nat}(a:q<=r)(b:r<n)(k op m:Int)(x:ByteArray)(nm:List ByteArray):Pln (nd k (tk q) (tk r).t op m x nm):=c q r a b
theorem air(c:∀q r,q<=r->r<n->0<=(tk q).f/\(tk q).f<=(tk r).t/\0<=(tk q).l){q r:Nat}(a:q<=r)(b:r<n)(k:Int):Pln (qx k (tk q) (tk r).t):=by
 unfold qx;split
 ·exact c q r a b
 split
 ·exact c q r a b
 ·exact c q r a b
theorem P.pl(d:∀q r,q<=r->r<n->0<=(tk q).f/\(tk q).f<=(tk r).t/\0<=(tk q).l){t:wF}{i j:Nat}{R:Fo}(h:P tk n t i R j):(i+fh t<=j/\j<n)/\(am8 tk t i->R.all Pln):=by
 refine⟨⟨h.pos.1,h.pos.2.1⟩,?_⟩
 induction h
 case mgo p s x y R k k1 j h1 h2 h3 h4 h5 e i2=>
  rintro ⟨⟨q,u,rfl⟩,g⟩;have:=h4.pos;simp only[fh]at this;exact i2 ⟨⟨q,by omega,rfl⟩,(cj _ _ _).2 ⟨air d (by omega) (by omega) _,(gg _ _ _).2 ⟨g,e trivial⟩⟩⟩
 case ex p i k j x R h1 h2 h3 h4 e i2=>
  intro _;have:=h3.pos;simp only[fh]at this;exact i2 ⟨⟨i,by omega,rfl⟩,e trivial⟩
 case bname i j R h1 h2 h3 ih=>intro _;exact ih ⟨⟨i,by omega,rfl⟩,(cj _ _ _).2 ⟨fs d (ag _) h2 ..,trivial⟩⟩
 case bopen i k j N ks R h1 h2 h3 h4 h5 h6 e i2=>
  intro _;have:=h3.pos;simp only[fh]at this;have e:=e trivial;refine i2 ⟨⟨i,by omega,rfl⟩,?_⟩;unfold mo;split
  ·exact(cj _ _ _).2 ⟨fs d (by omega) h5 ..,e⟩
  ·exact e
 case pdot s B R k j h1 h2 h3 h4 ih=>
  rintro ⟨⟨q,u,rfl⟩,g⟩;exact ih ⟨⟨q,by omega,rfl⟩,(cj _ _ _).2 ⟨fs d (by omega) h3 ..,g⟩⟩
 case psq s B Y R k k1 j h1 h2 h3 h4 h5 h6 e i2=>
  rintro ⟨⟨q,u,rfl⟩,g⟩;have:=h3.pos;simp only[fh]at this;exact i2 ⟨⟨q,by omega,rfl⟩,(cj _ _ _).2 ⟨fs d (by omega) h5 ..,(gg _ _ _).2 ⟨g,e trivial⟩⟩⟩
 case pcall0 s B R k j h1 h2 h3 h4 ih=>
  rintro ⟨⟨q,u,rfl⟩,g⟩;exact ih ⟨⟨q,by omega,rfl⟩,(cj _ _ _).2 ⟨fs d (by omega) h3 ..,g⟩⟩
 case pcall s B Y R k k1 j h1 h2 h3 h4 h5 h6 h7 e i2=>
  rintro ⟨⟨q,u,rfl⟩,g⟩;have:=h4.pos;simp only[fh]at this;exact i2 ⟨⟨q,by omega,rfl⟩,(cj _ _ _).2 ⟨fs d (by omega) h6 ..,(gg _ _ _).2 ⟨g,e trivial⟩⟩⟩
 case body i k j s nm r B h1 h2 h3 h4 ih=>
  rintro ⟨q,u,rfl⟩;have:=h3.pos;have:=h4.pos;simp only[fh]at this;exact(cj _ _ _).2 ⟨fs d (by omega) (by omega) ..,ih trivial⟩
 case ufn i j R h1 h2 h3 ih=>intro _;exact ih ⟨i,by omega,rfl⟩
 case tfn i j B h1 h2 h3 h4 h5 ih=>
  intro _;have:=h5.pos;simp only[fh]at this;exact(cj _ _ _).2 ⟨fs d (by omega) (by omega) ..,ih ⟨i+2,ag _,rfl⟩⟩
 case mstop h1 h2=>exact fun h=>h.2
 case pstop h1 h2=>exact fun h=>h.2
 case tlet0 i k ns h1 h2 h3 h4 h5=>intro _;have:=h4.pos;exact(cj _ _ _).2 ⟨fs d (by omega) (by omega) ..,trivial⟩
 case tlet i k j ns E h1 h2 h3 h4 h5 h6 ih=>intro _;have:=h4.pos;have:=h6.pos;simp only[fh]at this;exact(cj _ _ _).2 ⟨fs d (by omega) (by omega) ..,ih trivial⟩
 case tfor i k k1 j ns E b h1 h2 h3 h4 h5 h6 h7 e i2=>intro _;have:=h4.pos;have A:=h6.pos;have o:=h7.pos;simp only[fh]at A o;exact(cj _ _ _).2 ⟨fs d (by omega) (by omega) ..,(gg _ _ _).2 ⟨e trivial,i2 trivial⟩⟩
 case teach i k k1 j ns x b h1 h2 h3 h4 h5 h6 h7 h8 h9 e i2=>intro _;have:=h4.pos;have A:=h6.pos;have F:=h9.pos;simp only[fh]at A F;exact(cj _ _ _).2 ⟨fs d (by omega) (by omega) ..,(gg _ _ _).2 ⟨e trivial,i2 trivial⟩⟩
 case ttry i k k1 j ns a b h1 h2 h3 h4 h5 h6 h7 h8 e i2=>intro _;have:=h7.pos;have c:=h3.pos;have C:=h8.pos;simp only[fh]at c C;exact(cj _ _ _).2 ⟨fs d (by omega) (by omega) ..,(gg _ _ _).2 ⟨e trivial,i2 trivial⟩⟩
 case tset i k k1 j x R E h1 h2 h3 h4 h5 h6 h7 e i2 i3=>intro _;have c:=h3.pos;have m:=h4.pos;have o:=h7.pos;simp only[fh]at c m o;exact(cj _ _ _).2 ⟨fs d (by omega) (by omega) ..,(gg _ _ _).2 ⟨(gg _ _ _).2 ⟨e trivial,i2 trivial⟩,i3 trivial⟩⟩
 case belif i k k1 j x b z h1 h2 h3 h4 h5 h6 h7 e i2 i3=>intro _;have c:=h3.pos;have m:=h4.pos;have o:=h7.pos;simp only[fh]at c m o;exact(cj _ _ _).2 ⟨fs d (by omega) (by omega) ..,(gg _ _ _).2 ⟨(gg _ _ _).2 ⟨e trivial,i2 trivial⟩,i3 trivial⟩⟩
 case belse i k k1 j x b z h1 h2 h3 h4 h5 h6 h7 e i2 i3=>intro _;have c:=h3.pos;have m:=h4.pos;have o:=h7.pos;simp only[fh]at c m o;exact(cj _ _ _).2 ⟨fs d (by omega) (by omega) ..,(gg _ _ _).2 ⟨(gg _ _ _).2 ⟨e trivial,i2 trivial⟩,i3 trivial⟩⟩
 case bno i k k1 x b h1 h2 h3 h4 h5 h6 h7 e i2=>intro _;have c:=h3.pos;have m:=h4.pos;simp only[fh]at c m;exact(cj _ _ _).2 ⟨fs d (by omega) (by omega) ..,(gg _ _ _).2 ⟨e trivial,i2 trivial⟩⟩
 case pair i k j x y h1 h2 h3 h4 h5 h6 h7 e i2=>intro _;have c:=h3.pos;have o:=h7.pos;simp only[fh]at c o;exact(cj _ _ _).2 ⟨fs d (by omega) (by omega) ..,(gg _ _ _).2 ⟨e trivial,i2 trivial⟩⟩
 case twhile i k j x b h1 h2 h3 h4 e i2=>intro _;have c:=h3.pos;have m:=h4.pos;simp only[fh]at c m;exact(cj _ _ _).2 ⟨fs d (by omega) (by omega) ..,(gg _ _ _).2 ⟨e trivial,i2 trivial⟩⟩
 case block i k S h1 h2 h3 h4 h5 ih=>intro _;have c:=h3.pos;simp only[fh]at c;exact(cj _ _ _).2 ⟨fs d (by omega) (by omega) ..,ih trivial⟩
 case utab i j E h1 h2 h3 h4 h5 ih=>intro _;have c:=h3.pos;simp only[fh]at c;exact(cj _ _ _).2 ⟨fs d (by omega) (by omega) ..,ih trivial⟩
 case upre i j x h1 h2 h3 ih=>intro _;have c:=h3.pos;simp only[fh]at c;exact(cj _ _ _).2 ⟨fs d (by omega) (by omega) ..,ih trivial⟩
 case item i j x h1 h2 h3 h4 h5 ih=>intro _;have c:=h5.pos;simp only[fh]at c;exact(cj _ _ _).2 ⟨fs d (by omega) (by omega) ..,ih trivial⟩
 case named i j y h1 h2 h3 h4 h5 ih=>intro _;have c:=h5.pos;simp only[fh]at c;exact(cj _ _ _).2 ⟨fs d (by omega) (by omega) ..,ih trivial⟩
 case tcon i j x h1 h2 h3 h4 h5 ih=>intro _;have c:=h5.pos;simp only[fh]at c;exact(cj _ _ _).2 ⟨fs d (by omega) (by omega) ..,ih trivial⟩
 case tret i j E h1 h2 h3 h4 ih=>intro _;have c:=h4.pos;simp only[fh]at c;exact(cj _ _ _).2 ⟨fs d (by omega) (by omega) ..,ih trivial⟩
 case tthrow i j x h1 h2 h3 ih=>intro _;have c:=h3.pos;simp only[fh]at c;exact(cj _ _ _).2 ⟨fs d (by omega) (by omega) ..,ih trivial⟩
 case tdefer i j x h1 h2 h3 ih=>intro _;have c:=h3.pos;simp only[fh]at c;exact(cj _ _ _).2 ⟨fs d (by omega) (by omega) ..,ih trivial⟩
 case tdo i j x h1 h2 h3 h4 h5 h6 ih=>intro _;have c:=h3.pos;simp only[fh]at c;exact(cj _ _ _).2 ⟨fs d (by omega) (by omega) ..,ih trivial⟩
 all_goals first
  |(intro _;exact(cj _ _ _).2 ⟨fs d (ag _) (by omega) ..,trivial⟩)
  |(intro _;simp_all only[cj,gg,am8,Fo.all,and_self,true_implies,forall_const])
end
