import Derived.Test.YtjeamjdieofoeaaGreatDoorHZk28
import Derived.Test.YtjeamjdieofoeaaGreatDoorHZk23
import Derived.Test.YtjeamjdieofoeaaGreatDoorHZk25
set_option linter.all false
set_option maxRecDepth 100000
set_option maxHeartbeats 12800000
open Go.Value renaming slice->O,int->X,string->Bs,tuple->B4,agg->B6,nilIface->B7
open Option renaming some->Q,none->U
open Go.Proofs.Tryz renaming prog->S
open Go.RowKit renaming Below->V,Hid->A5,intOf->C2
open Go.IntKind renaming i64->Y
open Go.Obj renaming cells->Z
open Go renaming World->Ax,Value->A0,Calls->B0,TypeId->B3,undef->Cb
open ByteArray renaming empty->A2
open Go.Lib renaming asciiSpaceTab->A9,TabIs->B1
open Go.Ending renaming returned->Br
namespace Go.Proofs.YtjeamjdieofoeaaGreatDoor
open Go.RowKit Go.Maps Go.WideMaps
variable{W:World}{b m q tab:Nat}{c e n:Int}{ns:List Nd}{s:Tk}
theorem jD{fn:Func}{p q:Tmp}{u:B3}(h:fn.results=#[.tmp p,.cell q u])(tmps:Array A0)(P:Program)(w:Ax)(a:Addr)(v b:A0)(d:tmps.getD p Cb=v)(f:tmps.getD q Cb= .pointer (Q a))
  (c:(loadVar u a).run P w= .ok b w):(results fn tmps).run P w= .ok (B4 #[v,b]) w:=by
 have e:tmps[p]?.getD Cb=v:=by simpa using d
 have g:tmps[q]?.getD Cb= .pointer (Q a):=by simpa using f
 simp only[results,h];simp[Result.andThen,e,g,asAddr,c]
theorem qr(w:Ax)(b:Nat)(c n:Int)(h:kD b w c n):(loadVar 36 ⟨b,0,U⟩).run S w= .ok (.agg #[.int .i64 c,.int .i64 n]) w:=
 Fv w b 36 36 _ _ _ h Tryz.underlying36 rfl (by kernel_rfl)
def Kk(w:Ax)(a:List Nd)(e:Ending)(w':Ax):Prop:=
 V w.heap.size w w'/\
 (((dd a).1≠0/\e= Br (B4 #[B7,B6 #[X Y (dd a).1,X Y (dd a).2]]))\/
  (dd a=(0,0)/\∃d f c b,e= Br (B4 #[nV b,B6 #[X Y 0,X Y 0]])/\c[a.length-1]?=Q b/\c.map Im.N=a/\li w' d f c/\∀b∈c,cu w b.vn b.N.nm))
theorem Kl(w:Ax)(v:A0)(b:List Nd)(h:fs w v b)(x:b.length<=1048576)(q:jL b=true):
  B0 S 15 #[B6 #[v]] w fun e w'=>e= Br (B4 #[B7,B6 #[X Y 1,X Y 0]])/\V w.heap.size w w':=by
 obtain⟨G,H,rfl⟩:=h.form;have j:∀c d,V w.heap.size w ((w.alloc c).alloc d):=fun c d=>((ah _ w).alloc (ag _) c).alloc (by simp) d;have t:∀c (i:Array A0) (m:B3),((w.alloc c).alloc (Z i m)).heap[w.heap.size+1]?=Q (Z i m (0,0)):=fun c i m=>by
  have:=aA (w.alloc c) (Z i m);rw[cD]at this;exact this
 have r:=aH q;by_cases f:b.length=0
 ·rw[f];go_in;go_wp2;exact aI (jD rfl _ _ _ ⟨w.heap.size+1,0,U⟩ _ _ rfl rfl (qr _ _ 1 0 (t _ _ _))) rfl ⟨rfl,j _ _⟩
 by_cases g:3000<b.length
 ·obtain⟨a,l⟩:∃a:Nat,b.length=a+1:=⟨b.length-1,by omega⟩;rw[l]at g x⊢;have B:decide ((a:Int)<0)=false:=aC (by omega);have C:(3000:Int)<=(a:Int):=by omega
  have F:(0:Int)<=(a:Int):=by omega
  clear h q r f g l;go_in;go_wp2;exact aI (jD rfl _ _ _ ⟨w.heap.size+1,0,U⟩ _ _ rfl rfl (qr _ _ 1 0 (t _ _ _))) rfl ⟨rfl,j _ _⟩
 ·have E:(b.getD (b.length-1) Iv).k≠1:=by rcases r with e|e|e;exact absurd e f;exact absurd e g;exact e
  have s:b.length-1<b.length:=by omega
  obtain⟨n,p⟩:∃n,b[b.length-1]?=Q n:=⟨_,aJ s⟩;rw[be,p,gl]at E;obtain⟨A,rfl,ad,L,u⟩:=h.get p;have o:=u.c0;obtain⟨z,y⟩:=az b.length;rw[y]at o f g x s⊢;obtain⟨a,l⟩:∃a:Nat,z=a+1:=⟨z-1,by omega⟩;subst l;rw[mI]at o;have I:((a+1:Nat):Int)-1=(a:Int):=by omega
  have F:(0:Int)<=(a:Int):=by omega
  have B:decide ((a:Int)<0)=false:=aC (by omega);have C:decide ((3000:Int)<=(a:Int))=false:=aC (by omega);have K:(a:Int)<(a:Int)+1:=by omega
  have J:∀c d,((w.alloc c).alloc d).cell? (A.add (a*9))=Q (X Y n.k):=fun c d=>aj (j c d) o;clear h q r f g p u y s;go_in;go_wp2;exact aI (jD rfl _ _ _ ⟨w.heap.size+1,0,U⟩ _ _ rfl rfl (qr _ _ 1 0 (t _ _ _))) rfl ⟨rfl,j _ _⟩
structure Km (w0:Ax) (lb mb:Nat) (vs:A0) (L:List Im) (W:Ax):Prop where
 bl:V w0.heap.size w0 W
 lk:Lk W lb mb vs
 ns:li W w0.heap.size vs L
theorem kD.keep{B:Nat}{a:Ax}(h:kD b W c n)(d:V B W a)(e:b<B):kD b a c n:=(d.block _ e).trans h
theorem amF(c:Nat):vw c≠36:=by
 unfold vw;split<;>decide
theorem li.setFt{base:Nat}{i:A0}{f:List Im}(h:li W base i f)(k:kD b W c n)(g:b<base)(j:Nat)(v:A0):li (W.setCell ⟨b,j,U⟩ v) base i f:=
 ⟨sa h.row g _,fun e a d=>(aB W ⟨b,j,U⟩ a.b v (qE (h.box e a d) (show W.heap[b]?=Q (Z #[X Y c,X Y n] 36 (0,0)) from k) (amF _))).trans (h.box e a d),fun e a d=>sa (h.kid e a d) g _,h.far,h.rng⟩
theorem li.putFt{base:Nat}{g:A0}{a:List Im}(h:li W base g a)(f:kD b W c n)(e:b<base)(d n2:Int):li ((W.setCell ⟨b,0,U⟩ (X Y d)).setCell ⟨b,1,U⟩ (X Y n2)) base g a:=
 (h.setFt f e 0 _).setFt (c:=d) (n:=n) (bz _ b 0 _ _ _ f) e 1 _
structure apo (w:Ax) (v:A0) (w0:Ax):Prop where
 tb:w0.heap[w.heap.size]?=Q (.cells #[v] 26 (0,0))
 fb:kD (w.heap.size+1) w0 0 0
 bl:V w.heap.size w w0
 sz:w0.heap.size=w.heap.size+1+1
def aaH(d:A0->Prop)(w:Ax)(a:List Nd)(e:Ending)(w':Ax):Prop:=
 V w.heap.size w w'/\
 (((dd a).1≠0/\e= Br (B4 #[B7,B6 #[X Y (dd a).1,X Y (dd a).2]]))\/
  (dd a=(0,0)/\∃f g c b,e= Br (B4 #[nV b,B6 #[X Y 0,X Y 0]])/\c[a.length-1]?=Q b/\c.map Im.N=a/\li w' f g c/\∀b∈c,cu w b.vn b.N.nm/\d b.vn))
theorem Hx(al:A0->Prop)(w:Ax)(v:A0)(a:List Nd)(fq:∀(cb:Addr) (n c i:Nat) (N:Nd) (vn:A0),v= O (Q cb) n c->a[i]?=Q N->w.cell? ⟨(cb.add (i*9)).block,(cb.add (i*9)).off+7,U⟩=Q vn->al vn)(h:fs w v a)(hp:a.length<=1048576)(ge:∀N∈a,io N)(f2:nA w)(c4:B3)(fr:Nat×Nat)(fo:w.heap[0]?=Q (Z ez c4 fr))
  (f8:∀W,V w.heap.size w W->B1 S W "strings.asciiSpace" .u8 A9) (ct:jL a=false):
  B0 S 15 #[B6 #[v]] w (aaH al w a):=by
 have gn:=aq fq;clear fq;obtain⟨hH,c,rfl⟩:=h.form;have bD:=iz ct;have ba:=lD h ge ct;have bn:=lD f2 fo f8;have fm:¬a.length=0:=fun j=>bD (.inl j);have fn:¬3000<a.length:=fun j=>bD (.inr (.inl j));have ch:(a.getD (a.length-1) Iv).k=1:=by
  by_cases E:(a.getD (a.length-1) Iv).k=1
  ·exact E
  ·exact absurd (.inr (.inr E)) bD
 obtain⟨N,F⟩:∃N,a[a.length-1]?=Q N:=⟨_,aJ (by omega)⟩;rw[be,F,gl]at ch;obtain⟨ca,rfl,vn,ik,fF⟩:=h.get F;have bf:=fF.c0;rw[ch]at bf;have ha:∀a0 a1,V w.heap.size w ((w.alloc a0).alloc a1):=fun a0 a1=>((ah _ w).alloc (ag _) a0).alloc (by simp) a1;obtain⟨n,c1⟩:=az a.length;have J:A5 (a.length=n):=c1;rw[c1]at ba bf fm fn⊢;obtain⟨d,hq⟩:∃d:Nat,n=d+1:=⟨n-1,by omega⟩;have f4:n-1=d:=by omega
 rw[f4]at bf;have h9:d<3000:=by omega
 have h4:((d+1:Nat):Int)-1=(d:Int):=by omega
 have ih:(0:Int)<=(d:Int):=by omega
 have h0:decide ((d:Int)<0)=false:=aC (by omega);have h3:decide ((3000:Int)<=(d:Int))=false:=aC (by omega);have ii:(d:Int)<(d:Int)+1:=by omega
 have hc:∀a0 a1,((w.alloc a0).alloc a1).cell? (ca.add (d*9))=Q (X Y 1):=fun a0 a1=>aj (ha a0 a1) bf;clear h ct bD fm fn ch F fF c1 hp ge f2 fo f8 f4 bf;subst hq;go_in;go_wp2_with fail;generalize fz:(w.alloc _).alloc _=p;obtain⟨dz,c9,c7,s0⟩:=DB fz;have o:A5 (apo w (O (Q ca) (d+1) c) p):=⟨dz,c9,c7,by omega⟩;clear dz c9 c7 s0 fz hc;have b0:=ai bn.2.1;have br:A5 (nA p/\p.heap[0]?=Q (Z ez c4 fr)/\(∀W,V p.heap.size p W->B1 S W "strings.asciiSpace" .u8 A9)):=
  ⟨bn.1.below o.bl (ag _),(o.bl.block _ b0).trans bn.2.1,fun W g8=>bn.2.2 W (o.bl.trans (g8.mono o.bl.size))⟩
 refine(qu (H:=Unit) p fr c4 br.2.1).mono ?_;rintro j t ⟨rfl,cF,bE⟩;obtain⟨C,cI⟩:=az p.heap.size;have ht:=o.sz;have g4:t.cell? ⟨w.heap.size,0,U⟩=Q (O (Q ca) (d+1) c):=dh ((bE.block _ (by omega)).trans o.tb);have hu:=bE.size;have hv:w.heap.size<t.heap.size:=by omega
 have hw:w.heap.size≠t.heap.size:=by omega
 rw[cI]at cF⊢;have a4:=lD cF bE cI;clear cF bE cI b0 ht hu;go_wp2_with fail;have c8:=aA t (Z #[.map (Q C),O U 0 0] 95);have cv:V t.heap.size t (t.alloc (Z #[.map (Q C),O U 0 0] 95)):=(ah _ t).alloc (ag _) _;have b3:Km p t.heap.size C (O U 0 0) [] (t.alloc (Z #[.map (Q C),O U 0 0] 95)):=by
  have d9:=a4.2.1.trans (cv.mono a4.2.1.size);have hs:C<t.heap.size:=by
   obtain⟨h5,hL,ho,_⟩:=a4.1;exact ai ho
  exact⟨d9,⟨c8,sF a4.1 (cv.block _ hs),br.1.below d9 (ag _)⟩,⟨dr _ _ _ _,fun i e l=>by simp at l,fun i e l=>by simp at l,fun e l=>by simp at l,fun i e gf l=>by simp at l⟩⟩
 have cB:p.heap.size<=t.heap.size:=a4.2.1.size;generalize t.alloc (Z #[.map (Q C),O U 0 0] 95)=g0 at b3⊢;obtain⟨av,f3⟩:=az t.heap.size;rw[f3]at b3 cB⊢;have gr:A5 (p.heap.size<=av):=cB;obtain⟨bc,cr⟩:=az (iq (fj a) (d+1) 0);have b9:A5 (iq (fj a) (d+1) 0=bc):=cr;have df:wI (fj a) (d+1-0) 0 bc:=⟨cr⟩;have dn:A5 (Km p av C (O U 0 0) [] g0):=b3;clear cr g4 hv hw a4 c8 cv b3 f3 cB;go_loopw [37] (fun c5 wr=>∃(g:Nat) (k:List Im) (b4:A0),g<=d+1/\c5= X Y g/\wI (fj a) (d+1-g) g bc/\A5 (Km p av C b4 k wr/\k.length=g/\k.map Im.N=a.take g/\∀e∈k,cu w e.vn e.N.nm/\al e.vn)) (fun c5 _=>d+1-(C2 c5).toNat)
 case atStart=>exact⟨0,[],_,aL _,rfl,df,dn,rfl,rfl,fun e l=>by simp at l⟩
 case round=>
  obtain⟨g,k,b4,h6,rfl,b7,f⟩:=hrel;clear dn df;have s:=b7.out;by_cases b0:g<d+1
  ·obtain⟨r,ap⟩:=cy J.out b0;have h8:(g:Int)<(d:Int)+1:=by omega
   have h7:(0:Int)<=(g:Int):=by omega
   obtain⟨hI,g9,ir,il,hg⟩:=ba.1.get ap;obtain rfl:=bp g9;have B:V w.heap.size w wr:=o.bl.trans (f.1.bl.mono o.bl.size);obtain⟨ec,ef,eg,eh,ei,ek,el,cc,eq,b1,cw⟩:=hg;obtain⟨bs,bw,rfl⟩:=b1.form;obtain⟨hJ,hK,rfl⟩:=cw.form;have et:=aj B ec;have ev:=aj B ef;have ex:=aj B eg;have e9:=aj B eh;have fa:=aj B ei;have fc:=aj B ek;have fd:=aj B el;have cf:=aj B cc;have cg:=aj B eq;have bd:∀af,V wr.heap.size wr (wr.alloc af):=fun af=>(ah _ wr).alloc (ag _) af;have ar:=fun af=>ahe p (wr.alloc af) br.1 (f.1.bl.trans ((bd af).mono f.1.bl.size)) av C gr b4 k (f.1.lk.below (bd af)) (f.1.ns.below (bd af)) r _ _ (b1.below o.bl) (cw.below o.bl) (ba.2.1 r (cH ap)) (by rw[f.out.2.1];omega) a (by rw[f.out.2.1];exact f.2.2.1) (by rw[f.out.2.1];exact ap) br.2.2;rw[show d+1-g=(d+1-(g+1))+1 by omega,iq]at s;have fk:fj a g=!(jk a g r):=by unfold fj;rw[be,ap];rfl
   have fg:D8 a k.length r=jk a g r:=by rw[ajL,f.out.2.1]
   rw[fk]at s;unfold jf at ar;have bb:A5 (D8 a k.length r=jk a g r):=fg;have gp:A5 (a[g]?=Q r):=ap;obtain⟨dq,cq⟩:=az r.nm.length;obtain⟨hE,fu⟩:=az r.ks.length;have b8:A5 (cu w (O bs r.nm.length bw) r.nm/\al (O bs r.nm.length bw)):=⟨b1,gn.out _ _ _ g r _ rfl ap cc⟩;rw[cq]at ar cf;replace b8:A5 (cu w (O bs dq bw) r.nm/\al (O bs dq bw)):=by rw[<-cq];exact b8
   rw[fu]at ar cg;clear ec ef eg eh ei ek el cc eq b1 cw ap fg fk cq fu b7;cases l:jk a g r with
   |true=>
    rw[l]at s bb;rw[aa (by decide)]at s;have gm:wI (fj a) (d+1-(g+1)) (g+1) bc:=⟨s⟩;clear s l;go_wp2_with fail;refine(ar _).mono ?_;rintro j u ⟨rfl,m,b2⟩;rw[bb.out];obtain⟨hA,e,f9,bh,gb,gd⟩:=b2 bb.out;have gu:A5 (Km p av C hA (k++[e]) u/\(k++[e]).length=g+1/\(k++[e]).map Im.N=a.take (g+1)/\∀bk∈k++[e],cu w bk.vn bk.N.nm/\al bk.vn):=
     ⟨⟨m,gb,gd⟩,by rw[aK,f.out.2.1];rfl,by rw[dF,f.out.2.2.1,iI,gp.out];simp[f9],fun bk hy=>by
      rcases List.mem_append.1 hy with hy|hy
      ·exact f.2.2.2 bk hy
      ·obtain rfl:=List.mem_singleton.1 hy;rw[f9,bh];exact b8⟩
    clear ar b2 m gb gd f et ev ex e9 fa fc fd cf cg B bd;go_wp2_with fail;exact⟨⟨g+1,_,_,by omega,by go_num,gm,gu⟩,by simp[C2];omega⟩
   |false=>
    rw[l]at s bb;rw[ab (by decide)]at s;have x:A5 (dd a=(2,(g:Int))):=by
     show dd a=(2,(g:Int));unfold dd;rw[ba.out.2.2,aa (by decide),J.out,b9.out,<-s];rfl
    clear s l;go_wp2_with fail;refine(ar _).mono ?_;rintro j u ⟨rfl,m,b2⟩;rw[bb.out];have A:=o.fb.keep m (by rw[o.out.sz];omega);obtain⟨am,bx,bA⟩:=jl A;have G:A5 (kD (w.heap.size+1) u 0 0/\V w.heap.size w u):=⟨A,o.bl.trans (m.mono o.bl.size)⟩;clear ar b2 m A f et ev ex e9 fa fc fd cf cg B bd;go_wp2_with fail;exact aI (jD rfl _ _ _ ⟨w.heap.size+1,0,U⟩ _ _ rfl rfl (qr _ _ 2 g (pu G.1 2 g))) rfl ⟨(G.2.setCell (by simp) _).setCell (by simp) _,.inl ⟨(by rw[x.out];intro j;simp at j),(by rw[x.out];rfl)⟩⟩
  ·obtain rfl:g=d+1:=by omega
   rw[eC,iq]at s;have gt:A5 (bc=U):=s.symm;have fA:=rC (show iq (fj a) (d+1) 0=U by rw[b9.out];exact s.symm);have a5:k.map Im.N=a:=by rw[f.out.2.2.1];exact cA (by rw[J.out];exact ag _)
   have fB:∀(i:Nat) e,k[i]?=Q e->a[i]?=Q e.N:=fun i e l=>by rw[<-a5,ce,l];rfl
   have cz:∀e∈k,e.N.ks.length<=200:=fun e l=>by
    obtain⟨i,bF,j⟩:=ie l;have F:a[i]?=Q e.N:=fB i e (by rw[aJ bF,j]);have bF:i<d+1:=by rw[<-J.out];exact(List.getElem?_eq_some_iff.1 F).1
    have cl:=fA i (aL _) (by omega);unfold fj at cl;rw[be,F,gl]at cl;have cm:jk a i e.N=true:=by simpa using cl
    unfold jk aae at cm;rw[ci]at cm;exact(aH cm.1).2.2.2
   have fx:Cp (iG a):=zi a (fun N F gf L=>by
    rw[<-a5]at F;obtain⟨e,l,rfl⟩:=List.mem_map.1 F;obtain⟨i,bF,j⟩:=ie l;exact(f.1.ns.rng i e gf (by rw[aJ bF,j]) L).1)
   obtain⟨E,bt,rfl⟩:∃E c,b4= O (Q ⟨E,0,U⟩) (d+1) c:=by
    rcases bu f.1.ns.row with⟨h,_⟩|h
    ·rw[f.out.2.1]at h;omega
    ·rw[f.out.2.1]at h;exact h
   have b5:wr.cell? ⟨av,1,U⟩=Q (O (Q ⟨E,0,U⟩) (d+1) bt):=by rw[au _ _ _ _ _ _ f.out.1.lk.b];rfl
   have z:=Du wr p.heap.size _ k f.1.ns a a5 (d+1) f.2.1 (by omega) (by omega) cz;have dk:A5 (∀W,V wr.heap.size wr W->B0 S 39 #[O (Q ⟨E,0,U⟩) (d+1) bt] W fun j hC=>j= Br (acm (iq (iA (Hc a)) (d+1) 0))/\V W.heap.size W hC):=
    fun W g7=>D9 W p.heap.size _ k (f.1.ns.below g7) a a5 (d+1) f.2.1 (by omega) (by omega) cz
   obtain⟨ds,cs⟩:=az (iq (gx (iG a)) (d+1) 0);have y:dd a=tf3 (iG a) (Hc a) (d+1) ds:=by
    unfold dd;rw[ba.out.2.2,aa (by decide),J.out,b9.out,gt.out];show tf3 (iG a) (Hc a) (d+1) (iq (gx (iG a)) (d+1) 0)=_;rw[cs]
   rw[cs]at z;have hj:=o.sz;have am:=o.fb.keep f.1.bl (by rw[o.out.sz];omega);have q:A5 (Km p av C (O (Q ⟨E,0,U⟩) (d+1) bt) k wr/\kD (w.heap.size+1) wr 0 0/\k.map Im.N=a/\k.length=d+1/\V w.heap.size w wr):=⟨f.1,am,a5,f.2.1,o.bl.trans (f.1.bl.mono o.bl.size)⟩;have gs:A5 (∀e∈k,cu w e.vn e.N.nm/\al e.vn):=f.2.2.2;have a7:=ahg fx (js a) (by rw[J.out];omega);rw[J.out,mI]at a7;clear s fA fB cz fx b7 f am cs a5 hj;cases ds with
   |some i=>
    have x:A5 (dd a=(3,(i:Int))):=y;unfold Hr at z;clear y a7;go_wp2_with fail;refine z.mono ?_;rintro j u ⟨rfl,m⟩;have A:=q.2.1.below m;obtain⟨am,bx,bA⟩:=jl A;have G:A5 (kD (w.heap.size+1) u 0 0/\V w.heap.size w u):=⟨A,q.2.2.2.2.trans (m.mono q.2.2.2.2.size)⟩;clear m A z b5;go_wp2_with fail;exact aI (jD rfl _ _ _ ⟨w.heap.size+1,0,U⟩ _ _ rfl rfl (qr _ _ 3 i (pu G.1 3 i))) rfl ⟨(G.2.setCell (by simp) _).setCell (by simp) _,.inl ⟨(by rw[x.out];intro j;simp at j),(by rw[x.out];rfl)⟩⟩
   |none=>
    rw[tf3,mI]at y;unfold Hr at z;rw[mI]at z;have g6:((d+1:Nat):Int)-1=(d:Int):=by omega
    rw[g6]at z y;by_cases L:(iG a).getD d 0<((d+1:Nat):Int)
    ·rw[ab (a7.2 L)]at y;rw[bH L]at z;have x:A5 (dd a=(3,(d:Int))):=y;clear y a7 L;go_wp2_with fail;refine z.mono ?_;rintro j u ⟨rfl,m⟩;have A:=q.2.1.below m;obtain⟨am,bx,bA⟩:=jl A;have G:A5 (kD (w.heap.size+1) u 0 0/\V w.heap.size w u):=⟨A,q.2.2.2.2.trans (m.mono q.2.2.2.2.size)⟩;clear m A z b5;go_wp2_with fail;exact aI (jD rfl _ _ _ ⟨w.heap.size+1,0,U⟩ _ _ rfl rfl (qr _ _ 3 d (pu G.1 3 d))) rfl ⟨(G.2.setCell (by simp) _).setCell (by simp) _,.inl ⟨(by rw[x.out];intro j;simp at j),(by rw[x.out];rfl)⟩⟩
    ·rw[aa (fun h=>L (a7.1 h))]at y;rw[aC L]at z;obtain⟨gz,fv⟩:=az (iq (iA (Hc a)) (d+1) 0);rw[fv]at y dk;clear a7 L fv;go_wp2_with fail;refine z.mono ?_;rintro j u ⟨rfl,m⟩;have a8:=dk.out u m;have c6:=aj m b5;clear z b5;cases gz with
     |some i=>
      have x:A5 (dd a=(4,(i:Int))):=y;unfold acm at a8;clear y;have a9:A5 (V wr.heap.size wr u):=m;clear m;go_wp2_with fail;refine a8.mono ?_;rintro j a3 ⟨rfl,a6⟩;have K:=a9.out.trans (a6.mono a9.size);have ao:=q.2.1.below K;obtain⟨am,bx,bA⟩:=jl ao;have I:A5 (kD (w.heap.size+1) a3 0 0/\V w.heap.size w a3):=⟨ao,q.2.2.2.2.trans (K.mono q.2.2.2.2.size)⟩;clear a6 K ao a8 c6;go_wp2_with fail;exact aI (jD rfl _ _ _ ⟨w.heap.size+1,0,U⟩ _ _ rfl rfl (qr _ _ 4 i (pu I.1 4 i))) rfl ⟨(I.2.setCell (by simp) _).setCell (by simp) _,.inl ⟨(by rw[x.out];intro j;simp at j),(by rw[x.out];rfl)⟩⟩
     |none=>
      have x:A5 (dd a=(0,0)):=y;unfold acm at a8;clear y;have a9:A5 (V wr.heap.size wr u):=m;clear m;go_wp2_with fail;refine a8.mono ?_;rintro j a3 ⟨rfl,a6⟩;have K:=a9.out.trans (a6.mono a9.size);have iy:=aj a6 c6;have ao:=q.2.1.below K;have c2:=q.1.ns.below K;obtain⟨e,l⟩:=cy q.2.2.2.1 (show d<d+1 by omega);have g5:a3.cell? ⟨E,d,U⟩=Q (nV e):=by have f7:=c2.row;rw[q.out.2.2.2.1]at f7;rw[f7.cellAt d (by omega),ce,l];rfl
      obtain⟨am,bx,bA⟩:=jl ao;have I:A5 (kD (w.heap.size+1) a3 0 0/\V w.heap.size w a3/\li a3 p.heap.size (O (Q ⟨E,0,U⟩) (d+1) bt) k/\k[d]?=Q e):=⟨ao,q.2.2.2.2.trans (K.mono q.2.2.2.2.size),c2,l⟩;obtain⟨hD,bh⟩:=az (nV e);rw[bh]at g5;have gv:A5 (nV e=hD):=bh;clear a6 K ao a8 c6 c2 l bh;go_wp2_with fail;exact aI (jD rfl _ _ _ ⟨w.heap.size+1,0,U⟩ _ _ rfl rfl (qr _ _ 0 0 (pu I.1 0 0))) rfl ⟨(I.2.1.setCell (by simp) _).setCell (by simp) _,.inr ⟨x,p.heap.size,_,k,e,by rw[gv.out];rfl,by rw[J.out,mI];exact I.2.2.2,q.2.2.1,I.2.2.1.putFt I.1 (by rw[o.out.sz];omega) 0 0,gs⟩⟩
theorem Aq(b:A0->Prop)(w:Ax)(v:A0)(a:List Nd)(k:∀(d:Addr) (n c i:Nat) (N:Nd) (vn:A0),v= O (Q d) n c->a[i]?=Q N->w.cell? ⟨(d.add (i*9)).block,(d.add (i*9)).off+7,U⟩=Q vn->b vn)(h:fs w v a)(f:a.length<=1048576)(p:∀N∈a,io N)(m:nA w)(g:B3)(fr:Nat×Nat)(j:w.heap[0]?=Q (Z ez g fr))
  (o:∀W,V w.heap.size w W->B1 S W "strings.asciiSpace" .u8 A9):
  B0 S 15 #[B6 #[v]] w (aaH b w a):=by
 cases hb:jL a with
 |true=>
  have e:dd a=(1,0):=by unfold dd;rw[ab hb]
  refine(Kl w v a h f hb).mono ?_;rintro q r ⟨rfl,l⟩;exact⟨l,.inl ⟨by rw[e];decide,by rw[e]⟩⟩
 |false=>exact Hx b w v a k h f p m g fr j o hb
theorem aaI(w:Ax)(v:A0)(a:List Nd)(h:fs w v a)(o:a.length<=1048576)(r:∀N∈a,io N)(n:nA w)(b:B3)(fr:Nat×Nat)(m:w.heap[0]?=Q (Z ez b fr))
  (p:∀W,V w.heap.size w W->B1 S W "strings.asciiSpace" .u8 A9):
  B0 S 15 #[B6 #[v]] w (Kk w a):=
 (Aq (fun _=>True) w v a (fun _ _ _ _ _ _ _ _ _=>trivial) h o r n b fr m p).mono fun u x h=>⟨h.1,h.2.imp id fun ⟨c,d,e,f,s,g,i,j,k,l⟩=>⟨c,d,e,f,s,g,i,j,k,fun t q=>(l t q).1⟩⟩
structure Mp (w0:Ax) (p1:Addr) (n c1:Nat) (ns:List Nd):Prop where
 nds:fs w0 (.slice (Q p1) n c1) ns
 cap:CF w0 p1 ns
 len:ns.length=n
 big:n<=3000
 sz:Szd ns
 n0:∀i:Int, -9223372036854775808<=(ae ns i).n
 n1:∀i:Int,(ae ns i).n<=9223372036854775807
abbrev vT(b:Addr)(n a:Nat):A0:= O (Q b) n a
def OkB(c:Ax)(j:Addr)(n l:Nat)(b:List Nd)(f:Nat):Prop:=
 ∀(a tab:Nat)(k:ByteArray),a<f->(ae b a).k=7->tab+f<=500000->∀{g e:Option Addr}{m i d h:Nat},NdR c j a (ae b a) g m i e d h->Wr c (vT j n l) tab 35 #[pW c,jf (ae b a) (O g m i) (O e d h),Bs k] (yk b f a k tab)
structure OkA (w0:Ax) (p1:Addr) (n c1:Nat) (ns:List Nd) (f:Nat):Prop where
 e:∀tab:Nat,tab+f<=500000->OkE w0 (vT p1 n c1) ns (fun k=>rI ns f k tab) tab f
 s:anf w0 (vT p1 n c1) ns (fun k t=>rJ ns f k t) f
 b:OkB w0 p1 n c1 ns f
theorem OkA.zero(f:Ax)(e:Addr)(n c:Nat)(d:List Nd):OkA f e n c d 0:=
 ⟨fun _ _ b _ _ _ a=>absurd a (by omega),fun b _ _ _ a=>absurd a (by omega),fun b _ _ a=>absurd a (by omega)⟩
section
variable {w0 : World} {p1 : Addr} {n c1 : Nat} {ns : List Nd} (M : Mp w0 p1 n c1 ns) {f : Nat} (A : OkA w0 p1 n c1 ns f)
theorem Wr.expr0(a:OkA w0 p1 n c1 ns f)(j:tab+f<=500000)(i:q<f)(g:fe (ae ns q).k=true):Wr w0 (vT p1 n c1) tab 33 #[pW w0,X Y (q:Int),X Y 0] (rI ns f q tab):=
 fun b c d h=>(a.e tab j).zero q b c i g d h
theorem Wr.blk(a:Mp w0 p1 n c1 ns)(e:OkA w0 p1 n c1 ns f)(r:tab+f<500000)(x:q<=f)(b:q<ns.length)(m:(ae ns q).k=1):Wr w0 (vT p1 n c1) tab 30 #[pW w0,X Y (q:Int)] (Az (fun k t=>rJ ns f k t) (ae ns q).ks tab):=by
 intro g h i o;obtain⟨p,w⟩:=jC (a.sz.nb q b);have j:=yu p m;refine adr w0 _ ns _ f e.s a.nds (by rw[a.len];have:=a.big;omega) q b (fun y u=>?_) (by omega) tab r g h i o;obtain⟨d,l,rfl⟩:=oy u;obtain⟨v,c⟩:=gB (a.sz.nb q b) b d l;have:=J9 _ 0 j d (by omega) (by omega);rw[c.id]at this⊢;exact⟨v,rfl,by have:=c.lt;omega,c.len,this⟩
theorem Wr.exs(b:OkA w0 p1 n c1 ns f)(l:tab+f<=500000){a:List Int}(h:afB ns f a)(j:a.length<=1048576)(v:A0)(m:dw w0 v a):Wr w0 (vT p1 n c1) tab 32 #[pW w0,v] (cC (a.map fun k=>rI ns f k tab)):=
 fun c d g i=>ads w0 _ v ns _ tab f (b.e tab l) a m h j c d g i
theorem Wr.bod(a:Mp w0 p1 n c1 ns)(g:OkA w0 p1 n c1 ns f)(p:tab+f<500000)(u:q<=f)(b:q<ns.length)(m:(ae ns q).k=36):Wr w0 (vT p1 n c1) tab 34 #[pW w0,X Y (q:Int)] (JB ns (fun k t=>rJ ns f k t) (ae ns q) tab):=by
 obtain⟨o,s⟩:=jC (a.sz.nb q b);obtain⟨i,d,j,l⟩:=agr o m;obtain⟨w,c⟩:=gB (a.sz.nb q b) b 0 (by omega);obtain⟨_,_,_,_,_,_,h⟩:=yl a.nds a.cap b;have:=a.len;have:=a.big;have:=c.lt;unfold JB adp;rw[c.id]at d⊢;refine aas a.nds a.cap a.len (by omega) (by omega) (by omega) h (.bod j ?_ i c.at_ (Wr.blk a g p (by omega) c.len d));rcases l with e|e
 ·exact .inl ⟨by omega,aa (by omega)⟩
 ·refine .inr ⟨e,?_⟩;rw[ab e];cases (ae ns q).nm with
  |nil=>exact .inl ⟨rfl,rfl⟩
  |cons r v=>exact .inr ⟨Nat.succ_pos _,rfl⟩
theorem ta(e:Mp w0 p1 n c1 ns){i:Nat}(d:i<ns.length)(q:i<=f){a:Nat}(h:∀j,a<=j->j<a+m->fe (ae ns (dG (ae ns i) j)).k=true)(r:a+m<=(ae ns i).ks.length):afB ns f (((ae ns i).ks.drop a).take m):=by
 intro s o;obtain⟨j,l,c⟩:=ie o;rw[eD,ep]at l;rw[List.getElem_take,List.getElem_drop]at c;obtain⟨p,b⟩:=gB (e.sz.nb i d) d (a+j) (by omega);have g:=Di (N:=ae ns i) (j:=a+j) (by omega);rw[g,b.id]at c;have:=h (a+j) (by omega) (by omega);rw[b.id]at this;exact⟨p,c.symm,by have:=b.lt;omega,b.len,this⟩
end
section
variable {w0 : World} {p1 : Addr} {n c1 : Nat} {ns : List Nd} {f : Nat}
theorem Wr.bas(a:Mp w0 p1 n c1 ns)(b:OkA w0 p1 n c1 ns f)(m:tab+f<=500000)(j:q<f)(l:q<ns.length)(h:fe (ae ns q).k=true):Wr w0 (vT p1 n c1) tab 103 #[pW w0,X Y (q:Int)] (bsB ns (fun k=>rI ns f k tab) q):=
 fun c d g i=>afy w0 _ ns _ tab f (b.e tab m) a.nds (by rw[a.len];have:=a.big;omega) q j l h c d g i
theorem Kn(c:Mp w0 p1 n c1 ns)(h:OkA w0 p1 n c1 ns f)(tab i:Nat)(bx:tab+f<500000)(bc:i<=f)(y:i<ns.length)(bw:fe (ae ns i).k=true)(bf:Int)(o:¬iD (ae ns i).k (ae ns i).op<bf):
  Wr w0 (vT p1 n c1) tab 33 #[pW w0,X Y (i:Int),X Y bf] (prE ns (fun q=>rI ns f q tab) (fun q t=>rJ ns f q t) (ae ns i) tab):=by
 have b0:=c.big;have b5:=c.len;obtain⟨s,b3⟩:=jC (c.sz.nb i y);have p:=fun u F=>gB (c.sz.nb i y) y u F;have a4:(ae ns i).k=31->1<=(ae ns i).op/\(ae ns i).op<=18:=fun bs=>(mF s).2.2 bs;have b1:=aH bw;have b6:=CC (ae ns i).k (ae ns i).op;obtain⟨bn,m,br,bl,bk,bo,C⟩:=yl c.nds c.cap y;have d:=@ag0 w0 p1 n c1 ns c.nds c.cap c.len (by omega) tab i (by omega) _ (by omega) a4 _ _ _ _ _ _ C;have a5:∀ba:ByteArray,((ae ns i).k=28\/(ae ns i).k=29\/(ae ns i).k=31)->Wr w0 (vT p1 n c1) tab 100 #[pW w0,jf (ae ns i) (O bn m br) (O bl bk bo),Bs ba,X Y (iD (ae ns i).k (ae ns i).op)] (GA ns (fun q=>rI ns f q tab) (ae ns i) ba (iD (ae ns i).k (ae ns i).op)):=by
  intro ba b2;obtain⟨g,e,x⟩:=mF s;obtain⟨a,b⟩:=p 0 (by omega);obtain⟨I,l⟩:=p 1 (by omega);have j:=gA 2 0 e 0 (by omega) (by omega);have r:=gA 2 0 e 1 (by omega) (by omega);have:=ach (ae ns i).k (ae ns i).op;have A:=b.lt;have bh:=l.lt;unfold GA;rw[b.id]at j⊢;rw[l.id]at r⊢;exact ajz (fun J K=>x (by omega)) C g b.at_ l.at_ (by omega) (fun v d w z=>h.e tab (by omega) a _ v d (by omega) j (by unfold Ae;split<;>omega) (by unfold Ae;split<;>omega) w z) (fun v d w z=>h.e tab (by omega) I _ v d (by omega) r (by omega) (by omega) w z)
 unfold prE;by_cases J:(ae ns i).k=28
 ·rw[ab J];exact d (.inf (.inl ⟨J,rfl⟩) o (a5 _ (by omega)))
 rw[aa J];by_cases K:(ae ns i).k=29
 ·rw[ab K];exact d (.inf (.inr ⟨K,rfl⟩) o (a5 _ (by omega)))
 rw[aa K];by_cases L:(ae ns i).k=31
 ·rw[ab L];exact agL (by omega) (by omega) a4 C L o (Dj (a4 L)) (a5 _ (by omega))
 rw[aa L];by_cases ad:(ae ns i).k=30
 ·rw[ab ad];obtain⟨g,e,x⟩:=oa s;obtain⟨a,b⟩:=p 0 (by omega);have A:=b.lt;have b8:=b.len;unfold unB unS;rw[b.id]at e⊢;have ar:=aq fun v d w z=>h.e tab (by omega) a 11 v d (by omega) e (by omega) (by omega) w z;refine d (.nod (.inl ⟨ad,rfl⟩) o ?_);have:=x ad;by_cases a7:(ae ns i).op=21
  ·rw[ab a7];exact d (.un (.inl ⟨a7,rfl⟩) g b.at_ ar)
  rw[aa a7];by_cases a8:(ae ns i).op=22
  ·rw[ab a8];exact d (.un (.inr (.inl ⟨a8,rfl⟩)) g b.at_ ar)
  rw[aa a8];by_cases a9:(ae ns i).op=20
  ·rw[ab a9];exact d (.un (.inr (.inr ⟨a9,rfl⟩)) g b.at_ ar)
  rw[aa a9];refine CH c.nds c.cap c.len (by omega) C (.neg g b.at_ (show _=_ by omega) ⟨by omega,?_⟩ ar);unfold GC;by_cases G:(ae ns a).k=30
  ·by_cases av:(ae ns a).op=19
   ·exact .inl ⟨G,.inl ⟨av,by rw[G,av];rfl⟩⟩
   ·exact .inl ⟨G,.inr ⟨av,by simp[av]⟩⟩
  ·exact .inr ⟨G,by simp[G]⟩
 rw[aa ad];by_cases a1:(ae ns i).k=32
 ·rw[ab a1];obtain⟨g,e,x⟩:=mF s;obtain⟨a,b⟩:=p 0 (by omega);obtain⟨I,l⟩:=p 1 (by omega);have j:=gA 2 0 e 0 (by omega) (by omega);have r:=gA 2 0 e 1 (by omega) (by omega);have A:=b.lt;have bh:=l.lt;rw[b.id]at j⊢;rw[l.id]at r⊢;exact d (.idx a1 o g b.at_ l.at_ (Wr.bas c h (by omega) (by omega) b.len j) (Wr.expr0 h (by omega) (by omega) r))
 rw[aa a1];by_cases a2:(ae ns i).k=33
 ·rw[ab a2];obtain⟨g,e,x⟩:=oa s;obtain⟨a,b⟩:=p 0 (by omega);have A:=b.lt;rw[b.id]at e⊢;exact d (.fld a2 o g b.at_ (Wr.bas c h (by omega) (by omega) b.len e))
 rw[aa a2];by_cases am:(ae ns i).k=34
 ·rw[ab am];obtain⟨g,e⟩:=Hf s am;obtain⟨a,b⟩:=p 0 (by omega);have j:=gA _ 0 e 0 (by omega) (by omega);have A:=b.lt;have bb:=ta c y bc (a:=1) (m:=(ae ns i).ks.length-1) (fun u x bF=>gA _ 0 e u (by omega) (by omega)) (by omega);rw[cA (by rw[ep];exact ag _)]at bb;rw[b.id]at j⊢;exact d (.cal am o g b.at_ (Wr.bas c h (by omega) (by omega) b.len j) fun bE bA=>Wr.exs h (by omega) bb (by rw[ep];omega) bE bA)
 rw[aa am];by_cases ao:(ae ns i).k=35
 ·rw[ab ao];have g:=Dd s ao;refine d (.nod (.inr (.inl ⟨ao,rfl⟩)) o (adK c.nds c.cap c.len (by omega) C.ks (by omega) fun b9 bD=>?_));obtain⟨u,F,rfl⟩:=oy bD;obtain⟨H,B⟩:=p u F;have e:=ab4 _ 0 g u (by omega) (by omega);rw[B.id]at e⊢;refine⟨H,rfl,B.len,?_⟩;obtain⟨bd,b4⟩:=jC (c.sz.nb H B.len);have a6:=fun u F=>gB (c.sz.nb H B.len) B.len u F;have b7:=B.lt;unfold Ay;by_cases af:(ae ns H).k=41
  ·obtain⟨a3,E,bt⟩:=mF bd;obtain⟨a,b⟩:=a6 0 (by omega);obtain⟨I,l⟩:=a6 1 (by omega);have j:=gA 2 0 E 0 (by omega) (by omega);have r:=gA 2 0 E 1 (by omega) (by omega);have A:=b.lt;have bh:=l.lt;rw[b.id]at j⊢;rw[l.id]at r⊢;exact .inl ⟨af,a3,a,I,_,_,b.at_,l.at_,Wr.expr0 h (by omega) (by omega) j,Wr.expr0 h (by omega) (by omega) r,ab af⟩
  ·obtain⟨a3,E,bt⟩:=oa bd;obtain⟨a,b⟩:=a6 0 (by omega);have A:=b.lt;rw[aa af];rw[b.id]at E⊢;refine .inr ⟨a3,a,_,b.at_,Wr.expr0 h (by omega) (by omega) E,?_⟩;by_cases al:(ae ns H).k=42
   ·exact .inl ⟨al,ab al⟩
   ·exact .inr ⟨⟨af,al⟩,aa al⟩
 rw[aa ao];by_cases ap:(ae ns i).k=36
 ·rw[ab ap];exact d (.fn ap o (Wr.bod c h bx bc y ap))
 rw[aa ap];by_cases a0:(ae ns i).k=37
 ·rw[ab a0];obtain⟨g,e,x⟩:=oa s;obtain⟨a,b⟩:=p 0 (by omega);have A:=b.lt;rw[b.id]at e⊢;exact d (.one a0 o g b.at_ (Wr.expr0 h (by omega) (by omega) e))
 rw[aa a0];exact d (.nod (.inr (.inr ⟨by omega,rfl⟩)) o fun v d w z=>adq w0 _ _ _ _ v tab d w (by omega) (c.n0 i) (c.n1 i) (fun _=>wL (c.sz.nb i y)) z)
theorem ad8(a:Mp w0 p1 n c1 ns)(e:OkA w0 p1 n c1 ns f)(w:f<ns.length)(tab:Nat)(B:tab+(f+1)<=500000):OkE w0 (vT p1 n c1) ns (fun k=>rI ns (f+1) k tab) tab (f+1):=by
 intro k l g h x i t u j b;have v:=a.big;have z:=a.len;obtain⟨r,y⟩:=jC (a.sz.nb k (by omega));have q:(ae ns k).k=31->1<=(ae ns k).op/\(ae ns k).op<=18:=fun o=>(mF r).2.2 o;have p:rI ns (f+1) k tab=prE ns (fun d=>rI ns f d tab) (fun d s=>rJ ns f d s) (ae ns k) tab:=by rw[rI]
 unfold po at b⊢;simp only[p]at b⊢;by_cases c:iD (ae ns k).k (ae ns k).op<l
 ·rw[ab c]at b⊢;have A:=CC (ae ns k).k (ae ns k).op;obtain⟨_,_,_,_,_,_,m⟩:=yl a.nds a.cap (show k<ns.length by omega);exact ag0 a.nds a.cap a.len (by omega) (by omega) (by omega) q m (.par c (Kn a e tab k (by omega) (by omega) (by omega) i 0 (by omega))) g h j b
 ·rw[aa c]at b⊢;exact Kn a e tab k (by omega) (by omega) (by omega) i l c g h j b
end
section
variable {w0 : World} {p1 : Addr} {n c1 : Nat} {ns : List Nd} {f : Nat}
theorem Dw(a:Mp w0 p1 n c1 ns)(h:OkA w0 p1 n c1 ns f)(tab i:Nat)(C:tab+f<500000)(ao:i<=f)(p:i<ns.length)(K:(ae ns i).k=7)(E:ByteArray){x v:Option Addr}{z u y:Nat}(R:NdR w0 p1 i (ae ns i) x m z v u y):
  Wr w0 (vT p1 n c1) tab 35 #[pW w0,jf (ae ns i) (O x m z) (O v u y),Bs E] (Cz ns (fun q=>rI ns f q tab) (fun q t=>rJ ns f q t) (fun q w=>yk ns f q w tab) (ae ns i) E tab):=by
 have am:=a.big;have ar:=a.len;obtain⟨L,ap⟩:=jC (a.sz.nb i p);have r:=fun ad J=>gB (a.sz.nb i p) p ad J;obtain⟨af,al,A,B,I⟩:=agu L K;obtain⟨G,c⟩:=r 0 (by omega);obtain⟨H,b⟩:=r 1 (by omega);have av:=c.lt;have a0:=b.lt;rw[c.id]at A;rw[b.id]at B;have o:=aq (Wr.expr0 h (tab:=tab) (by omega) (show G<f by omega) A);have l:=aq (Wr.blk a h C (show H<=f by omega) b.len B);have F:=@aas w0 p1 n c1 ns a.nds a.cap a.len (by omega) tab i (by omega) _ (by omega) _ _ _ _ _ _ R;unfold Cz;rw[c.id,b.id];rcases bj (ae ns i).ks.length 3 with g|g
 ·rw[ab g,show ∀s:ByteArray,s++A2=s from fun s=>ByteArray.append_empty];exact F (.br2 (by omega) c.at_ b.at_ o l)
 ·rw[aa (by omega)];obtain⟨j,d⟩:=r 2 (by omega);have wc:=d.lt;have a1:=d.len;rw[d.id]at I⊢;by_cases e:(ae ns j).k=7
  ·rw[ab e];exact CH a.nds a.cap a.len (by omega) R (.bre (by omega) c.at_ b.at_ d.at_ o l ⟨by omega,e⟩ fun _ _ _ _ _ _ R=>h.b j tab _ (by omega) e (by omega) R)
  ·rw[aa e,<-bq];exact CH a.nds a.cap a.len (by omega) R (.br3 (by omega) c.at_ b.at_ d.at_ o l ⟨by omega,e⟩ (Wr.blk a h C (show j<=f by omega) d.len (show(ae ns j).k=1 by omega)))
theorem ahs{N:Nd}(h:N.nm.length=1):N.nm[0]?=Q (nm0 N):=by
 unfold nm0;rw[be,aJ (by omega)];rfl
theorem aht(d:Mp w0 p1 n c1 ns)(h:OkA w0 p1 n c1 ns f)(tab i:Nat)(B:tab+f<500000)(A:i<=f)(r:i<ns.length)(bc:jj (ae ns i).k=true):
  Wr w0 (vT p1 n c1) tab 13 #[pW w0,X Y (i:Int)] (prS ns (fun q=>rI ns f q tab) (fun q t=>rJ ns f q t) (fun _ w=>Cz ns (fun q=>rI ns f q tab) (fun q t=>rJ ns f q t) (fun q w=>yk ns f q w tab) (ae ns i) w tab) (ae ns i) tab):=by
 have bd:=d.big;have bk:=d.len;obtain⟨s,bh⟩:=jC (d.sz.nb i r);have v:=fun p a8=>gB (d.sz.nb i r) r p a8;have a7:(ae ns i).ks.length<=1048576:=by omega
 obtain⟨_,_,_,_,_,_,a2⟩:=yl d.nds d.cap r;have l:=@aas w0 p1 n c1 ns d.nds d.cap d.len (by omega) tab i (by omega) _ (by omega) _ _ _ _ _ _ a2;have bf:=aH bc;have a5:∀k:Int,k=34->fe k=true:=fun k am=>by rw[am];rfl
 unfold prS;by_cases H:(ae ns i).k=1
 ·rw[ab H];exact l (.blk H (Wr.blk d h B A r H))
 rw[aa H];by_cases G:(ae ns i).k=2
 ·rw[ab G];obtain⟨g,b⟩:=aai s G;by_cases y:(ae ns i).ks=[]
  ·rw[ab y,show ∀C:ByteArray,C++A2=C from fun C=>ByteArray.append_empty];exact l (.let0 b G (by rw[y];rfl))
  ·rw[aa y];have o:=ta d r A (a:=0) (m:=(ae ns i).ks.length) (fun p e z=>gA _ 0 g p (by omega) (by omega)) (by omega);rw[ey,cA (ag _)]at o;exact l (.let1 b G (List.length_pos_iff.2 y) fun x u=>Wr.exs h (by omega) o a7 x u)
 rw[aa G];by_cases K:(ae ns i).k=3
 ·rw[ab K];obtain⟨g,b,e⟩:=Df s K;obtain⟨a,c⟩:=v 0 (by omega);have E:=c.lt;rw[c.id]at b⊢;exact l (.cst K g e (ahs e) c.at_ (Wr.expr0 h (by omega) (by omega) b))
 rw[aa K];by_cases L:(ae ns i).k=4
 ·rw[ab L];obtain⟨g,b,e⟩:=aaj s L;obtain⟨a,c⟩:=v 0 (by omega);have E:=c.lt;rw[c.id]at b⊢;exact l (.fns L g e (ahs e) c.at_ (Wr.bod d h B (by omega) c.len b))
 rw[aa L];by_cases ad:(ae ns i).k=5
 ·rw[ab ad];obtain⟨g,b,e,z⟩:=agt s ad;obtain⟨m,ba⟩:∃m:Nat,(ae ns i).n=(m:Int):=⟨(ae ns i).n.toNat,by omega⟩;have bb:(ae ns i).n.toNat=m:=by omega
  rw[bb]at e z⊢;have o:=ta d r A (a:=0) (m:=m) (fun p av a0=>agq _ 0 e p (by omega) (by omega)) (by omega);rw[ey]at o;have a6:=ta d r A (a:=m) (m:=(ae ns i).ks.length-m) (fun p av a0=>gA _ m z p (by omega) (by omega)) (by omega);rw[cA (by rw[ep];exact ag _)]at a6;exact l (.set ad (by omega) ba (fun x u=>Wr.exs h (by omega) o (by rw[eD];omega) x u) fun x u=>Wr.exs h (by omega) a6 (by rw[ep];omega) x u)
 rw[aa ad];by_cases ap:(ae ns i).k=6
 ·rw[ab ap];obtain⟨g,b⟩:=E4 s (by omega);obtain⟨a,c⟩:=v 0 (by omega);have E:=c.lt;rw[c.id]at b⊢;exact l (.one ap g c.at_ (Wr.expr0 h (by omega) (by omega) (a5 _ b)))
 rw[aa ap];by_cases af:(ae ns i).k=7
 ·rw[ab af];exact l (.iff af (Dw d h tab i B A r af _ a2))
 rw[aa af];by_cases ak:(ae ns i).k=8
 ·rw[ab ak];obtain⟨g,b,e⟩:=Dg s ak;obtain⟨a,c⟩:=v 0 (by omega);obtain⟨al,j⟩:=v 1 (by omega);have E:=c.lt;have a1:=j.lt;rw[c.id]at b⊢;rw[j.id]at e⊢;exact l (.whl ak g c.at_ j.at_ (Wr.expr0 h (by omega) (by omega) b) (Wr.blk d h B (by omega) j.len e))
 rw[aa ak];by_cases a4:(ae ns i).k=9\/(ae ns i).k=10
 ·rw[ab a4];by_cases a3:(ae ns i).k=10
  ·rw[aa (by omega)];obtain⟨g,b,e,z⟩:=Hg s a3;rw[g];have o:=ta d r A (a:=0) (m:=1) (fun p av a0=>by have am:p=0:=(by omega);subst am;exact b) (by omega);rw[ey]at o;obtain⟨al,j⟩:=v 1 (by omega);have a1:=j.lt;show Wr _ _ _ _ _ (_++_++_++_++_++Az _ (ae ns (dG (ae ns i) 1)).ks tab);rw[j.id]at e⊢;exact l (.fr z (.inr ⟨a3,rfl,rfl⟩) g j.at_ (fun x u=>Wr.exs h (by omega) o (by rw[eD];omega) x u) (Wr.blk d h B (by omega) j.len e))
  ·have ar:(ae ns i).k=9:=by omega
   rw[ab ar];obtain⟨g,b,e,z⟩:=aak s ar;obtain⟨k,a9⟩:∃k,(ae ns i).ks.length=k+1:=⟨(ae ns i).ks.length-1,by omega⟩;rw[show(ae ns i).ks.length-1=k by omega]at b e⊢;have o:=ta d r A (a:=0) (m:=k) (fun p av a0=>gA _ 0 b p (by omega) (by omega)) (by omega);rw[ey]at o;obtain⟨al,j⟩:=v k (by omega);have a1:=j.lt;rw[j.id]at e⊢;exact l (.fr (by omega) (.inl ⟨ar,rfl,by omega⟩) a9 j.at_ (fun x u=>Wr.exs h (by omega) o (by rw[eD];omega) x u) (Wr.blk d h B (by omega) j.len e))
 rw[aa a4];by_cases an:(ae ns i).k=11
 ·rw[ab an];exact l (.brk an)
 rw[aa an];by_cases ao:(ae ns i).k=12
 ·rw[ab ao];exact l (.nxt ao)
 rw[aa ao];by_cases F:(ae ns i).k=13
 ·rw[ab F];have g:=agv s F;by_cases y:(ae ns i).ks=[]
  ·rw[ab y,show ∀C:ByteArray,C++A2=C from fun C=>ByteArray.append_empty];exact l (.ret0 F (by rw[y];rfl))
  ·rw[aa y];have o:=ta d r A (a:=0) (m:=(ae ns i).ks.length) (fun p e z=>gA _ 0 g p (by omega) (by omega)) (by omega);rw[ey,cA (ag _)]at o;exact l (.ret1 F (List.length_pos_iff.2 y) fun x u=>Wr.exs h (by omega) o a7 x u)
 rw[aa F];by_cases I:(ae ns i).k=14
 ·rw[ab I];obtain⟨g,b,e,z⟩:=aal s I;obtain⟨a,c⟩:=v 0 (by omega);obtain⟨al,j⟩:=v 1 (by omega);have E:=c.lt;have a1:=j.lt;rw[c.id]at b⊢;rw[j.id]at e⊢;exact l (.try_ z I g c.at_ j.at_ (Wr.blk d h B (by omega) c.len b) (Wr.blk d h B (by omega) j.len e))
 rw[aa I];by_cases J:(ae ns i).k=15
 ·rw[ab J];obtain⟨g,b⟩:=Dh s J;obtain⟨a,c⟩:=v 0 (by omega);have E:=c.lt;rw[c.id]at b⊢;exact l (.thr J g c.at_ (Wr.expr0 h (by omega) (by omega) b))
 rw[aa J,ab (by omega)];obtain⟨g,b⟩:=E4 s (by omega);obtain⟨a,c⟩:=v 0 (by omega);have E:=c.lt;rw[c.id]at b⊢;exact l (.dfr (show _=_ by omega) g c.at_ (Wr.expr0 h (by omega) (by omega) (a5 _ b)))
theorem ahu(d:Mp w0 p1 n c1 ns)(c:OkA w0 p1 n c1 ns f)(m:f<ns.length):OkA w0 p1 n c1 ns (f+1):=
 ⟨fun b i=>ad8 d c m b i,
  fun j b e g o p i h a=>by
  simp only[rJ]at a⊢;exact aht d c b j (by omega) (by omega) (by omega) p e g h a,
  fun j b q o l i _ _ _ _ _ _ k e g h a=>by
  simp only[yk]at a⊢;exact Dw d c b j (by omega) (by omega) (by omega) l q k e g h a⟩
theorem okA(a:Mp w0 p1 n c1 ns):∀f,f<=ns.length->OkA w0 p1 n c1 ns f
 |0,_=>OkA.zero w0 p1 n c1 ns
 |f+1,h=>ahu a (okA a f (by omega)) (by omega)
end
open Go.Lib (strCells strCells_length)
theorem Hy(T:ByteArray):strCells T=B8 (zm T.data.toList):=by
 unfold strCells B8 zm;rw[List.map_map];rfl
theorem Fh{w:Ax}{base g n a:Nat}{T:ByteArray}(b:w.ownsRow base 5 1 (O (Q ⟨g,0,U⟩) n a) n (strCells T)):
  (convert 39 9 (O (Q ⟨g,0,U⟩) n a)).run S w= .ok (Bs T) w:=by
 rw[Hy]at b;rw[oI b,EF]
def gL(a:List Nd):ByteArray:=if(dd a).1=0 then CA a else⟨#[]⟩
theorem CF.below{w:Ax}{a:Addr}{n i:Nat}(h:CF w a ns)(k:fs w (O (Q a) n i) ns)(l:V w.heap.size w W):CF W a ns:=by
 intro m b c d g f;obtain⟨p,j,q,o,e⟩:=k.get g;cases j;have:=aj l e.c8;rw[this]at f;obtain rfl:o= O c b.ks.length d:=by simpa using f
 exact h m b c d g e.c8
theorem ahv(h:(dd ns).1=0):0<ns.length/\ns.length<=3000/\(ae ns ((ns.length:Int)-1)).k=1:=by
 have e:=Dc h;have:=e.len;unfold dd at h;by_cases b:jL ns=true
 ·rw[ab b]at h;exact absurd h (by decide)
 ·have c:jL ns=false:=by simpa using b
  have d:=iz c;refine⟨by omega,by omega,?_⟩;by_cases a:(ns.getD (ns.length-1) Iv).k=1
  ·unfold ae;rw[show((ns.length:Int)-1).toNat=ns.length-1 by omega];rw[be,aJ (by omega)]at a⊢;exact a
  ·exact absurd (.inr (.inr a)) d
theorem Pr.new(a:Ax)(b:A0):Pr a b A2 0 (a.alloc (Z #[b,O U 0 0,X Y 0] 41)):=
 ⟨(ah _ a).alloc (ag _) _,O U 0 0,aA a _,dr _ _ _ _⟩
theorem Eb(w:Ax)(i:Addr)(n c:Nat)(a:List Nd)(h:fs w (O (Q i) n c) a)(b4:CF w i a)(ar:a.length=n)(eh:n<=1048576)(cw:∀N∈a,io N)(b5:∀N∈a,BI N):
  B0 S 7 #[B6 #[O (Q i) n c]] w fun e w'=>e= Br (Bs (gL a))/\V w.heap.size w w':=by
 have b1:∀x,V w.heap.size w (w.alloc x):=fun x=>(ah _ w).alloc (ag _) x;have q:=Kz h b4 b5 ar;have bk:=fun x=>wJ (w.alloc x) (O (Q i) n c) a (h.below (b1 x)) (by omega) cw;obtain⟨bt,bc⟩:=az ((dd a).1);obtain⟨m,bF⟩:=az ((dd a).2);rw[bc,bF]at bk;have I:=aq bc;clear h cw b5 ar bc bF b4;go_in;go_wp2_with fail;have bs:=aA w (Z #[O (Q i) n c] 26);have dk:(w.alloc (Z #[O (Q i) n c] 26)).heap.size=w.heap.size+1:=cD _ _;refine bv (bk _) fun f C=>?_;have H:=(C.block _ (by omega)).trans bs;have E:V w.heap.size w f:=(b1 _).trans (C.mono (by omega));clear bs C bk;by_cases B:bt=0
 ·subst B;have a7:=dh H;have ei:=ai H;have c4:((0:Int)!=0)=false:=rfl;have ao:V f.heap.size f (f.alloc (Z #[X Y 0,X Y m] 36)):=(ah _ f).alloc (ag _) _;have o:V w.heap.size w (f.alloc (Z #[X Y 0,X Y m] 36)):=E.trans (ao.mono E.size);have L:(f.alloc (Z #[X Y 0,X Y m] 36)).cell? ⟨w.heap.size,0,U⟩=Q (O (Q i) n c):=aj ao a7;obtain⟨d0,cr,bl⟩:=ahv I.out;have ar:=q.2.2.2;obtain⟨d,rfl⟩:∃d,n=d+1:=⟨n-1,by omega⟩;have bd:ae a ((a.length:Int)-1)=ae a (d:Int):=by congr 1;omega
  rw[bd]at bl;obtain⟨d6,d3,d8,bA,l,bD,K⟩:=yl q.1 q.2.1 (show d<a.length by omega);have a9:=(K.rd _ (o.trans (((ah _ _).alloc (ag _) (Z #[O (Q i) (d+1) c,O U 0 0,X Y 0] 41)).mono o.size))).c8;have d9:((d:Int)+1)-1=(d:Int):=by omega
  have ek:(0:Int)<=(d:Int):=by omega
  have el:(d:Int)<(d:Int)+1:=by omega
  have r:Mp (f.alloc (Z #[X Y 0,X Y m] 36)) i (d+1) c a:=by
   refine⟨q.1.below o,q.2.1.below q.1 o,ar,by omega,ags I,fun cl=>?_,fun cl=>?_⟩;all_goals
    unfold ae;rw[be];cases e:a[cl.toNat]? with
    |none=>decide
    |some N=>have:=(q.2.2.1 N (cH e)).n;simp only[gl];omega
  have b8:=aam r.sz r.n1 (by omega) (by omega);have a3:=Pr.new (f.alloc (Z #[X Y 0,X Y m] 36)) (O (Q i) (d+1) c);have a4:=aq a3;have a8:((f.alloc (Z #[X Y 0,X Y m] 36)).alloc (Z #[O (Q i) (d+1) c,O U 0 0,X Y 0] 41)).cell? ⟨w.heap.size,0,U⟩=Q (O (Q i) (d+1) c):=aj ((ah _ _).alloc (ag _) _) L;generalize c6:f.alloc (Z #[X Y 0,X Y m] 36)=t at r a4 a3 a8 L a9 o ao;have br:=okA r a.length (ag _);obtain⟨cb,c9⟩:=jC (r.sz.nb d (by omega));have b3:=yu cb bl;have bf:=K.hL;obtain⟨v,y⟩:=az ((ae a (d:Int)).ks);obtain⟨g,ap⟩:∃g,(v.map fun b=>rJ a a.length b 0++(⟨#[10]⟩:ByteArray))=g:=⟨_,rfl⟩;have b7:lh a=gw g:=by unfold lh;rw[bd,y,ap]
  have cf:∀z∈v,∃j:Nat,z=(j:Int)/\j<a.length/\jj (ae a j).k=true:=by
   intro z a1;rw[<-y]at a1;obtain⟨cm,c7,rfl⟩:=oy a1;obtain⟨d2,cg⟩:=gB (r.sz.nb d (by omega)) (by omega) cm c7;have:=J9 _ 0 b3 cm (by omega) (by omega);rw[cg.id]at this⊢;exact⟨d2,rfl,cg.len,this⟩
  have b6:dw t (O bA l bD) v:=by rw[<-y];exact K.ks.below o
  have k:A5 (OkA t i (d+1) c a a.length/\dw t (O bA l bD) v/\(∀z∈v,∃j:Nat,z=(j:Int)/\j<a.length/\jj (ae a j).k=true)/\v.length=l/\(v.map fun b=>rJ a a.length b 0++(⟨#[10]⟩:ByteArray))=g/\lh a=gw g/\(lh a).size<=6000000000/\a.length<=3000/\g.length=l):=⟨br,b6,cf,by rw[<-y];exact bf,ap,b7,b8,cr,by rw[<-ap,cj,<-y];exact bf⟩;have eb:l<=200:=by omega
  have a2:=aq o;subst c6;clear br cb b3 bf y ap b7 cf b6 b8 r a3 K bd d0 cr bl c9 H ao E dk o;go_wp2_with fail;have bh:(f.alloc (Z #[X Y 0,X Y m] 36)).heap.size=f.heap.size+1:=cD _ _;generalize f.alloc (Z #[X Y 0,X Y m] 36)=t at a4 k a2 L a8 a9 bh⊢;have a5:=aq bh;clear bh;go_loopw [25] (fun bo wr=>∃b:Nat,b<=l/\bo= X Y b/\A5 (Pr t (O (Q i) (d+1) c) (gw (g.take b)) 0 wr)) (fun bo _=>l-(C2 bo).toNat)
  case atStart=>exact⟨0,by omega,rfl,a4⟩
  case round=>
   clear a8 a9 L a7;obtain⟨b,ec,rfl,A⟩:=hrel;by_cases df:b<l
   ·obtain⟨z,a0⟩:=cy k.2.2.2.1 df;obtain⟨j,rfl,b9,ca⟩:=k.2.2.1 z (cH a0);obtain⟨d5,rfl,cI⟩:=(k.2.1.below A.bel).get a0;have eg:(b:Int)<(l:Int):=by omega
    have ef:(0:Int)<=(b:Int):=by omega
    have cc:g[b]?=Q (rJ a a.length j 0++⟨#[10]⟩):=by rw[<-k.out.2.2.2.2.1,ce,a0];rfl
    have ba:=ry g b _ cc;have bb:=abA g (b+1);have bE:=k.2.2.2.2.2.2.1;rw[k.out.2.2.2.2.2.1]at bE;rw[ba]at bb;simp only[ay]at bb;have a1:(gw (g.take b)).size+((rJ a a.length j 0).size+1)<=6000000000:=by
     have e:(⟨#[10]⟩:ByteArray).size=1:=rfl;omega
    have G:=k.1.s j 0 (gw (g.take b)) wr b9 ca (by have:=k.2.2.2.2.2.2.2.1;omega) A (by show _+(rJ a a.length j 0).size<=_;omega);have bx:=aq ba;simp only at G;obtain⟨d4,b0⟩:=az (rJ a a.length j 0);rw[b0]at G bx a1;rw[a5.out]at G;clear ba bb bE a0 cc b0 b9 ca;go_wp2_with fail;refine G.mono ?_;rintro e eq ⟨rfl,ct,dq⟩;have cx:=aq ct;clear ct dq cI G;go_wp2_with fail;have cq:=eL t _ _ ⟨#[10]⟩ _ _ cx (by rw[ay];show _+_+1<=_;omega);rw[a5.out]at cq;refine cq.mono ?_;rintro e es ⟨rfl,bn,ds⟩;rw[bq,<-bx.out]at bn;have cz:=aq bn;clear bn ds;go_wp2_with fail;exact⟨⟨b+1,by omega,by go_num,cz⟩,by simp[C2];omega⟩
   ·obtain rfl:b=l:=by omega
    have al:g.take b=g:=cA (by rw[k.out.2.2.2.2.2.2.2.2];exact ag _);rw[al,<-k.out.2.2.2.2.2.1]at A;have a6:V w.heap.size w wr:=a2.out.trans (A.bel.mono a2.size);obtain⟨x,am,u⟩:=A.row;have p:A5 (gL a=if 65536<(lh a).size then A2 else lh a):=by show _=_;unfold gL CA;rw[ab I.out]
    have ch:=k.2.2.2.2.2.2.1;obtain⟨D,af⟩:=az (lh a);rw[af]at u p ch;obtain⟨ad,F⟩:=az D.size;rw[F]at u p ch;obtain⟨cF,c0,rfl⟩:=bI u;have d1:wr.cell? ⟨t.heap.size,1,U⟩=Q (O cF ad c0):=by rw[au _ _ _ _ _ _ am];rfl
    rw[a5.out]at d1;by_cases b2:65536<ad
    ·have J:A5 (gL a=A2):=by show _=_;rw[p.out,ab b2]
     have C:(65536:Int)<(ad:Int):=by omega
     clear al af p u am F;go_wp2_with fail;go_ret;exact⟨by rw[J.out];rfl,a6⟩
    ·have J:A5 (gL a=D):=by show _=_;rw[p.out,aa b2]
     have C:¬(65536:Int)<(ad:Int):=by omega
     rcases bu u with⟨B,e⟩|⟨ea,d7,e⟩
     ·cases e;have c5:D=⟨#[]⟩:=by
       apply pK;have:D.data.size=0:=F;exact Array.eq_empty_of_size_eq_zero this
      have dz:(convert 39 9 (O U 0 0)).run S wr= .ok (Bs ⟨#[]⟩) wr:=by kernel_rfl
      clear al af p u am F;go_wp2_with fail;go_ret;exact⟨by rw[J.out,c5];rfl,a6⟩
     ·cases e;have dz:=Fh u;clear al af p am F;go_wp2_with fail;go_ret;exact⟨by rw[J.out];rfl,a6⟩
 ·have c4:(bt !=0)=true:=by rw[xB];exact B
  have a7:=dh H;have cB:A5 (gL a=⟨#[]⟩):=by show _=_;unfold gL;rw[aa (by rw[I.out];exact B)]
  clear B;go_wp2_with fail;go_ret;exact⟨by rw[cB.out];rfl,E.trans (((ah _ f).alloc (ag _) _).mono E.size)⟩
end Go.Proofs.YtjeamjdieofoeaaGreatDoor
namespace Go.Proofs.YtjeamjdieofoeaaGreatDoor
open Go.RowKit Go.Maps Go.WideMaps
variable{W:World}{b m q tab:Nat}{c e n:Int}{ns:List Nd}{s:Tk}
theorem Ec(w:Ax)(s:ByteArray)(c:65536<s.size)(b:s.size<=1048576):B0 S 6 #[.string s] w (PsP w 2 0 []):=by
 have d:∀w:Ax,(zeroValue 28).run S w= .ok (.agg #[.int .i64 0,.int .i64 0,.slice U 0 0]) w:=fun w=>by kernel_rfl
 have a:(65536:Int)<(s.size:Int):=by omega
 go_in;go_wp2_with fail;exact aI (eu rfl _ _ w.heap.size _ _ _ _ rfl (aA w _) Tryz.underlying28 rfl (by kernel_rfl)) rfl (show PsP _ _ _ _ _ _ from⟨_,rfl,Hl _,cK w _⟩)
theorem Hz(w:Ax)(s:ByteArray)(h:s.size<=65536){z:Int}(u:0<=z)(e:rF s=([],z)):B0 S 6 #[.string s] w (PsP w 1 z []):=by
 have t:∀w:Ax,(zeroValue 28).run S w= .ok (.agg #[.int .i64 0,.int .i64 0,.slice U 0 0]) w:=fun w=>by kernel_rfl
 have r:¬(65536:Int)<(s.size:Int):=by omega
 have a:=fun w=>yx w s h;unfold TkP at a;rw[e]at a;clear e;have b:=cK w (.cells #[.int .i64 0,.int .i64 0,.slice U 0 0] 28);have c:=aA w (.cells #[.int .i64 0,.int .i64 0,.slice U 0 0] 28);go_in;go_wp2_with fail;generalize w.alloc (.cells #[.int .i64 0,.int .i64 0,.slice U 0 0] 28)=j at b c⊢;refine(a _).mono ?_;rintro p i ⟨k,l,rfl,_,d⟩;have f:=(d.block _ (ai c)).trans c;have g:V w.heap.size w i:=b.trans (d.mono b.size);obtain⟨m,n,o,q⟩:=row3 f;clear a;go_wp2_with fail;exact aI (eu rfl _ _ w.heap.size _ _ _ _ rfl (adH f _ _ _) Tryz.underlying28 rfl (by kernel_rfl)) rfl (show PsP _ _ _ _ _ _ from⟨_,rfl,Hl _,E9 g _ _ _⟩)
theorem H8(w:Ax)(s:ByteArray)(b4:s.size<=65536){toks:List Tk}{R:Fo}{b8:Int}(a7:rF s=(toks, -1))(a2:PF s toks m R b8):B0 S 6 #[.string s] w (PsP w (okC (oH s R)) 0 (okN (oH s R))):=by
 have cr:∀w:Ax,(zeroValue 28).run S w= .ok (.agg #[.int .i64 0,.int .i64 0,.slice U 0 0]) w:=fun w=>by kernel_rfl
 have cn:¬(65536:Int)<(s.size:Int):=by omega
 have y:=fun w=>yx w s b4;unfold TkP at y;rw[a7]at y;clear a7;obtain⟨f,al⟩:=az toks.length;have a:=gI a2 al;simp only[al]at y;clear a2 al;have L:=cK w (.cells #[.int .i64 0,.int .i64 0,.slice U 0 0] 28);have am:=aA w (.cells #[.int .i64 0,.int .i64 0,.slice U 0 0] 28);go_in;go_wp2_with fail;generalize w.alloc (.cells #[.int .i64 0,.int .i64 0,.slice U 0 0] 28)=cb at L am⊢;refine(y _).mono ?_;rintro bw b ⟨o,e,rfl,bl,a4⟩;have an:=(a4.block _ (ai am)).trans am;have a6:V w.heap.size w b:=L.trans (a4.mono L.size);have bc:f=m+1:=by rw[<-a.out.2];exact a.out.1.len
 obtain⟨i,C,rfl,bb,a8⟩:∃i C,o=Q ⟨i,0,U⟩/\b.heap[i]?=Q (.cells C 67 (0,0))/\TkR C (tD toks) f:=by
  rcases bl.2 with⟨_,j⟩|⟨bA,cc,bt,b7,cm,bF,cg,ck,cl,bE⟩
  ·omega
  ·cases b7;exact⟨bA,bt,rfl,bF,agJ bE a.out.2 (fun b9 ca bd=>by rw[Dl bd];exact⟨rfl,fun _=>rfl⟩)⟩
 obtain⟨b9,hS⟩:PM ⟨b.heap.size,b.heap.size+1,i,e,f,tD toks⟩ .stats 0 R m:=ad2 (E:=⟨b.heap.size,b.heap.size+1,i,e,f,tD toks⟩) a.out.1.k78 (bc ▸ a.out.1.p);have bk:=ajA s b i e f m (tD toks) C (0,0) bb a8 (by have:=a.out.1.le;omega) (by omega) (R:=R) (abr (E:=⟨b.heap.size,b.heap.size+1,i,e,f,tD toks⟩) (.inr rfl) (by show(tD toks m).k=6;rw[a.out.1.end_]) hS) (by have:=a.out.1.sz;omega);clear hS;clear y bl bb a8 bc;go_wp2_with fail;refine bk.mono ?_;rintro bw d ⟨bn,I,rfl,ar,ak,a5⟩;have a0:fs d bn (oH s R):=by have:=ar.nds;rw[ak]at this;exact this
 have v:=(a5.block _ (ai an)).trans an;have ad:V w.heap.size w d:=a6.trans (a5.mono a6.size);obtain⟨q,z,t,rfl⟩:∃o f e,bn= .slice o f e:=by obtain⟨o,e,F⟩:=a0.form;exact⟨o,_,e,F⟩
 have b0:=a.out.1.ct;have b1:(oH s R).length<=1048576:=by
  have:=a.out.1.sz;unfold oH;rw[Fo.flat_len,bm];omega
 have ap:=fun k=>wJ (d.alloc k) (.slice q z t) (oH s R) (a0.below (cK d k)) b1 a.out.1.sm;have a3:A5 (Lw d b.heap.size (.slice q z t) I/\I.map Mb.N=oH s R):=⟨ar,ak⟩;have l:A5 (okC (oH s R)=(if(dd (oH s R)).1=0 then 0 else 2)/\okN (oH s R)=(if(dd (oH s R)).1=0 then oH s R else [])):=⟨rfl,rfl⟩;obtain⟨H,ao⟩:=az ((dd (oH s R)).1);obtain⟨B,bh⟩:=az ((dd (oH s R)).2);rw[ao]at l;simp only[ao,bh]at ap;have a9:=aA d (.cells #[.slice q z t] 26);have u:=cK d (.cells #[.slice q z t] 26);have b5:=u.size;clear bk a0 ao bh b0 ar ak;go_wp2_with fail;refine bv (ap _) fun c r=>?_;have ba:=(r.block _ (ai a9)).trans a9;have bf:=(r.block _ (ai ((u.block _ (ai v)).trans v))).trans ((u.block _ (ai v)).trans v);have G:V w.heap.size w c:=(ad.trans (u.mono ad.size)).trans (r.mono (bL ad.size b5));have ch:=ai ba;clear ap;have A:∀(h:Nat)(J:Array A0)(a1:B3)(K:Nat×Nat)(k:Obj),c.heap[h]?=Q (.cells J a1 K)->(c.alloc k).heap[h]?=Q (.cells J a1 K):=fun h J a1 K k F=>((cK c k).block _ (ai F)).trans F;have cq:w.heap.size≠d.heap.size:=by have:=ai v;omega
 by_cases j:H=0
 ·subst j;have x:=A _ _ _ _ (.cells #[.int .i64 0,.int .i64 B] 36) bf;obtain⟨bo,br,bs,bx⟩:=row3 x;have cw:(c.alloc (.cells #[.int .i64 0,.int .i64 B] 36)).cell? ⟨d.heap.size,0,U⟩=Q (.slice q z t):=by rw[au _ _ _ _ _ _ (A _ _ _ _ _ ba)];rfl
  have g:=l.out;rw[ab rfl,ab rfl]at g;have n:=aq g;have af:V w.heap.size w (c.alloc (.cells #[.int .i64 0,.int .i64 B] 36)):=G.trans ((cK c _).mono G.size);clear g l A;go_wp2_with fail;exact aI (eu rfl _ _ w.heap.size _ _ _ _ rfl (adH x _ _ _) Tryz.underlying28 rfl (by kernel_rfl)) rfl (show PsP w (okC (oH s R)) 0 (okN (oH s R)) _ _ from by rw[n.out.1,n.out.2];exact⟨_,rfl,⟨I,_,a3.out.2,a3.out.1.mono fun h cf bD=>(ako (by have:=ai an;omega) _ _ _).trans (((cK c _).block h (by have:=r.size;omega)).trans ((r.block h (by omega)).trans (u.block h bD)))⟩,E9 af _ _ _⟩)
 ·have x:=A _ _ _ _ (.cells #[.int .i64 H,.int .i64 B] 36) bf;obtain⟨bo,br,bs,bx⟩:=row3 x;have g:=l.out;rw[aa j,aa j]at g;have n:=aq g;have bd:(H==0)=false:=by simpa using j
  have af:V w.heap.size w (c.alloc (.cells #[.int .i64 H,.int .i64 B] 36)):=G.trans ((cK c _).mono G.size);clear g l j A;go_wp2_with fail;exact aI (eu rfl _ _ w.heap.size _ _ _ _ rfl (adH x _ _ _) Tryz.underlying28 rfl (by kernel_rfl)) rfl (show PsP w (okC (oH s R)) 0 (okN (oH s R)) _ _ from by rw[n.out.1,n.out.2];exact⟨_,rfl,Hl _,E9 af _ _ _⟩)
theorem Ed(w:Ax)(s:ByteArray)(h:s.size<=1048576){a:Int}(g:Out s c a ns):B0 S 6 #[Bs s] w (PsP w c a ns):=by
 cases g with
 |big b=>exact Ec w s b h
 |at_ b f d=>exact Hz w s b f d
 |ok b d e=>exact H8 w s b d e
def TkI(T:Tk):Prop:=(0<=T.k/\T.k<=78)/\xj T.f/\xj T.t/\xj T.l/\xj T.n
def NiB(N:Nd):Prop:=xj N.k/\xj N.f/\xj N.t/\xj N.l/\xj N.op/\xj N.n
def aof:xi->Prop
 | .more _ s x=>TkI s/\x.all NiB
 | .post s B=>TkI s/\B.all NiB
 | .body s=>TkI s
 |_=>True
theorem nib{k b m:Int}{x:ByteArray}{nm:List ByteArray}(a:TkI s)(d:xj k)(c:xj e)(g:xj b)(f:xj m):NiB (nd k s e b m x nm):=⟨d,a.2.1,c,a.2.2.2.1,g,f⟩
theorem aj2{k:Int}(c:TkI s)(b:xj e)(d:0<=k)(f:k<=78):NiB (wv k s e):=by
 have a:xj 0:=nG _ (by decide) (by decide);unfold wv ig;split
 ·exact nib c (nG _ (by decide) (by decide)) b a a
 split
 ·exact nib c (nG _ (by decide) (by decide)) b a a
 ·exact nib c (nG _ (by decide) (by decide)) b ⟨by omega,by omega⟩ a
theorem amG(k:Int):xj (acF k):=by
 unfold acF;split
 ·exact nG _ (by decide) (by decide)
 split
 ·exact nG _ (by decide) (by decide)
 split<;>exact nG _ (by decide) (by decide)
theorem ahw{N:Nd}{ks:Fo}(d:TkI s)(c:xj e)(h:NiB N)(a:ks.all NiB):(mc N ks s e).all NiB:=by
 have b:xj 0:=nG _ (by decide) (by decide);unfold mc;split
 ·rw[fl,fl];exact⟨nib d (nG _ (by decide) (by decide)) c b b,h,a⟩
 ·rw[fl];exact⟨h,a⟩
theorem P.ni{tk:Nat->Tk}{n:Nat}(g:n<=100000)(a:∀q,TkI (tk q)){t:xi}{i j:Nat}{R:Fo}(h:P tk n t i R j):aof t->R.all NiB:=by
 have c:∀q,xj (tk q).t:=fun q=>(a q).2.2.1;have f:∀q,xj (tk q).n:=fun q=>(a q).2.2.2.2
 induction h
 case mgo s x y R k k1 j h1 h2 h3 h4 h5 i1 i2=>intro b;exact i2 ⟨b.1,(fl _ _ _).2 ⟨aj2 b.1 (c _) (a k).1.1 (a k).1.2,(oz _ _ _).2 ⟨b.2,i1 trivial⟩⟩⟩
 case bopen h1 h2 h3 h4 h5 h6 i1 i2=>intro _;have:=i1 trivial;rw[fl]at this;exact i2 ⟨a _,ahw (a _) (c _) this.1 this.2⟩
 case body nm r B h1 h2 h3 h4 ih=>
  intro b;rw[fl];exact⟨nib b (nG _ (by decide) (by decide)) (c _) (by split<;>exact nG _ (by decide) (by decide)) (nG _ (by decide) (by decide)),ih trivial⟩
 case tset x R E h1 h2 h3 h4 h5 h6 h7 i1 i2 i3=>
  intro _;have e:=h3.pos;have p2:=h4.pos;have d:=(x.app R).len_le;rw[Fo.sz_app]at d;simp only[fi,slk,bas]at e p2;rw[fl,oz,oz];exact⟨nib (a _) (nG _ (by decide) (by decide)) (c _) (nG _ (by decide) (by decide)) (nG _ (by omega) (by omega)),⟨i1 trivial,i2 trivial⟩,i3 trivial⟩
 all_goals
  intro b
  simp_all [fl,oz,aof,Fo.all,nib,amG,ig,nG]
theorem act(s:ByteArray)(n:s.size<=65536):∀(f:Nat)(st:List Int)(p:Nat)(l:Int)(c:List Tk),p<=s.size->0<=l->l+f<=1000000->(∀T∈c,TkI T)->∀T∈(wH s f st p l c).1,TkI T
 |0,st,p,l,c,m,b,t,h=>fun T hT=>by cases hT
 |f+1,st,p,l,c,m,b,t,h=>by
  have j:∀(i:Tk),TkI i->∀T∈c++[i],TkI T:=fun i b T hT=>by
   rcases List.mem_append.1 hT with hT|hT
   ·exact h T hT
   ·rw[List.mem_singleton.1 hT];exact b
  have o:∀(e:Int)(p d:Nat)(q:Int)(r:ByteArray),p<=s.size->0<=e->e<=78->d<=s.size->xj q->TkI ⟨e,(p:Nat),(d:Nat),l,q,r⟩:=fun e p d q r x z A B v=>⟨⟨z,A⟩,nG (p:Int) (by omega) (by omega),nG (d:Int) (by omega) (by omega),nG l b (by omega),v⟩;have k:∀g,g<=s.size->blk s (s.size+1) g<=s.size:=fun g y=>(qD s (s.size+1) g y).2;rw[wH];split
  ·exact j _ (o _ _ _ _ _ (ag _) (by decide) (by decide) (ag _) (nG _ (by decide) (by decide)))
  ·rename_i x;split
   ·rename_i u;have a:=mL s p (by omega) (af3 s p u).1;split
    ·exact act s n f _ _ _ _ (k _ a.2.1) (by omega) (by omega) (j _ (o _ _ _ _ _ m (by decide) (by decide) a.2.1 (akp s p)))
    ·exact act s n f _ _ _ _ (k _ a.2.1) (by omega) (by omega) h
   ·split
    ·split
     ·rename_i w;have a:=mL s p (by omega) w;exact act s n f _ _ _ _ (k _ a.2.1) b (by omega) (j _ (o _ _ _ _ _ m (L8 s p).1 (L8 s p).2 a.2.1 (akp s p)))
     ·exact fun T hT=>by cases hT
    ·exact fun T hT=>by cases hT
theorem acu:∀(R:Fo)(b:Nat),∀z∈R.tops b,0<=z/\z<=((b+R.sz:Nat):Int)
 | .nil,b=>fun z hz=>by cases hz
 | .cons N k r,b=>fun z hz=>by
  rw[Fo.sz];rcases List.mem_cons.1 hz with rfl|hz
  ·exact⟨by omega,by omega⟩
  ·have:=acu r _ z hz;exact⟨by omega,by omega⟩
theorem H9:∀(R:Fo)(b:Nat),∀N∈R.flat b,∀z∈N.ks,0<=z/\z<=((b+R.sz:Nat):Int)
 | .nil,b=>fun N hN=>by cases hN
 | .cons c k r,b=>fun N hN z a=>by
  rw[Fo.flat,Ba,jb]at hN;rw[Fo.sz];rcases hN with hN|rfl|hN
  ·have:=H9 k b N hN z a;exact⟨by omega,by omega⟩
  ·have:=acu k b z a;exact⟨by omega,by omega⟩
  ·have:=H9 r _ N hN z a;exact⟨by omega,by omega⟩
theorem Ko:∀(l:List ByteArray),(∀s∈l,s.size<=1048576)->acE l<=1048576*l.length
 |[],_=>aL _
 |s::l,h=>by
  have c:=Ko l fun b a=>h b (dI _ a);have d:=h s cE;show s.size+acE l<=1048576*(l.length+1);omega
theorem Kr:∀(l:List Nd)(K:Nat),(∀N∈l,io N)->acH l+1048577*K<=1048577*Kv K l
 |[],K,_=>by simp[acH,Kv]
 |N::l,K,h=>by
  have b:=Kr l (nxt K N) fun d c=>h d (dI _ c);have a:=h N cE;have e:=Ko N.nm a.ls;have f:=a.lx;show Ek N+acH l+1048577*K<=1048577*Kv (nxt K N) l;unfold nxt at b⊢;unfold Ek aew;omega
structure aog (s:ByteArray) (c a:Int) (ns:List Nd):Prop where
 len:ns.length<=1048576
 sm:∀N∈ns,io N
 int:∀N∈ns,BI N
 dz:(abc ns).size<=70368744177664
 cs:c=0\/c=1\/c=2
theorem Dx(s:ByteArray)(c a:Int)(h:c=0\/c=1\/c=2):aog s c a []:=⟨aL _,fun d b=>(by cases b),fun d b=>(by cases b),(by decide),h⟩
theorem Out.nn{s:ByteArray}{a:Int}(h:Out s c a ns):aog s c a ns:=by
 cases h with
 |big _=>exact Dx _ _ _ (.inr (.inr rfl))
 |at_ _ _ _=>exact Dx _ _ _ (.inr (.inl rfl))
 |@ok m af d ad F f b=>
  by_cases j:(dd (oH s d)).1=0
  ·have k:okC (oH s d)=0:=by unfold okC;rw[ab j]
   have e:okN (oH s d)=oH s d:=by unfold okN;rw[ab j]
   rw[k,e];have K:(oH s d).length<=200001:=by
    have:=b.sz;unfold oH;rw[Fo.flat_len,bm];omega
   have G:m=(jz s).1:=by
    unfold rF at f;split at f
    ·simp at f<;>omega
    split at f
    ·simp at f;exact f.symm
    ·simp at f<;>omega
   have B:∀l,TkI (tD m l):=fun l=>by
    unfold tD;rw[be];cases hq:m[l]? with
    |none=>
     have i:xj (0:Int):=nG _ (by decide) (by decide);exact⟨⟨(by decide:(0:Int)<=0),(by decide:(0:Int)<=78)⟩,i,i,i,i⟩
    |some n=>
     have r:=cH hq;rw[G]at r;exact act s F _ _ _ _ _ (qD s (s.size+1) 0 (aL _)).2 (by decide) (by omega) (fun n f=>by cases f) n r
   have E:=b.p.ni (by have:=b.le;omega) B trivial;have q:∀g∈oH s d,BI g:=fun g e=>by
    have i:xj 0:=nG _ (by decide) (by decide);have C:=H9 _ _ g e;obtain⟨t,_⟩:=Bp NiB (fun g L h=>h) _ 0 ((fl _ _ d).2 ⟨⟨nG (1:Int) (by decide) (by decide),i,nG (s.size:Int) (by omega) (by omega),nG (1:Int) (by decide) (by decide),i,i⟩,E⟩) g e;obtain⟨u,v,w,x,y,z⟩:=t;refine⟨u,v,w,x,y,z,fun I H=>?_⟩;have o:=C I H;have A:=b.sz;rw[bm]at o;exact⟨by omega,by omega⟩
   refine⟨by omega,b.sm,q,?_,.inl rfl⟩;have o:=Lb _ q fun g e=>⟨(b.sm g e).l1,(b.sm g e).l2⟩;have A:=Kr _ 1 b.sm;have J:=b.ct;omega
  ·have e:okN (oH s d)=[]:=by unfold okN;rw[aa j]
   have k:okC (oH s d)=2:=by unfold okC;rw[aa j]
   rw[k,e];exact Dx _ _ _ (.inr (.inr rfl))
