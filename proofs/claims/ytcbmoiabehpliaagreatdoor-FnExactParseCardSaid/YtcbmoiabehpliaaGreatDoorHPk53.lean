import Derived.Test.YtcbmoiabehpliaaGreatDoorHPk01
import Derived.Test.YtcbmoiabehpliaaGreatDoorHPk52
import Derived.Test.YtcbmoiabehpliaaGreatDoorHPk49
import Derived.Test.YtcbmoiabehpliaaGreatDoorHPk51
import Derived.Test.YtcbmoiabehpliaaGreatDoorHPk02
import Derived.Test.YtcbmoiabehpliaaGreatDoorHPk46
import Derived.Test.YtcbmoiabehpliaaGreatDoorHPk43
import Derived.Test.YtcbmoiabehpliaaGreatDoorHPk26
set_option linter.unusedSimpArgs false
set_option linter.unusedVariables false
set_option maxRecDepth 100000
set_option maxHeartbeats 12800000
namespace Go.Proofs.YtcbmoiabehpliaaGreatDoor
open Go.RowKit Go.Maps Go.WideMaps
theorem de{fn:Func}{p q:Tmp}{u:TypeId}(h:fn.results=#[.tmp p,.cell q u])(tmps:Array Value)(P:Program)(w:World)(a:Addr)(v b:Value)(i:tmps.getD p undef=v)(d:tmps.getD q undef= .pointer (some a))
  (f:(loadVar u a).run P w= .ok b w):(results fn tmps).run P w= .ok (.tuple #[v,b]) w:=by
 have e:tmps[p]?.getD undef=v:=by simpa using i
 have g:tmps[q]?.getD undef= .pointer (some a):=by simpa using d
 simp only[results,h];simp[Result.andThen,e,g,asAddr,f]
theorem fJ(w:World)(b:Nat)(c n:Int)(h:cX b w c n):(loadVar 36 ⟨b,0,none⟩).run Tryz.prog w= .ok (.agg #[.int .i64 c,.int .i64 n]) w:=
 run_loadVar_row w b 36 36 _ _ _ h Tryz.underlying36 rfl (by kernel_rfl)
def pn(w:World)(ns:List Nd)(e:Ending)(f:World):Prop:=
 Below w.heap.size w f/\
 (((bv ns).1≠0/\e= .returned (.tuple #[.nilIface,.agg #[.int .i64 (bv ns).1,.int .i64 (bv ns).2]]))\/
  (bv ns=(0,0)/\∃h g d b,e= .returned (.tuple #[nV b,.agg #[.int .i64 0,.int .i64 0]])/\d[ns.length-1]?=some b/\d.map Im.N=ns/\dS f h g d/\∀b∈d,aH w b.vn b.N.nm))
theorem ve(w:World)(v:Value)(ns:List Nd)(h:bf w v ns)(y:ns.length<=1048576)(q:gN ns=true):
  Calls Tryz.prog 37 #[.agg #[v]] w fun e F=>e= .returned (.tuple #[.nilIface,.agg #[.int .i64 1,.int .i64 0]])/\Below w.heap.size w F:=by
 obtain⟨a,c,rfl⟩:=h.form;have j:∀d f,Below w.heap.size w ((w.alloc d).alloc f):=fun d f=>((Below.refl _ w).alloc (Nat.le_refl _) d).alloc (by simp) f;have u:∀d (l:Array Value) (n:TypeId),((w.alloc d).alloc (.cells l n)).heap[w.heap.size+1]?=some (.cells l n (0,0)):=fun d l n=>by
  have:=heap_alloc_new (w.alloc d) (.cells l n);rw[World.size_alloc]at this;exact this
 have p:=of_decide_eq_true q;by_cases i:ns.length=0
 ·rw[i];go_in;go_wp2;exact bodyPost_ret (de rfl _ _ _ ⟨w.heap.size+1,0,none⟩ _ _ rfl rfl (fJ _ _ 1 0 (u _ _ _))) rfl ⟨rfl,j _ _⟩
 by_cases g:3000<ns.length
 ·obtain⟨b,m⟩:∃b:Nat,ns.length=b+1:=⟨ns.length-1,by omega⟩;rw[m]at g y⊢;have H:decide ((b:Int)<0)=false:=decide_eq_false (by omega);have G:(3000:Int)<=(b:Int):=by omega
  have C:(0:Int)<=(b:Int):=by omega
  clear h q p i g m;go_in;go_wp2;exact bodyPost_ret (de rfl _ _ _ ⟨w.heap.size+1,0,none⟩ _ _ rfl rfl (fJ _ _ 1 0 (u _ _ _))) rfl ⟨rfl,j _ _⟩
 ·have E:(ns.getD (ns.length-1) za).k≠1:=by rcases p with e|e|e;exact absurd e i;exact absurd e g;exact e
  have r:ns.length-1<ns.length:=by omega
  obtain⟨o,t⟩:∃o,ns[ns.length-1]?=some o:=⟨_,List.getElem?_eq_getElem r⟩;rw[List.getD_eq_getElem?_getD,t,Option.getD_some]at E;obtain⟨B,rfl,L,M,z⟩:=h.get t;have s:=z.c0;obtain⟨A,x⟩:=ah ns.length;rw[x]at s i g y r⊢;obtain⟨b,m⟩:∃b:Nat,A=b+1:=⟨A-1,by omega⟩;subst m;rw[Nat.add_sub_cancel]at s;have I:((b+1:Nat):Int)-1=(b:Int):=by omega
  have C:(0:Int)<=(b:Int):=by omega
  have H:decide ((b:Int)<0)=false:=decide_eq_false (by omega);have G:decide ((3000:Int)<=(b:Int))=false:=decide_eq_false (by omega);have J:(b:Int)<(b:Int)+1:=by omega
  have K:∀d f,((w.alloc d).alloc f).cell? (B.add (b*9))=some (.int .i64 o.k):=fun d f=>aa (j d f) s;clear h q p i g t z x r;go_in;go_wp2;exact bodyPost_ret (de rfl _ _ _ ⟨w.heap.size+1,0,none⟩ _ _ rfl rfl (fJ _ _ 1 0 (u _ _ _))) rfl ⟨rfl,j _ _⟩
structure vh (w0:World) (lb mb:Nat) (vs:Value) (L:List Im) (W:World):Prop where
 bl:Below w0.heap.size w0 W
 lk:Lk W lb mb vs
 ns:dS W w0.heap.size vs L
theorem vh.below{g:World}{lb mb:Nat}{d:Value}{f:List Im}{W e:World}(h:vh g lb mb d f W)(b:Below W.heap.size W e):vh g lb mb d f e:=
 ⟨h.bl.trans (b.mono h.bl.size),h.lk.below b,h.ns.below b⟩
theorem cX.keep{b B:Nat}{W d:World}{c n:Int}(h:cX b W c n)(e:Below B W d)(f:b<B):cX b d c n:=(e.block _ f).trans h
theorem It(c:Nat):iU c≠36:=by
 unfold iU;split<;>decide
theorem dS.setFt{W:World}{base:Nat}{g:Value}{i:List Im}(h:dS W base g i){b:Nat}{c n:Int}(l:cX b W c n)(k:b<base)(j:Nat)(v:Value):dS (W.setCell ⟨b,j,none⟩ v) base g i:=
 ⟨ownsRow_setCell_below h.row k _,fun e d f=>(heap_setCell_other W ⟨b,j,none⟩ d.b v (fS (h.box e d f) (show W.heap[b]?=some (.cells #[.int .i64 c,.int .i64 n] 36 (0,0)) from l) (It _))).trans (h.box e d f),fun e d f=>ownsRow_setCell_below (h.kid e d f) k _,h.far,h.rng⟩
theorem dS.putFt{W:World}{base:Nat}{e:Value}{f:List Im}(h:dS W base e f){b:Nat}{c n:Int}(i:cX b W c n)(g:b<base)(d n2:Int):dS ((W.setCell ⟨b,0,none⟩ (.int .i64 d)).setCell ⟨b,1,none⟩ (.int .i64 n2)) base e f:=
 (h.setFt i g 0 _).setFt (c:=d) (n:=n) (heap_setCell_same _ b 0 _ _ _ i) g 1 _
structure Kz (w:World) (v:Value) (w0:World):Prop where
 tb:w0.heap[w.heap.size]?=some (.cells #[v] 24 (0,0))
 fb:cX (w.heap.size+1) w0 0 0
 bl:Below w.heap.size w w0
 sz:w0.heap.size=w.heap.size+1+1
theorem vq(w:World)(v:Value)(ns:List Nd)(h:bf w v ns)(f4:ns.length<=1048576)(ep:∀N∈ns,dP N)(cT:eF w)(b4:TypeId)(fr:Nat×Nat)(et:w.heap[0]?=some (.cells bj b4 fr))
  (fg:∀W,Below w.heap.size w W->Lib.TabIs Tryz.prog W "strings.asciiSpace" .u8 Lib.asciiSpaceTab) (b1:gN ns=false):
  Calls Tryz.prog 37 #[.agg #[v]] w (pn w ns):=by
 obtain⟨a,c,rfl⟩:=h.form;have a7:=of_decide_eq_false b1;have av:=cS h ep b1;have bs:=cS cT et fg;have ds:¬ns.length=0:=fun i=>a7 (.inl i);have cs:¬3000<ns.length:=fun i=>a7 (.inr (.inl i));have bD:(ns.getD (ns.length-1) za).k=1:=by
  by_cases C:(ns.getD (ns.length-1) za).k=1
  ·exact C
  ·exact absurd (.inr (.inr C)) a7
 obtain⟨N,F⟩:∃N,ns[ns.length-1]?=some N:=⟨_,List.getElem?_eq_getElem (by omega)⟩;rw[List.getD_eq_getElem?_getD,F,Option.getD_some]at bD;obtain⟨E,rfl,hA,hC,eN⟩:=h.get F;have ar:=eN.c0;rw[bD]at ar;have cw:∀T U,Below w.heap.size w ((w.alloc T).alloc U):=fun T U=>((Below.refl _ w).alloc (Nat.le_refl _) T).alloc (by simp) U;obtain⟨a5,bN⟩:=ah ns.length;have L:Hid (ns.length=a5):=bN;rw[bN]at av ar ds cs⊢;obtain⟨d,gr⟩:∃d:Nat,a5=d+1:=⟨a5-1,by omega⟩;have df:a5-1=d:=by omega
 rw[df]at ar;have g8:d<3000:=by omega
 have hq:((d+1:Nat):Int)-1=(d:Int):=by omega
 have hs:(0:Int)<=(d:Int):=by omega
 have hp:decide ((d:Int)<0)=false:=decide_eq_false (by omega);have hw:decide ((3000:Int)<=(d:Int))=false:=decide_eq_false (by omega);have hg:(d:Int)<(d:Int)+1:=by omega
 have fu:∀T U,((w.alloc T).alloc U).cell? (E.add (d*9))=some (.int .i64 1):=fun T U=>aa (cw T U) ar;clear h b1 a7 ds cs bD F eN bN f4 ep cT et fg df ar;subst gr;go_in;go_wp2_with fail;have en:((w.alloc (.cells #[.slice (some E) (d+1) c] 24)).alloc (.cells #[.int .i64 0,.int .i64 0] 36)).heap[w.heap.size]?=some (.cells #[.slice (some E) (d+1) c] 24 (0,0)):=(Below.heap_alloc _ _ _ (by simp)).trans (heap_alloc_new w _);have c4:cX (w.heap.size+1) ((w.alloc (.cells #[.slice (some E) (d+1) c] 24)).alloc (.cells #[.int .i64 0,.int .i64 0] 36)) 0 0:=by
  have:=heap_alloc_new (w.alloc (.cells #[.slice (some E) (d+1) c] 24)) (.cells #[.int .i64 0,.int .i64 0] 36);rw[World.size_alloc]at this;exact this
 have n:Hid (Kz w (.slice (some E) (d+1) c) ((w.alloc (.cells #[.slice (some E) (d+1) c] 24)).alloc (.cells #[.int .i64 0,.int .i64 0] 36))):=⟨en,c4,cw _ _,by simp⟩;generalize (w.alloc (.cells #[.slice (some E) (d+1) c] 24)).alloc (.cells #[.int .i64 0,.int .i64 0] 36)=o at n⊢;clear en c4 fu;have bn:=lt_of_block bs.out.2.1;have a9:Hid (eF o/\o.heap[0]?=some (.cells bj b4 fr)/\(∀W,Below o.heap.size o W->Lib.TabIs Tryz.prog W "strings.asciiSpace" .u8 Lib.asciiSpaceTab)):=
  ⟨bs.out.1.below n.out.bl (Nat.le_refl _),(n.out.bl.block _ bn).trans bs.out.2.1,fun W fq=>bs.out.2.2 W (n.out.bl.trans (fq.mono n.out.bl.size))⟩
 refine(fK (H:=Unit) o fr b4 a9.out.2.1).mono ?_;rintro i r ⟨rfl,b9,bx⟩;obtain⟨B,bE⟩:=ah o.heap.size;have gv:=n.out.sz;have gp:r.cell? ⟨w.heap.size,0,none⟩=some (.slice (some E) (d+1) c):=aN ((bx.block _ (by omega)).trans n.out.tb);have gt:=bx.size;have f8:w.heap.size<r.heap.size:=by omega
 have fv:w.heap.size≠r.heap.size:=by omega
 rw[bE]at b9⊢;have af:=cS b9 bx bE;clear b9 bx bE bn gv gt;go_wp2_with fail;have ev:=heap_alloc_new r (.cells #[.map (some B),.slice none 0 0] 155);have cb:Below r.heap.size r (r.alloc (.cells #[.map (some B),.slice none 0 0] 155)):=(Below.refl _ r).alloc (Nat.le_refl _) _;have a8:vh o r.heap.size B (.slice none 0 0) [] (r.alloc (.cells #[.map (some B),.slice none 0 0] 155)):=by
  have ed:=af.out.2.1.trans (cb.mono af.out.2.1.size);have gm:B<r.heap.size:=by
   obtain⟨ha,g5,gn,_⟩:=af.out.1;exact lt_of_block gn
  exact⟨ed,⟨ev,gJ af.out.1 (cb.block _ gm),a9.out.1.below ed (Nat.le_refl _)⟩,⟨World.ownsRow_nil _ _ _ _,fun l e j=>by simp at j,fun l e j=>by simp at j,fun e j=>by simp at j,fun l e c5 j=>by simp at j⟩⟩
 have ca:o.heap.size<=r.heap.size:=af.out.2.1.size;generalize r.alloc (.cells #[.map (some B),.slice none 0 0] 155)=f7 at a8⊢;obtain⟨S,c8⟩:=ah r.heap.size;rw[c8]at a8 ca⊢;have gd:Hid (o.heap.size<=S):=ca;obtain⟨a3,ch⟩:=ah (cO (bW ns) (d+1) 0);have b5:Hid (cO (bW ns) (d+1) 0=a3):=ch;have dq:jL (bW ns) (d+1-0) 0 a3:=⟨ch⟩;have eg:Hid (vh o S B (.slice none 0 0) [] f7):=a8;clear ch gp f8 fv af ev cb a8 c8 ca;go_loopw [37] (fun b0 wr=>∃(g:Nat) (k:List Im) (a4:Value),g<=d+1/\b0= .int .i64 g/\jL (bW ns) (d+1-g) g a3/\Hid (vh o S B a4 k wr/\k.length=g/\k.map Im.N=ns.take g/\∀e∈k,aH w e.vn e.N.nm)) (fun b0 _=>d+1-(intOf b0).toNat)
 case atStart=>exact⟨0,[],_,Nat.zero_le _,rfl,dq,eg.out,rfl,rfl,fun e j=>by simp at j⟩
 case round=>
  obtain⟨g,k,a4,ho,rfl,cc,f⟩:=hrel;clear eg dq;have s:=cc.out;by_cases bn:g<d+1
  ·obtain⟨q,X⟩:=aF L.out bn;have g6:(g:Int)<(d:Int)+1:=by omega
   have g9:(0:Int)<=(g:Int):=by omega
   obtain⟨hv,fF,hj,ht,fz⟩:=av.out.1.get X;obtain rfl:=Option.some.inj fF;have A:Below w.heap.size w wr:=n.out.bl.trans (f.out.1.bl.mono n.out.bl.size);obtain⟨cz,c1,ct,c9,eq,e9,c2,fd,cN,a6,cm⟩:=fz;obtain⟨ex,ek,rfl⟩:=a6.form;obtain⟨hD,g7,rfl⟩:=cm.form;have fm:=aa A cz;have dk:=aa A c1;have ec:=aa A ct;have ei:=aa A c9;have el:=aa A eq;have fk:=aa A e9;have ey:=aa A c2;have b3:=aa A fd;have cr:=aa A cN;have ao:∀G,Below wr.heap.size wr (wr.alloc G):=fun G=>(Below.refl _ wr).alloc (Nat.le_refl _) G;have V:=fun G=>Dd o (wr.alloc G) a9.out.1 (f.out.1.bl.trans ((ao G).mono f.out.1.bl.size)) S B gd.out a4 k (f.out.1.lk.below (ao G)) (f.out.1.ns.below (ao G)) q _ _ (a6.below n.out.bl) (cm.below n.out.bl) (av.out.2.1 q (List.mem_of_getElem? X)) (by rw[f.out.2.1];omega) ns (by rw[f.out.2.1];exact f.out.2.2.1) (by rw[f.out.2.1];exact X) a9.out.2.2;rw[show d+1-g=(d+1-(g+1))+1 by omega,cO]at s;have ef:bW ns g=!(eZ ns g q):=by unfold bW;rw[List.getD_eq_getElem?_getD,X];rfl
   have dn:qc ns k.length q=eZ ns g q:=by rw[FA,f.out.2.1]
   rw[ef]at s;unfold bu at V;have ap:Hid (qc ns k.length q=eZ ns g q):=dn;have gf:Hid (ns[g]?=some q):=X;obtain⟨gs,cl⟩:=ah q.nm.length;obtain⟨hc,fa⟩:=ah q.ks.length;have cq:Hid (aH w (.slice ex q.nm.length ek) q.nm):=a6;rw[cl]at V b3;replace cq:Hid (aH w (.slice ex gs ek) q.nm):=by rw[<-cl];exact cq
   rw[fa]at V cr;clear cz c1 ct c9 eq e9 c2 fd cN a6 cm X dn ef cl fa cc;cases j:eZ ns g q with
   |true=>
    rw[j]at s ap;rw[if_neg (by decide)]at s;have fo:jL (bW ns) (d+1-(g+1)) (g+1) a3:=⟨s⟩;clear s j;go_wp2_with fail;refine(V _).mono ?_;rintro i t ⟨rfl,m,br⟩;rw[ap.out];obtain⟨g0,e,c6,a0,fc,d9⟩:=br ap.out;have fn:Hid (vh o S B g0 (k++[e]) t/\(k++[e]).length=g+1/\(k++[e]).map Im.N=ns.take (g+1)/\∀bt∈k++[e],aH w bt.vn bt.N.nm):=
     ⟨⟨m,fc,d9⟩,by rw[List.length_append,f.out.2.1];rfl,by rw[List.map_append,f.out.2.2.1,List.take_add_one,gf.out];simp[c6],fun bt hy=>by
      rcases List.mem_append.1 hy with hy|hy
      ·exact f.out.2.2.2 bt hy
      ·obtain rfl:=List.mem_singleton.1 hy;rw[c6,a0];exact cq.out⟩
    clear V br m fc d9 f fm dk ec ei el fk ey b3 cr A ao;go_wp2_with fail;exact⟨⟨g+1,_,_,by omega,by go_num,fo,fn⟩,by simp[intOf];omega⟩
   |false=>
    rw[j]at s ap;rw[if_pos (by decide)]at s;have y:Hid (bv ns=(2,(g:Int))):=by
     show bv ns=(2,(g:Int));unfold bv;rw[av.out.2.2,if_neg (by decide),L.out,b5.out,<-s];rfl
    clear s j;go_wp2_with fail;refine(V _).mono ?_;rintro i t ⟨rfl,m,br⟩;rw[ap.out];have z:=n.out.fb.keep m (by rw[n.out.sz];omega);obtain⟨Q,bd,bk⟩:=cR z;have I:Hid (cX (w.heap.size+1) t 0 0/\Below w.heap.size w t):=⟨z,n.out.bl.trans (m.mono n.out.bl.size)⟩;clear V br m z f fm dk ec ei el fk ey b3 cr A ao;go_wp2_with fail;exact bodyPost_ret (de rfl _ _ _ ⟨w.heap.size+1,0,none⟩ _ _ rfl rfl (fJ _ _ 2 g (fj I.out.1 2 g))) rfl ⟨(I.out.2.setCell (by simp) _).setCell (by simp) _,.inl ⟨(by rw[y.out];intro i;simp at i),(by rw[y.out];rfl)⟩⟩
  ·obtain rfl:g=d+1:=by omega
   rw[Nat.sub_self,cO]at s;have f2:Hid (a3=none):=s.symm;have eh:=pf (show cO (bW ns) (d+1) 0=none by rw[b5.out];exact s.symm);have al:k.map Im.N=ns:=by rw[f.out.2.2.1];exact List.take_of_length_le (by rw[L.out];exact Nat.le_refl _)
   have cP:∀(l:Nat) e,k[l]?=some e->ns[l]?=some e.N:=fun l e j=>by rw[<-al,List.getElem?_map,j];rfl
   have b8:∀e∈k,e.N.ks.length<=200:=fun e j=>by
    obtain⟨l,bh,i⟩:=List.getElem_of_mem j;have F:ns[l]?=some e.N:=cP l e (by rw[List.getElem?_eq_getElem bh,i]);have bh:l<d+1:=by rw[<-L.out];exact(List.getElem?_eq_some_iff.1 F).1
    have b2:=eh l (Nat.zero_le _) (by omega);unfold bW at b2;rw[List.getD_eq_getElem?_getD,F,Option.getD_some]at b2;have b7:eZ ns l e.N=true:=by simpa using b2
    unfold eZ rY at b7;rw[Bool.and_eq_true]at b7;exact(of_decide_eq_true b7.1).2.2.2
   have c7:sj (dR ns):=sn ns (fun N F c5 M=>by
    rw[<-al]at F;obtain⟨e,j,rfl⟩:=List.mem_map.1 F;obtain⟨l,bh,i⟩:=List.getElem_of_mem j;exact(f.out.1.ns.rng l e c5 (by rw[List.getElem?_eq_getElem bh,i]) M).1)
   obtain⟨C,bb,rfl⟩:∃C c,a4= .slice (some ⟨C,0,none⟩) (d+1) c:=by
    rcases ay f.out.1.ns.row with⟨h,_⟩|h
    ·rw[f.out.2.1]at h;omega
    ·rw[f.out.2.1]at h;exact h
   have bw:wr.cell? ⟨S,1,none⟩=some (.slice (some ⟨C,0,none⟩) (d+1) bb):=by rw[cell_of_row _ _ _ _ _ _ f.out.1.lk.b];rfl
   have x:=pm wr o.heap.size _ k f.out.1.ns ns al (d+1) f.out.2.1 (by omega) (by omega) b8;have cB:Hid (∀W,Below wr.heap.size wr W->Calls Tryz.prog 73 #[.slice (some ⟨C,0,none⟩) (d+1) bb] W fun i fB=>i= .returned (yO (cO (cA (sw ns)) (d+1) 0))/\Below W.heap.size W fB):=
    fun W gu=>qe W o.heap.size _ k (f.out.1.ns.below gu) ns al (d+1) f.out.2.1 (by omega) (by omega) b8
   obtain⟨cF,cg⟩:=ah (cO (cp (dR ns)) (d+1) 0);have u:bv ns=tf3 (dR ns) (sw ns) (d+1) cF:=by
    unfold bv;rw[av.out.2.2,if_neg (by decide),L.out,b5.out,f2.out];show tf3 (dR ns) (sw ns) (d+1) (cO (cp (dR ns)) (d+1) 0)=_;rw[cg]
   rw[cg]at x;have g4:=n.out.sz;have Q:=n.out.fb.keep f.out.1.bl (by rw[n.out.sz];omega);have p:Hid (vh o S B (.slice (some ⟨C,0,none⟩) (d+1) bb) k wr/\cX (w.heap.size+1) wr 0 0/\k.map Im.N=ns/\k.length=d+1/\Below w.heap.size w wr):=⟨f.out.1,Q,al,f.out.2.1,n.out.bl.trans (f.out.1.bl.mono n.out.bl.size)⟩;have ge:Hid (∀e∈k,aH w e.vn e.N.nm):=f.out.2.2.2;have Z:=Da c7 (fH ns) (by rw[L.out];omega);rw[L.out,Nat.add_sub_cancel]at Z;clear s eh cP b8 c7 cc f Q cg al g4;cases cF with
   |some l=>
    have y:Hid (bv ns=(3,(l:Int))):=u;unfold sE at x;clear u Z;go_wp2_with fail;refine x.mono ?_;rintro i t ⟨rfl,m⟩;have z:=p.out.2.1.below m;obtain⟨Q,bd,bk⟩:=cR z;have I:Hid (cX (w.heap.size+1) t 0 0/\Below w.heap.size w t):=⟨z,p.out.2.2.2.2.trans (m.mono p.out.2.2.2.2.size)⟩;clear m z x bw;go_wp2_with fail;exact bodyPost_ret (de rfl _ _ _ ⟨w.heap.size+1,0,none⟩ _ _ rfl rfl (fJ _ _ 3 l (fj I.out.1 3 l))) rfl ⟨(I.out.2.setCell (by simp) _).setCell (by simp) _,.inl ⟨(by rw[y.out];intro i;simp at i),(by rw[y.out];rfl)⟩⟩
   |none=>
    rw[tf3,Nat.add_sub_cancel]at u;unfold sE at x;rw[Nat.add_sub_cancel]at x;have gz:((d+1:Nat):Int)-1=(d:Int):=by omega
    rw[gz]at x u;by_cases M:(dR ns).getD d 0<((d+1:Nat):Int)
    ·rw[if_pos (Z.2 M)]at u;rw[decide_eq_true M]at x;have y:Hid (bv ns=(3,(d:Int))):=u;clear u Z M;go_wp2_with fail;refine x.mono ?_;rintro i t ⟨rfl,m⟩;have z:=p.out.2.1.below m;obtain⟨Q,bd,bk⟩:=cR z;have I:Hid (cX (w.heap.size+1) t 0 0/\Below w.heap.size w t):=⟨z,p.out.2.2.2.2.trans (m.mono p.out.2.2.2.2.size)⟩;clear m z x bw;go_wp2_with fail;exact bodyPost_ret (de rfl _ _ _ ⟨w.heap.size+1,0,none⟩ _ _ rfl rfl (fJ _ _ 3 d (fj I.out.1 3 d))) rfl ⟨(I.out.2.setCell (by simp) _).setCell (by simp) _,.inl ⟨(by rw[y.out];intro i;simp at i),(by rw[y.out];rfl)⟩⟩
    ·rw[if_neg (fun h=>M (Z.1 h))]at u;rw[decide_eq_false M]at x;obtain⟨gb,cI⟩:=ah (cO (cA (sw ns)) (d+1) 0);rw[cI]at u cB;clear Z M cI;go_wp2_with fail;refine x.mono ?_;rintro i t ⟨rfl,m⟩;have Y:=cB.out t m;have bA:=aa m bw;clear x bw;cases gb with
     |some l=>
      have y:Hid (bv ns=(4,(l:Int))):=u;unfold yO at Y;clear u;have a1:Hid (Below wr.heap.size wr t):=m;clear m;go_wp2_with fail;refine Y.mono ?_;rintro i O ⟨rfl,am⟩;have K:=a1.out.trans (am.mono a1.out.size);have R:=p.out.2.1.below K;obtain⟨Q,bd,bk⟩:=cR R;have J:Hid (cX (w.heap.size+1) O 0 0/\Below w.heap.size w O):=⟨R,p.out.2.2.2.2.trans (K.mono p.out.2.2.2.2.size)⟩;clear am K R Y bA;go_wp2_with fail;exact bodyPost_ret (de rfl _ _ _ ⟨w.heap.size+1,0,none⟩ _ _ rfl rfl (fJ _ _ 4 l (fj J.out.1 4 l))) rfl ⟨(J.out.2.setCell (by simp) _).setCell (by simp) _,.inl ⟨(by rw[y.out];intro i;simp at i),(by rw[y.out];rfl)⟩⟩
     |none=>
      have y:Hid (bv ns=(0,0)):=u;unfold yO at Y;clear u;have a1:Hid (Below wr.heap.size wr t):=m;clear m;go_wp2_with fail;refine Y.mono ?_;rintro i O ⟨rfl,am⟩;have K:=a1.out.trans (am.mono a1.out.size);have hu:=aa am bA;have R:=p.out.2.1.below K;have cf:=p.out.1.ns.below K;obtain⟨e,j⟩:=aF p.out.2.2.2.1 (show d<d+1 by omega);have f9:O.cell? ⟨C,d,none⟩=some (nV e):=by have cv:=cf.row;rw[p.out.2.2.2.1]at cv;rw[cv.cellAt d (by omega),List.getElem?_map,j];rfl
      obtain⟨Q,bd,bk⟩:=cR R;have J:Hid (cX (w.heap.size+1) O 0 0/\Below w.heap.size w O/\dS O o.heap.size (.slice (some ⟨C,0,none⟩) (d+1) bb) k/\k[d]?=some e):=⟨R,p.out.2.2.2.2.trans (K.mono p.out.2.2.2.2.size),cf,j⟩;obtain⟨fA,a0⟩:=ah (nV e);rw[a0]at f9;have f3:Hid (nV e=fA):=a0;clear am K R Y bA cf j a0;go_wp2_with fail;exact bodyPost_ret (de rfl _ _ _ ⟨w.heap.size+1,0,none⟩ _ _ rfl rfl (fJ _ _ 0 0 (fj J.out.1 0 0))) rfl ⟨(J.out.2.1.setCell (by simp) _).setCell (by simp) _,.inr ⟨y.out,o.heap.size,_,k,e,by rw[f3.out];rfl,by rw[L.out,Nat.add_sub_cancel];exact J.out.2.2.2,p.out.2.2.1,J.out.2.2.1.putFt J.out.1 (by rw[n.out.sz];omega) 0 0,ge.out⟩⟩
theorem xr(w:World)(v:Value)(ns:List Nd)(h:bf w v ns)(b:ns.length<=1048576)(g:∀N∈ns,dP N)(k:eF w)(e:TypeId)(fr:Nat×Nat)(i:w.heap[0]?=some (.cells bj e fr))
  (j:∀W,Below w.heap.size w W->Lib.TabIs Tryz.prog W "strings.asciiSpace" .u8 Lib.asciiSpaceTab):
  Calls Tryz.prog 37 #[.agg #[v]] w (pn w ns):=by
 cases hb:gN ns with
 |true=>
  have d:bv ns=(1,0):=by unfold bv;rw[if_pos hb]
  refine(ve w v ns h b hb).mono ?_;rintro m l ⟨rfl,f⟩;exact⟨f,.inl ⟨by rw[d];decide,by rw[d]⟩⟩
 |false=>exact vq w v ns h b g k e fr i j hb
theorem vv(w:World)(v:Value)(ns:List Nd)(h:bf w v ns)(C:ns.length<=1048576)(F:∀N∈ns,dP N)(b:eF w)(G:TypeId)(fr:Nat×Nat)(r:w.heap[0]?=some (.cells bj G fr))
  (I:∀W,Below w.heap.size w W->Lib.TabIs Tryz.prog W "strings.asciiSpace" .u8 Lib.asciiSpaceTab):
  Calls Tryz.prog 18 #[.agg #[v]] w fun e M=>e= .returned (.agg #[.int .i64 (bv ns).1,.int .i64 (bv ns).2])/\Below w.heap.size w M:=by
 have z:∀s t,Below w.heap.size w ((w.alloc s).alloc t):=fun s t=>((Below.refl _ w).alloc (Nat.le_refl _) s).alloc (by simp) t;have n:Hid (∀W,Below w.heap.size w W->Calls Tryz.prog 37 #[.agg #[v]] W (pn W ns)):=fun W d=>
  xr W v ns (h.below d) C F (b.below d (Nat.le_refl _)) G fr ((d.block _ (lt_of_block r)).trans r) (fun p O=>I p (d.trans (O.mono d.size)))
 obtain⟨a,c,rfl⟩:=h.form;obtain⟨l,B⟩:=ah ns.length;rw[B]at n⊢;obtain⟨g,q⟩:=ah ((bv ns).1);obtain⟨i,x⟩:=ah ((bv ns).2);have k:=cK q x;rw[q,x];clear h C F b r I B q x;go_in;go_wp2_with fail;have o:cX (w.heap.size+1) ((w.alloc (.cells #[.slice a l c] 24)).alloc (.cells #[.int .i64 0,.int .i64 0] 36)) 0 0:=by
  have:=heap_alloc_new (w.alloc (.cells #[.slice a l c] 24)) (.cells #[.int .i64 0,.int .i64 0] 36);rw[World.size_alloc]at this;exact this
 have j:=z (.cells #[.slice a l c] 24) (.cells #[.int .i64 0,.int .i64 0] 36);generalize (w.alloc (.cells #[.slice a l c] 24)).alloc (.cells #[.int .i64 0,.int .i64 0] 36)=p at o j⊢;refine(n.out p j).mono ?_;rintro e f ⟨u,A⟩;obtain⟨y,rfl⟩:∃y,e= .returned (.tuple #[y,.agg #[.int .i64 g,.int .i64 i]]):=by
  rcases A with⟨_,b⟩|⟨L,_,_,_,Q,b,_⟩
  ·exact⟨_,by rw[b,k.out.1,k.out.2]⟩
  ·refine⟨nV Q,?_⟩;rw[b,<-k.out.1,<-k.out.2,L]
 have m:=o.below u;obtain⟨T,V,R⟩:=cR m;have U:w.heap.size+1<f.heap.size:=lt_of_block m;have S:w.heap.size+1≠f.heap.size:=by omega
 have J:Below w.heap.size w f:=j.trans (u.mono j.size);have E:=cK J m;clear A u o j n J m z;go_wp2_with fail;have K:=(fj E.out.2 g i).below ((Below.refl _ ((f.setCell ⟨w.heap.size+1,0,none⟩ (.int .i64 g)).setCell ⟨w.heap.size+1,1,none⟩ (.int .i64 i))).alloc (Nat.le_refl _) (.cells #[.int .i64 g,.int .i64 i] 36));have H:Below w.heap.size w ((f.setCell ⟨w.heap.size+1,0,none⟩ (.int .i64 g)).setCell ⟨w.heap.size+1,1,none⟩ (.int .i64 i)):=(E.out.1.setCell (by simp) _).setCell (by simp) _;exact bodyPost_ret (results_cell_row rfl _ _ (w.heap.size+1) _ _ _ _ rfl K Tryz.underlying36 rfl (by kernel_rfl)) rfl ⟨rfl,H.alloc H.size _⟩
theorem jO(lo:Nat):∀(ks:Fo),JK lo ks
 | .nil=>trivial
 | .cons N k r=>⟨mw (jO lo k),jO lo r⟩
theorem po(f:Mb->Value):∀(m:List Mb),(m.flatMap fun x=>(f x).ownBlock.toList).Nodup->∀(i j:Nat)(a b:Value),i<j->(m.map f)[i]?=some a->(m.map f)[j]?=some b->a.ownBlock=none\/a.ownBlock≠b.ownBlock
 |[],h,i,j,a,b,l,d,k=>by simp at d
 |x::r,h,i,0,a,b,l,d,k=>by omega
 |x::r,h,0,j+1,a,b,l,d,k=>by
  simp at d;subst d;rw[List.flatMap_cons,List.nodup_append]at h;cases hx:(f x).ownBlock with
  |none=>exact .inl rfl
  |some g=>
   right;intro e;have p:=List.mem_of_getElem? (show(r.map f)[j]?=some b by simpa using k);obtain⟨n,o,q⟩:=List.mem_map.1 p;exact h.2.2 g (by simp[hx]) g (List.mem_flatMap.2 ⟨n,o,by rw[q,<-e];simp⟩) rfl
 |x::r,h,i+1,j+1,a,b,l,d,k=>by
  rw[List.flatMap_cons,List.nodup_append]at h;exact po f r h.2.1 i j a b (by omega) (by simpa using d) (by simpa using k)
theorem mC(f:Mb->Value){b:List Mb}(h:(b.flatMap fun x=>(f x).ownBlock.toList).Nodup):oy (b.map f):=fun e d a i l k j=>by
 rcases Nat.lt_or_ge e d with q|q
 ·exact po f b h e d a i q k j
 ·rcases po f b h d e i a (by omega) j k with g|g
  ·cases ho:a.ownBlock with
   |none=>exact .inl rfl
   |some m=>right;rw[g];simp
  ·exact .inr (Ne.symm g)
theorem Iu{w:World}{lo:Nat}{v:Value}{f:List Mb}(h:Lw w lo v f)(j:(F4 f).Nodup)(i:(kB f).Nodup):bY w lo w.heap.size v f:=
 ⟨h.row,fun b d=>(h.row.lt b d).2,fun g e=>⟨(h.each g e).1,(h.each g e).2,fun b d=>((h.each g e).1.lt b d).2,fun b d=>((h.each g e).2.lt b d).2⟩,mC _ j,mC _ i⟩
theorem mZ(w:World)(lo g:Nat):bY w lo g (.slice none 0 0) []:=⟨World.ownsRow_nil _ _ _ _,fun j i=>(by simp[Value.ownBlock]at i),fun k f=>(by cases f),fun d e a h _ b=>(by simp at b),fun d e a h _ b=>(by simp at b)⟩
def IE(w:World)(c a:Int)(ns:List Nd)(e:Ending)(b:World):Prop:=∃d f,e= .returned (uV c a d)/\f.map Mb.N=ns/\bY b w.heap.size b.heap.size d f/\Below w.heap.size w b
structure PL (w:World):Prop where
 lay:tO w
 gn:12<=w.heap.size
 pow:∃tt fr,w.heap[1]?=some (.cells ud tt fr)
 asc:Lib.TabIs Tryz.prog w "strings.asciiSpace" .u8 Lib.asciiSpaceTab
theorem PL.below{w e:World}{B:Nat}(h:PL w)(b:Below B w e)(d:w.heap.size<=B):PL e:=by
 obtain⟨i,g,f⟩:=h.pow;exact⟨h.lay.below b d,Nat.le_trans h.gn b.size,⟨i,g,(b.block _ (Nat.lt_of_lt_of_le (lt_of_block f) d)).trans f⟩,lA h.asc b d⟩
theorem Aj.at_of{s:ByteArray}{c a z:Int}{ns:List Nd}(h:Aj s c a ns)(d:s.size<=65536)(e:0<=z)(b:gO s=([],z)):c=1/\a=z/\ns=[]:=by
 cases h with
 |big h=>omega
 |at_ _ _ h=>rw[b]at h;cases h;exact⟨rfl,rfl,rfl⟩
 |ok _ h _=>rw[b]at h;cases h;omega
theorem Aj.ok_of{s:ByteArray}{c a:Int}{ns:List Nd}{toks:List Tk}(h:Aj s c a ns)(g:s.size<=65536)(b:gO s=(toks, -1)):∃m R d,PF s toks m R d/\c=F7 (gy s R)/\a=0/\ns=Fw (gy s R):=by
 cases h with
 |big h=>omega
 |at_ _ f h=>rw[b]at h;cases h;omega
 |ok _ h e=>rw[b]at h;cases h;exact⟨_,_,_,e,rfl,rfl,rfl⟩
theorem Ix{g:Nat}{W i:World}{cs:Array Value}(h:Gp g W i)(l:W.heap[g]?=some (.cells cs 79 (0,0))){base e size n:Nat}{v:Value}{f:List Value}(o:W.ownsRow base e size v n f)(u:e≠79)(t:e≠81):i.ownsRow base e size v n f:=by
 obtain⟨j,d⟩:=o;refine⟨j,?_⟩;rcases d with d|⟨s,r,p,k,m,b,q⟩
 ·exact .inl d
 ·exact .inr ⟨s,r,p,k,m,dd h b (fun e=>by rw[e,l]at b;cases b;exact u rfl) t,q⟩
theorem qg(w:World)(s:ByteArray)(df:s.size<=1048576)(cf:PL w){c a:Int}{ns:List Nd}(a8:Aj s c a ns):Calls Tryz.prog 5 #[.string s] w (IE w c a ns):=by
 have h7:∀(d1:Fn)(first cT:Array Value)(w:World),(Instr.makeFunc d1 first cT).run Tryz.prog w= .ok (.func d1 first cT) w:=fun _ _ _ _=>rfl;have i7:∀w:World,(zeroValue 26).run Tryz.prog w= .ok (.agg #[.int .i64 0,.int .i64 0,.slice none 0 0]) w:=fun w=>by kernel_rfl
 have d6:=ax w (.cells #[.int .i64 0,.int .i64 0,.slice none 0 0] 26);have g8:=heap_alloc_new w (.cells #[.int .i64 0,.int .i64 0,.slice none 0 0] 26);have fu:(w.alloc (.cells #[.int .i64 0,.int .i64 0,.slice none 0 0] 26)).heap.size=w.heap.size+1:=World.size_alloc _ _;have br:=ab a8;by_cases hI:65536<s.size
 ·have gt:(65536:Int)<(s.size:Int):=by omega
  have V:Hid (c=2/\a=0/\ns=[]):=by
   cases a8 with
   |big h=>exact⟨rfl,rfl,rfl⟩
   |at_ h _ _=>omega
   |ok h _ _=>omega
  clear a8 br;go_enter_defers Tryz.func5,Tryz.ntmps5
  go_wp2_with fail;exact⟨_,results_cell_row rfl _ _ w.heap.size _ _ _ _ rfl (heap_alloc_new w _) Tryz.underlying26 rfl (by kernel_rfl),show IE w c a ns _ _ from by rw[V.out.1,V.out.2.1,V.out.2.2];exact⟨_,[],rfl,rfl,mZ _ _ _,ax w _⟩⟩
 ·have gt:¬(65536:Int)<(s.size:Int):=by omega
  obtain⟨b7,dn,E⟩:=cf.pow;have eq:=rR (w.alloc (.cells #[.int .i64 0,.int .i64 0,.slice none 0 0] 26)) b7 dn ((d6.block _ (lt_of_block E)).trans E);have ar:=ab cf;clear a8 cf E;go_enter_defers Tryz.func5,Tryz.ntmps5
  go_wp2_with fail;refine eq.mono ?_;rintro b am ⟨dq,rfl,cm,bN,b1⟩;rw[fu]at cm bN b1;have cc:Below w.heap.size w am:=d6.trans (b1.mono (by omega));have e6:GQ am (w.heap.size+1) dq (w.heap.size+1) [100,6]:=⟨cm,bN,by decide,by decide⟩;have e3:=se am (w.heap.size+1) dq (w.heap.size+1) s e6 (ar.out.lay.below cc (Nat.le_refl _)) (by omega) (by have:=ar.out.gn;omega);have c5:=(b1.block w.heap.size (by omega)).trans g8;clear eq;go_wp2_with fail;refine e3.mono ?_;rintro b m ⟨(⟨y,cB,toks,a3,hJ,ec,c9,rfl,bD,cN,i4,fF,R⟩|⟨z,Z,rfl,R⟩)⟩
  ·have A:Below w.heap.size w m:=cc.trans (R.mono (by omega));have a0:=(R.block w.heap.size (by omega)).trans c5;have eg:=lt_of_block a0;obtain⟨n,ca⟩:=ah toks.length;rw[ca]at bD fF;obtain⟨fa,fB,rfl⟩:=aB bD;obtain⟨stF,c8,bb⟩:∃stF c8,ce y 6=true->passOk (y.length+45) c8 y 6 stF/\stF.length<=y.length+45/\pH stF (feedL cB 6).1:=by
    by_cases df:ce y 6=true
    ·obtain⟨an,e4,gp⟩:=c9.passOk (by decide) (by decide) df;exact⟨an,_,fun _=>⟨e4,jF e4,gp⟩⟩
    ·exact⟨[],0,fun b=>absurd b df⟩
   have a6:=fun an=>qI (m.alloc an) (w.heap.size+1) dq (w.heap.size+1) y stF ⟨6,(s.size:Nat),(s.size:Nat),0,0,⟨#[]⟩⟩ s c8 (cN.below (ax m an)) ((ar.out.lay.below (A.trans ((ax m an).mono A.size)) (Nat.le_refl _)).tabs) (by omega) (by simp) (by simp) (by simp) (by simp) (by simp) (fun b=>⟨(bb b).1,by have:=(bb b).2.1;omega,fun a a9=>by have:=of_decide_eq_true ((bb b).2.2.o1 a a9);omega⟩);unfold vw at a6;simp only at a6;obtain⟨hX,cs,_⟩:=cN.g.ex;have f4:=lt_of_block cs;have C:=vC bD ca ec c9 cs;have iy:=lt_of_block c5;have hZ:=R.size;clear e3 ec c9 bb bD ca cN cs e6 cm bN;go_wp2_with fail;refine(a6 _).mono ?_;have G:=ax m (.cells #[.int .i64 6,.int .i64 (s.size:Nat),.int .i64 (s.size:Nat),.int .i64 0,.int .i64 0,.string ⟨#[]⟩] 45);have cq:=heap_alloc_new m (.cells #[.int .i64 6,.int .i64 (s.size:Nat),.int .i64 (s.size:Nat),.int .i64 0,.int .i64 0,.string ⟨#[]⟩] 45);have fd:(m.alloc (.cells #[.int .i64 6,.int .i64 (s.size:Nat),.int .i64 (s.size:Nat),.int .i64 0,.int .i64 0,.string ⟨#[]⟩] 45)).heap.size=m.heap.size+1:=World.size_alloc _ _;have b9:=ai C.out.1 G;have ds:=(G.block _ f4).trans C.out.2.2.2.2;generalize m.alloc (.cells #[.int .i64 6,.int .i64 (s.size:Nat),.int .i64 (s.size:Nat),.int .i64 0,.int .i64 0,.string ⟨#[]⟩] 45)=hA at G cq fd b9 ds⊢;rintro b q ⟨(⟨bA,rfl,e9,c7,W⟩|⟨bA,rfl,W⟩)⟩
   ·have bh:(feedL cB 6).2=true:=by rw[<-C.out.2.2.2.1.may (by decide) (by decide)];exact bA
    have dk:=(W.block w.heap.size (by omega)).trans ((G.block _ eg).trans a0);have a5:Below w.heap.size w q:=(A.trans (G.mono A.size)).trans (W.mono (by omega));obtain⟨O,d,hB,u,a2,a9,el⟩:=br.out.ok_of (toks:=toks++[⟨6,(s.size:Nat),(s.size:Nat),a3,0,⟨#[]⟩⟩]) (by omega) (by unfold gO;rw[C.out.2.2.1,if_neg (by simp),if_pos bh]);have et:=Ix c7 ds b9 (by decide) (by decide);have ev:aO m.heap.size q 6 (s.size:Nat) (s.size:Nat) 0 0 ⟨#[]⟩:=dd c7 cq (by omega) (by decide);obtain⟨g9,hh,g3,f5,f8,f9,gs⟩:=aw ev;obtain⟨f2,gm,Z,f3,hd⟩:=info_parts yz;have hM:=W.size;have d0:n=O:=by have:=u.len;rw[List.length_append,C.out.2.1]at this;simpa using this
    have o:=vC u a2 a9 el d0;have cw:=ai et (ax q (.cells #[.int .i64 6,.int .i64 (s.size:Nat),.int .i64 (s.size:Nat),.int .i64 0,.int .i64 0,.string ⟨#[]⟩] 45));have hC:=(ax q (.cells #[.int .i64 6,.int .i64 (s.size:Nat),.int .i64 (s.size:Nat),.int .i64 0,.int .i64 0,.string ⟨#[]⟩] 45)).size;have eN:=heap_alloc_new q (.cells #[.int .i64 6,.int .i64 (s.size:Nat),.int .i64 (s.size:Nat),.int .i64 0,.int .i64 0,.string ⟨#[]⟩] 45);clear a6 e9 c7 cq b9 ds ev u a2 a9 el d0 et bh bA;go_wp2_with (at_builtin;refine wpList_append_own_at _ rfl _ _ 31 rfl am.heap.size 45 f2 _ 6 56 Tryz.underlying31 gm Z f3 hd rfl (by decide) _ _ _ rfl cw ⟨q.heap.size,0,none⟩ 1 1 [.int .i64 6,.int .i64 (s.size:Nat),.int .i64 (s.size:Nat),.int .i64 0,.int .i64 0,.string ⟨#[]⟩] rfl rfl (World.news_of_block eN) (by intro hN d8;simp at d8;rcases d8 with rfl|rfl|rfl|rfl|rfl|rfl<;>rfl) (by unfold maxLen;omega) (by omega) (by omega) ?_;intro i5 j ch bt _ g0;obtain⟨H,K,rfl⟩:=ownsRow_succ ch);have ii:=bt.size;have e5:∀k,(Value.slice fa n fB).ownBlock=some k->am.heap.size<=k:=fun k v=>(cw.lt k v).1;have bw:Below w.heap.size w j:=(a5.trans ((ax q _).mono a5.size)).grown bt (by omega) (fun k v=>by have:=e5 k v;omega);have Y:=(bt.block w.heap.size (by omega) (fun b=>by have:=e5 _ b.symm;omega)).trans (((ax q _).block _ (by omega)).trans dk);obtain⟨b7,dn,E⟩:=ar.out.pow;have cP:=(bw.block _ (lt_of_block E)).trans E;have i6:=lt_of_block E;obtain⟨a4,U,ei⟩:∃a4,j.heap[H]?=some (.cells a4 45 (0,0))/\GL a4 (jK (toks++[⟨6,(s.size:Nat),(s.size:Nat),a3,0,⟨#[]⟩⟩])) (n+1):=by
     rcases ch.2 with⟨bE,_⟩|⟨i2,cT,gd,bE,h8,a2,B,hD,hT,g5⟩
     ·cases bE
     ·cases bE;refine⟨gd,a2,C9 (ts:=toks++[⟨6,(s.size:Nat),(s.size:Nat),0,0,⟨#[]⟩⟩]) (by rw[hU];exact g5) (by rw[List.length_append,C.out.2.1];rfl) (fun c4 T L=>?_)⟩;rcases Nat.lt_or_ge c4 toks.length with h|h
      ·rw[List.getElem?_append_left h]at L;rw[oZ (T:=T) (by rw[List.getElem?_append_left h];exact L)];exact⟨rfl,fun _=>rfl⟩
      ·have b:c4=toks.length:=by have:=(List.getElem?_eq_some_iff.1 L).1;simp at this;omega
       subst b;rw[List.getElem?_append_right (Nat.le_refl _),Nat.sub_self]at L;cases L;rw[oZ (T:=⟨6,(s.size:Nat),(s.size:Nat),a3,0,⟨#[]⟩⟩) (by rw[List.getElem?_append_right (Nat.le_refl _),Nat.sub_self];rfl)];exact⟨rfl,fun h=>absurd rfl h⟩
    obtain⟨S,F⟩:∃S:Pe,(⟨0,j.heap.size,H,K,n+1,jK (toks++[⟨6,(s.size:Nat),(s.size:Nat),a3,0,⟨#[]⟩⟩])⟩:Pe)=S:=⟨_,rfl⟩;have u:=o.out.1;have e8:Pp S (j.alloc (.cells #[.slice (some ⟨H,0,none⟩) (n+1) K,.int .i64 0] 48)) 0:=by
     rw[<-F];exact⟨by show n+1<=_;omega,⟨a4,(0,0),((ax j _).block _ (lt_of_block U)).trans U,ei⟩,heap_alloc_new j _,by have:=bw.size;show _<j.heap.size;omega,b7,dn,((ax j _).block _ (lt_of_block cP)).trans cP⟩
    obtain⟨c4,hS⟩:PI S .stats 0 d O:=CQ (by rw[<-F];exact u.k78) (by rw[<-F];show P _ (n+1) _ _ _ _;rw[o.out.2.2.2.2];exact u.p);have X:=Jq (CK (.inr (by rw[<-F];show(jK _ O).k=6;rw[u.end_])) hS) (by rw[<-F];show O<n+1;have:=o.out.2.2.2.2;omega) _ e8 (by have:=u.sz;rw[ag];omega);have ek:(S.tk O).t=(s.size:Nat):=by rw[<-F];show(jK _ O).t=_;rw[u.end_]
    have ck:S.pb=j.heap.size:=by rw[<-F]
    unfold pV at X;rw[ek,ck]at X;have f7:(j.alloc (.cells #[.slice (some ⟨H,0,none⟩) (n+1) K,.int .i64 0] 48)).heap.size=j.heap.size+1:=World.size_alloc _ _;have b0:=ax j (.cells #[.slice (some ⟨H,0,none⟩) (n+1) K,.int .i64 0] 48);have en:Below w.heap.size w (j.alloc (.cells #[.slice (some ⟨H,0,none⟩) (n+1) K,.int .i64 0] 48)):=bw.trans (b0.mono bw.size);have e1:=(b0.block _ (lt_of_block Y)).trans Y;have hr:=lt_of_block Y;clear hS e8 u U ei E cP ch bt g0 cw eN g9 hh g3 f5 f8 f9 gs;generalize j.alloc (.cells #[.slice (some ⟨H,0,none⟩) (n+1) K,.int .i64 0] 48)=cg at X f7 b0 en e1⊢;refine X.mono ?_;rintro b em ⟨fo,rfl,af⟩;obtain⟨f6,d7,e0⟩:=af.out.nb;have fk:=af.out.gr.size;have fc:=(af.out.gr.block w.heap.size (by omega) (fun b=>by rw[ck]at b;have:=Option.some.inj b;omega)).trans e1;have gz:Below w.heap.size w em:=en.grown af.out.gr (by omega) (fun k v=>by rw[ck]at v;have:=Option.some.inj v;omega);have e7:=mw (jO cg.heap.size d) (N:=⟨1,0,(s.size:Nat),1,0,0,z0,[],[]⟩) em fo f6 [] (.slice none 0 0) d7 ⟨World.ownsRow_nil _ _ _ _,fun cx bo=>(by cases bo)⟩ fk (by have:=o.out.1.sz;rw[ag];simp;omega);have g7:=ab e0;clear X d7 e0 af ek;go_wp2_with fail;refine e7.mono ?_;rintro b l ⟨hY,I,rfl,Q,cn,U,⟨fA,d9⟩,bk,gu,_⟩;rw[List.nil_append]at Q;obtain⟨e,i,rfl⟩:=aB Q.row;have eh:Below w.heap.size w l:=gz.trans (bk.bl.mono (by omega));have ed:=(bk.bl.block w.heap.size (by omega)).trans fc;have hK:=bk.bl.size;obtain⟨g,cz⟩:=ah I.length;rw[cz]at Q;have eb:bf l (.slice e g i) (gy s d):=by
     have:=Q.nds;rw[cn]at this;exact this
    have a7:Hid (Lw l cg.heap.size (.slice e g i) I/\I.map Mb.N=gy s d/\(F4 I).Nodup/\(kB I).Nodup):=⟨Q,cn,List.nodup_iff_count.2 fun e2=>Nat.le_trans (U e2) (List.nodup_iff_count.1 (List.nodup_append.1 g7.out).1 e2),d9⟩;rw[cz];have a1:=ax l (.cells #[.slice e g i] 24);have es:Below w.heap.size w (l.alloc (.cells #[.slice e g i] 24)):=eh.trans (a1.mono eh.size);have bx:=ar.out.below es (Nat.le_refl _);have ge:(gy s d).length<=1048576:=by
     have:=o.out.1.sz;unfold gy;rw[Fo.flat_len,ag];omega
    obtain⟨gf,fv,d2⟩:=bx.lay.tabs.word;have b8:=vv (l.alloc (.cells #[.slice e g i] 24)) (.slice e g i) (gy s d) (eb.below a1) ge o.out.1.sm bx.lay.errs gf fv d2 (fun hy fb=>lA bx.asc fb (Nat.le_refl _));have c6:=heap_alloc_new l (.cells #[.slice e g i] 24);have cF:=(a1.block _ (lt_of_block ed)).trans ed;have h9:(l.alloc (.cells #[.slice e g i] 24)).heap.size=l.heap.size+1:=World.size_alloc _ _;have bn:Hid (F7 (gy s d)=(if(bv (gy s d)).1=0 then 0 else 2)/\Fw (gy s d)=(if(bv (gy s d)).1=0 then gy s d else [])):=⟨rfl,rfl⟩;obtain⟨d4,c3⟩:=ah ((bv (gy s d)).1);obtain⟨hV,d3⟩:=ah ((bv (gy s d)).2);rw[c3]at bn;simp only[c3,d3]at b8;have hQ:∀(ey fq:Value)(w:World),(Instr.field 36 (.agg #[ey,fq]) 0).run Tryz.prog w= .ok ey w:=fun _ _ _=>by kernel_rfl
    clear e7 Q cn U fA d9 bk gu eb d2 c3 d3 bx cz;go_wp2_with fail;refine b8.mono ?_;rintro b x ⟨rfl,ap⟩;have ef:=(ap.block _ (lt_of_block c6)).trans c6;have bd:=(ap.block _ (lt_of_block cF)).trans cF;have d5:Below w.heap.size w x:=es.trans (ap.mono (by omega));have hH:=ap.size;have fg:∀k,k<l.heap.size->x.heap[k]?=l.heap[k]?:=fun k v=>(ap.block k (by omega)).trans (a1.block k v);obtain⟨ht,ih,hs,hl⟩:=row3 bd;have hp:x.cell? ⟨l.heap.size,0,none⟩=some (.slice e g i):=by rw[cell_of_row _ _ _ _ _ _ ef];rfl
    have hw:w.heap.size≠l.heap.size:=by omega
    have i1:=lt_of_block bd;clear b8 c6 cF a1 ef;by_cases ak:d4=0
    ·subst ak;go_wp2_with fail;refine leaves_cons (f:=12) (args:=#[.pointer (some ⟨w.heap.size,0,none⟩)]) (by simp) (by simp[go_sem]) ?_;refine(yL ⟨w.heap.size,0,none⟩ _).mono ?_;rintro b cb cI ⟨rfl,rfl,rfl⟩;have B:=Ab bd (.int .i64 0) (.int .i64 0) (.slice e g i);have J:=qN d5 (.int .i64 0) (.int .i64 0) (.slice e g i);have ea:∀k,k≠w.heap.size->_:=fun k v=>F8 (w:=x) (r:=w.heap.size) (k:=k) v (.int .i64 0) (.int .i64 0) (.slice e g i);have ep:x.heap.size<=(((x.setCell ⟨w.heap.size,0,none⟩ (.int .i64 0)).setCell ⟨w.heap.size,1,none⟩ (.int .i64 0)).setCell ⟨w.heap.size,2,none⟩ (.slice e g i)).heap.size:=by simp[World.setCell]
     generalize ((x.setCell ⟨w.heap.size,0,none⟩ (.int .i64 0)).setCell ⟨w.heap.size,1,none⟩ (.int .i64 0)).setCell ⟨w.heap.size,2,none⟩ (.slice e g i)=ao at B J ea ep⊢;have M:=ax ao (.cells #[.int .i64 0] 39);have i3:=J.size;have hj:x.heap.size<=ao.heap.size:=ep;have b:=bn.out;rw[if_pos trivial,if_pos trivial]at b;have cr:Lw (ao.alloc (.cells #[.int .i64 0] 39)) cg.heap.size (.slice e g i) I:=a7.out.1.mono fun k hn fz=>(M.block k (by omega)).trans ((ea k (by omega)).trans (fg k fz));refine⟨_,results_cell_row rfl _ _ w.heap.size _ _ _ _ rfl ((M.block _ (lt_of_block B)).trans B) Tryz.underlying26 rfl (by kernel_rfl),show IE w c a ns _ _ from ?_⟩;rw[o.out.2.1,o.out.2.2.1,o.out.2.2.2.1,b.1,b.2];exact⟨_,I,rfl,a7.out.2.1,Iu ⟨cU cr.row (by omega),fun cx bo=>⟨cU (cr.each cx bo).1 (by omega),cU (cr.each cx bo).2 (by omega)⟩⟩ a7.out.2.2.1 a7.out.2.2.2,J.trans (M.mono (by omega))⟩
    ·have L:(d4==0)=false:=by simpa using ak
     have V:Hid (F7 (gy s d)=2/\Fw (gy s d)=[]):=by
      have b:=bn.out;rw[if_neg ak,if_neg ak]at b;exact b
     clear ak bn;go_wp2_with fail;refine leaves_cons (f:=12) (args:=#[.pointer (some ⟨w.heap.size,0,none⟩)]) (by simp) (by simp[go_sem]) ?_;refine(yL ⟨w.heap.size,0,none⟩ _).mono ?_;rintro b cb cI ⟨rfl,rfl,rfl⟩;have B:=Ab bd (.int .i64 2) (.int .i64 0) (.slice none 0 0);have J:=qN d5 (.int .i64 2) (.int .i64 0) (.slice none 0 0);generalize ((x.setCell ⟨w.heap.size,0,none⟩ (.int .i64 2)).setCell ⟨w.heap.size,1,none⟩ (.int .i64 0)).setCell ⟨w.heap.size,2,none⟩ (.slice none 0 0)=ao at B J⊢;have M:=ax ao (.cells #[.int .i64 0] 39);refine⟨_,results_cell_row rfl _ _ w.heap.size _ _ _ _ rfl ((M.block _ (lt_of_block B)).trans B) Tryz.underlying26 rfl (by kernel_rfl),show IE w c a ns _ _ from ?_⟩;rw[o.out.2.1,o.out.2.2.1,o.out.2.2.2.1,V.out.1,V.out.2];exact⟨_,[],rfl,rfl,mZ _ _ _,J.trans (M.mono J.size)⟩
   ·have dk:=(W.block w.heap.size (by omega)).trans ((G.block _ eg).trans a0);have a5:Below w.heap.size w q:=(A.trans (G.mono A.size)).trans (W.mono (by omega));have bh:(feedL cB 6).2=false:=by rw[<-C.out.2.2.2.1.may (by decide) (by decide)];exact bA
    obtain⟨rfl,rfl,rfl⟩:=br.out.at_of (z:=(s.size:Nat)) (by omega) (by omega) (by unfold gO;rw[C.out.2.2.1,if_neg (by simp),if_neg (by rw[bh];simp)]);refine leaves_cons (f:=12) (args:=#[.pointer (some ⟨w.heap.size,0,none⟩)]) (by simp) (by simp[go_sem]) ?_;refine(yK w.heap.size _ _ _ _ q dk).mono ?_;rintro b cb cI ⟨rfl,rfl,Y,he⟩;have ff:=mX y (s.extract s.size s.size);rw[ByteArray.size_extract]at ff;exact⟨_,results_cell_row rfl _ _ w.heap.size _ _ _ _ rfl Y Tryz.underlying26 rfl (by kernel_rfl),⟨_,[],by unfold uV;simp only[Int.toNat_natCast];rw[show jH y (s.extract s.size s.size)=0 by omega,Int.natCast_zero,Int.add_zero],rfl,mZ _ _ _,a5.trans he⟩⟩
  ·have A:Below w.heap.size w m:=cc.trans (R.mono (by omega));have a0:=(R.block w.heap.size (by omega)).trans c5;obtain⟨rfl,rfl,rfl⟩:=br.out.at_of (by omega) Z.bad (by unfold gO;rw[if_pos Z.bad]);refine leaves_cons (f:=12) (args:=#[.pointer (some ⟨w.heap.size,0,none⟩)]) (by simp) (by simp[go_sem]) ?_;refine(yK w.heap.size _ _ _ z m a0).mono ?_;rintro b cb cI ⟨rfl,rfl,g1,fm⟩;exact⟨_,results_cell_row rfl _ _ w.heap.size _ _ _ _ rfl g1 Tryz.underlying26 rfl (by kernel_rfl),⟨_,[],by rw[<-Z.at_];rfl,rfl,mZ _ _ _,A.trans fm⟩⟩
section
variable {c a : Int} {ns : List Nd}
theorem kU(w:World)(h i:Value)(k:bf w h ns)(j:bf w i ns)(p:ns.length<=1048576)(o:∀N∈ns,N.nm.length<=1048576/\N.ks.length<=1048576):
  Calls Tryz.prog 6 #[uV c a h,uV c a i] w fun e l=>e= .returned (.bool true)/\Below w.heap.size w l:=by
 have f:∀b d,Below w.heap.size w ((w.alloc b).alloc d):=fun b d=>((Below.refl _ w).alloc (Nat.le_refl _) b).alloc (by simp) d;have g:=fun b d=>vY ((w.alloc b).alloc d) h i ns (k.below (f b d)) (j.below (f b d)) p o;obtain⟨q,u,rfl⟩:=k.form;obtain⟨t,r,rfl⟩:=j.form;generalize ns.length=s at g;unfold uV;clear k j;go_in;go_wp2_with fail;refine au (g _ _) fun l m=>?_;have n:=(f _ _).trans (m.mono (f _ _).size);clear g m;go_wp2_with fail;go_ret;exact⟨rfl,n⟩
theorem pq(w:World)(b:List Mb)(lo d:Nat)(v:Value)(p:cnt 1 (b.map Mb.N)<=40000000)(k:b.length<=1048576)(m:d<=w.heap.size)(o:bY w lo d v b):
  Calls Tryz.prog 7 #[uV c a v,.int .i64 1] w fun e g=>e= .returned (.int .i64 (cnt 1 (b.map Mb.N):Nat))/\bY g lo d v (dz 1 b)/\mV lo d w g:=by
 have f:=fun h=>rI (w.alloc h) b lo d v p k (Nat.le_trans m (ax w h).size) (o.below (ax w h));obtain⟨q,u,rfl⟩:=aB o.row;generalize b.length=s at f;generalize cnt 1 (b.map Mb.N)=t at f;unfold uV;clear o;go_in;go_wp2_with fail;refine(f _).mono ?_;rintro e g ⟨rfl,l,i⟩;have j:mV lo d w g:=(mV.of_grown (row:=none) (ll none (ax w _)) (fun r n=>by cases n)).trans i;clear f i;go_wp2_with fail;go_ret;exact⟨rfl,l,j⟩
theorem pu(w:World)(v:Value)(i:cnt 1 ns<=40000000)(k:ns.length<=1048576)(h:bf w v (mkNs 1 ns)):
  Calls Tryz.prog 8 #[uV c a v,.int .i64 1] w fun e d=>e= .returned (.int .i64 (cnt 1 ns:Nat))/\Below w.heap.size w d:=by
 have b:=fun g=>rJ (w.alloc g) v ns i k (h.below (ax w g));obtain⟨m,p,rfl⟩:=h.form;generalize (mkNs 1 ns).length=o at b;generalize cnt 1 ns=l at b;unfold uV;have n:¬(l:Int)<0:=by omega
 clear h;go_in;go_wp2_with fail;refine au (b _) fun d f=>?_;have j:=(ax w _).trans (f.mono (ax w _).size);clear b f;go_wp2_with fail;go_ret;exact⟨rfl,j⟩
end
theorem Aj.ns{s:ByteArray}{c a:Int}{ns:List Nd}(h:Aj s c a ns):ns.length<=1048576/\(∀N∈ns,N.nm.length<=1048576/\N.ks.length<=1048576)/\cnt 1 ns<=40000000:=by
 have e:([]:List Nd).length<=1048576/\(∀N∈([]:List Nd),N.nm.length<=1048576/\N.ks.length<=1048576)/\cnt 1 []<=40000000:=⟨Nat.zero_le _,fun N d=>(by cases d),by decide⟩;cases h with
 |big _=>exact e
 |at_ _ _ _=>exact e
 |@ok i g j f _ _ b=>
  unfold Fw;split
  ·refine⟨?_,fun N d=>⟨(b.sm N d).l1,(b.sm N d).l2⟩,Nat.le_trans b.ct (by decide)⟩;have:=b.sz;unfold gy;rw[Fo.flat_len,ag];omega
  ·exact e
theorem qh(w:World)(s:ByteArray)(h:s.size<=1048576){c a:Int}{ns:List Nd}(f:Aj s c a ns):Calls Tryz.prog 4 #[.string s] w (Fv w c a ns):=by
 cases f with
 |big b=>exact qd w s b h
 |at_ b g d=>exact sA w s b g d
 |ok b d e=>exact sC w s b d e
theorem xu(w:World)(s:ByteArray)(cx:s.size<=9223372036854775807)(b0:PL w):
  Calls Tryz.prog 3 #[.string s] w fun e an=>e= .returned (.bool true)/\Below w.heap.size w an:=by
 by_cases c3:1048576<s.size
 ·have ch:(1048576:Int)<(s.size:Int):=by omega
  go_in;go_wp2_with fail;go_ret;exact⟨rfl,Below.refl _ _⟩
 ·have ch:¬(1048576:Int)<(s.size:Int):=by omega
  have c5:∀w:World,(zeroValue 26).run Tryz.prog w= .ok (.agg #[.int .i64 0,.int .i64 0,.slice none 0 0]) w:=fun w=>by kernel_rfl
  obtain⟨c,a,ns,M⟩:=Il s;obtain⟨bk,ca,bx⟩:=M.ns;have a3:=qh w s (by omega) M;have h:=fun (g:World) (a1:Below w.heap.size w g)=>qg g s (by omega) (b0.below a1 (Nat.le_refl _)) M;have j:=cS bk ca bx;have bo:=ab h;unfold Fv uV at a3;clear M b0 bk ca bx h;go_in;go_wp2_with fail;refine a3.mono ?_;rintro e i ⟨o,rfl,ao,av⟩;have a4:=ax i (.cells #[.int .i64 c,.int .i64 a,o] 26);have H:=heap_alloc_new i (.cells #[.int .i64 c,.int .i64 a,o] 26);have cc:(i.alloc (.cells #[.int .i64 c,.int .i64 a,o] 26)).heap.size=i.heap.size+1:=World.size_alloc _ _;have l:Hid (Below w.heap.size w (i.alloc (.cells #[.int .i64 c,.int .i64 a,o] 26))):=av.trans (a4.mono av.size);have O:Hid (bf (i.alloc (.cells #[.int .i64 c,.int .i64 a,o] 26)) o ns):=ao.below a4;have cv:=av.size;obtain⟨ar,ap,rfl⟩:=ao.form;clear a3 ao;go_wp2_with fail;generalize i.alloc (.cells #[.int .i64 c,.int .i64 a,.slice ar ns.length ap] 26)=N at a4 H cc l O⊢;have h:=bo.out N l.out;unfold IE uV at h;refine h.mono ?_;rintro e n ⟨cI,b6,rfl,bh,V,Z⟩;obtain⟨b,A⟩:=ah ns.length;have bd:b6.length=b:=by rw[<-A,<-bh,List.length_map]
  obtain⟨f,d,rfl⟩:=aB V.row;rw[bd]at V⊢;rw[A]at H O;have p:=cS bh bd A;have a9:=ax n (.cells #[.int .i64 c,.int .i64 a,.slice f b d] 26);have Q:=heap_alloc_new n (.cells #[.int .i64 c,.int .i64 a,.slice f b d] 26);have cr:(n.alloc (.cells #[.int .i64 c,.int .i64 a,.slice f b d] 26)).heap.size=n.heap.size+1:=World.size_alloc _ _;have C:=Z.trans (a9.mono Z.size);have J:=V.below a9;have a8:=(C.block i.heap.size (by omega)).trans H;have cz:=Z.size;obtain⟨v,x,u,t⟩:=row3 a8;obtain⟨K,b9⟩:∃K:Nat,cnt 1 ns=K:=⟨_,rfl⟩;have bw:=ab b9;rw[A];clear h bh bd A V b9;go_wp2_with fail;generalize n.alloc (.cells #[.int .i64 c,.int .i64 a,.slice f b d] 26)=cm at a9 Q cr C J a8 v x u t⊢;have k:=kU (c:=c) (a:=a) (ns:=ns) cm (.slice f b d) (.slice ar b ap) (by have:=J.nds;rw[p.out.1]at this;exact this) (O.out.below C) j.out.1 j.out.2.1;unfold uV at k;refine k.mono ?_;rintro e cq ⟨rfl,X⟩;have cg:=C.trans (X.mono C.size);have bs:=J.below X;have T:=(X.block _ (lt_of_block Q)).trans Q;have c4:=X.size;obtain⟨r,y,B,z⟩:=row3 T;clear k v x u t J a8 Q;go_wp2_with fail;have I:=pq (c:=c) (a:=a) cq b6 N.heap.size n.heap.size (.slice f b d) (by rw[p.out.1];exact j.out.2.2) (by have:=j.out.1;have:=p.out.2;omega) (by omega) bs;unfold uV at I;rw[p.out.1,bw.out]at I;refine I.mono ?_;rintro e af ⟨rfl,b4,L⟩;have bn:Below N.heap.size N af:=L.bel cg (Nat.le_refl _) (by omega);have U:=(L.block _ (lt_of_block T) (.inr (Nat.le_refl _))).trans T;have cN:=L.size;have al:bf af (.slice f b d) (mkNs 1 ns):=by have:=b4.nds;rw[GI,p.out.1]at this;exact this
  clear I r y B z bs T b4 L;obtain⟨r,y,B,z⟩:=row3 U;have R:=fun (g:World) (a1:bf g (.slice f b d) (mkNs 1 ns))=>pu (c:=c) (a:=a) (ns:=ns) g (.slice f b d) j.out.2.2 j.out.1 a1;unfold uV at R;rw[bw.out]at R;have cP:¬(K:Int)<0:=by omega
  have b2:Hid (∀(g:World),bf g (.slice f b d) (mkNs 1 ns)->Calls Tryz.prog 8 #[.agg #[.int .i64 c,.int .i64 a,.slice f b d],.int .i64 1] g fun e an=>e= .returned (.int .i64 K)/\Below g.heap.size g an):=R;clear R;go_wp2_with fail;refine au (b2.out af al) fun ct W=>?_;have a2:=bn.trans (W.mono bn.size);have br:=(W.block _ (lt_of_block U)).trans U;have bt:=al.below W;have cw:=W.size;clear r y B z U al;go_wp2_with fail;have h:=bo.out ct (l.out.trans (a2.mono l.out.size));unfold IE uV at h;refine h.mono ?_;rintro e F ⟨cB,cl,rfl,a5,G,bb⟩;obtain⟨q,m,rfl⟩:=aB G.row;have bl:cl.length=b:=by rw[<-p.out.2.2,<-a5,List.length_map]
  rw[bl]at G⊢;have a6:=ax F (.cells #[.int .i64 c,.int .i64 a,.slice q b m] 26);have bD:=heap_alloc_new F (.cells #[.int .i64 c,.int .i64 a,.slice q b m] 26);have Y:=bb.trans (a6.mono bb.size);have E:=a2.trans (Y.mono a2.size);have a7:bf (F.alloc (.cells #[.int .i64 c,.int .i64 a,.slice q b m] 26)) (.slice q b m) ns:=by have:=(G.below a6).nds;rw[a5]at this;exact this
  have am:=(E.block i.heap.size (by omega)).trans H;have S:=(Y.block _ (lt_of_block br)).trans br;have a0:=bt.below Y;have cF:=bb.size;obtain⟨v,x,u,t⟩:=row3 am;clear h G a5 bl bt;go_wp2_with fail;generalize F.alloc (.cells #[.int .i64 c,.int .i64 a,.slice q b m] 26)=cb at a6 bD Y E a7 am S a0 v x u t⊢;have k:=kU (c:=c) (a:=a) (ns:=ns) cb (.slice q b m) (.slice ar b ap) a7 (O.out.below E) j.out.1 j.out.2.1;unfold uV at k;refine k.mono ?_;rintro e cs ⟨rfl,ak⟩;have bE:=(ak.block _ (lt_of_block S)).trans S;have bN:=a0.below ak;have bA:=E.trans (ak.mono E.size);clear k v x u t am S a7 a0 bD;obtain⟨r,y,B,z⟩:=row3 bE;go_wp2_with fail;refine au (b2.out cs bN) fun cT cn=>?_;have ck:=bA.trans (cn.mono bA.size);clear r y B z bE bN;go_wp2_with fail;go_ret;exact⟨rfl,l.out.trans (ck.mono l.out.size)⟩
end Go.Proofs.YtcbmoiabehpliaaGreatDoor
