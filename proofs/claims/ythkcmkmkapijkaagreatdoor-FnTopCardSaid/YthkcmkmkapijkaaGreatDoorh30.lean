import Derived.Test.YthkcmkmkapijkaaGreatDoorh29
set_option linter.all false
set_option maxRecDepth 100000
set_option maxHeartbeats 12800000
open List renaming length->M
open Option renaming some->Q,none->Y
open Go.Value renaming slice->T,slice->X,iface->A9,ownBlock->Br
open Bool renaming false->V,true->A3
open Go.RowKit renaming Below->Ax,Hid->B0
open Go renaming Value->A0,World->A5
open Go.Proofs.Tryz renaming prog->A1
open Go.Lib renaming asciiSpaceTab->A2,TabIs->B1
namespace Go.Proofs.YthkcmkmkapijkaaGreatDoor
open Go.RowKit Go.Maps Go.WideMaps
variable{L:zLJ}{N:Nd}{S:Int->Nat->Bz}{W:World}{i:Nat}{ns:zLD}{vn vs:Value}
def aj4{E l tab}(h:SzE ns E S i tab)(d:Szd ns)(n:tab<=9000)(e:i<M ns)(s:(ab ns i).k=7)
  (q:∀(z)(w),z<i->(ab ns z).k=7->w.size<=10->(l z w).size+10000<=2000000*sN ns z) (a) (b:a.size<=10):(yp ns E S l (ab ns i) a tab).size+10000<=2000000*sN ns i:=by
 have t:=(jf<|d.nb i e).1;have j:=λu r=>ij (d.nb i e) e u r;have⟨_,_,_,_,p⟩:=ahB t s;have⟨o,b⟩:=j 0 O;have⟨_,a⟩:=j 1 O;have v:=h.e o b.lt;have x:=h.blk d n (gL a.lt) a.len;unfold yp;rw[b.id,a.id,d.at_ i e];simp only[az];obtain g|g:=cG (ab ns i).ks.length 3
 .rw[ae g,Ed ns O,b.id,a.id];show _+_+1+_+0+_<=_;omega
 .rw[aa O,anm ns O,b.id,a.id];have⟨m,c⟩:=j 2 O;rw[c.id]at p⊢;by_cases f:(ab ns m).k=7
  .rw[ae f];have:=q m ⟨#[32,101,108,105,102,32]⟩ c.lt f (by show 6<=10;omega);show _+_+1+_+_+_<=_;omega
  .rw[aa f];have:=h.blk d n (gL c.lt) c.len;rw[az];show _+_+1+_+(6+_)+_<=_;omega
theorem an1(h:pG ns N=A3):(nm0 N).size<=4000:=by
 unfold nm0;rw[ed];cases e:N.nm[0]? with
 |none=>simp_all|some a=>grind [vy,List.mem_of_getElem?]
theorem an2{E z tab}(h:SzE ns E S i tab)(d:Szd ns)(q:tab<=9000)(b:i<M ns)
  (a:(ab ns i).k=7->(z (-1) ⟨#[105,102,32]⟩).size+10000<=2000000*sN ns i):(prS ns E S z (ab ns i) tab).size+10000<=2000000*sN ns i:=by
 have f:=(jf<|d.nb i b).1;have m:=λak af=>ij (d.nb i b) b ak af;have s:=λp o=>(h.kid d O b p o).1;have nm0:=an1 f;have al:=Dc _<|vy f;unfold prS;by_cases B:(ab ns i).k=1
 .rw[ae B];have:=h.blk d q O b;omega
 rw[aa B];by_cases u:(ab ns i).k=2
 .rw[ae u,d.at_ i b];have⟨c,j⟩:=aaH f u;have:=xa ns E _ s;simp only[az];split
  .show 4+_+0+_<=_;omega
  .rw[az];show 4+_+(3+_)+_<=_;omega
 rw[aa u];by_cases v:(ab ns i).k=3
 .rw[ae v,d.at_ i b];have⟨c,j,r⟩:=De f v;have⟨g,a⟩:=m 0 O;rw[uq ns c,a.id];have:=h.e g a.lt;simp only[az];show 6+_+3+_+_<=_;omega
 rw[aa v];by_cases w:(ab ns i).k=4
 .rw[ae w,d.at_ i b];have⟨c,j,r⟩:=aaI f w;have⟨g,a⟩:=m 0 O;rw[uq ns c];rw[a.id]at j⊢;have:=h.bod d q (gL a.lt) a.len j;simp only[az];show 3+_+_+_<=_;omega
 rw[aa w];by_cases H:(ab ns i).k=5
 .rw[ae H,d.at_ i b,Iv ns _ (ab ns i).n.toNat];have:=xa ns E ((ab ns i).ks.take (ab ns i).n.toNat) (λp o=>s p<|Ce o);have:=xa ns E ((ab ns i).ks.drop (ab ns i).n.toNat) (λp o=>s p<|List.mem_of_mem_drop o);simp only[az];show _+3+_+_<=_;omega
 rw[aa H];by_cases K:(ab ns i).k=6
 .rw[ae K,d.at_ i b];have⟨c,j⟩:=E4 f O;have⟨g,a⟩:=m 0 O;rw[uq ns c,a.id];have:=h.e g a.lt;omega
 rw[aa K];by_cases ad:(ab ns i).k=7
 .grind
 rw[aa ad];by_cases x:(ab ns i).k=8
 .rw[ae x,d.at_ i b];have⟨c,j,r⟩:=Df f x;have⟨g,a⟩:=m 0 O;have⟨A,l⟩:=m 1 O;rw[Ed ns c,a.id,l.id];have:=h.e g a.lt;have:=h.blk d q (gL l.lt) l.len;simp only[az];show 6+_+1+_+_<=_;omega
 rw[aa x];by_cases y:(ab ns i).k=9\/(ab ns i).k=10
 .rw[ae y,d.at_ i b];have t:0<(ab ns i).ks.length/\(ab ns i).nm.length<=200:=by
   obtain e|e:=y
   .have⟨c,j,r,L⟩:=aaJ f e;omega
   .have⟨c,j,r,L⟩:=Gn f e;omega
  have⟨A,l⟩:=m ((ab ns i).ks.length-1) O;rw[aq6 ns t.1,l.id];have:=xa ns E ((ab ns i).ks.take<|(ab ns i).ks.length-1) (λp o=>s p<|Ce o);have:=h.blk d q (gL l.lt) l.len;have C:(if(ab ns i).k=9 then(⟨#[32,61,32]⟩:Bz) else⟨#[32,105,110,32]⟩).size<=4:=by
   split
   .show 3<=4;omega
   .show 4<=4;omega
  simp only[az];show 4+_+_+_+1+_+_<=_;omega
 rw[aa y];by_cases C:(ab ns i).k=11
 .rw[ae C,d.at_ i b];show 5+_<=_;omega
 rw[aa C];by_cases F:(ab ns i).k=12
 .rw[ae F,d.at_ i b];show 4+_<=_;omega
 rw[aa F];by_cases G:(ab ns i).k=13
 .rw[ae G,d.at_ i b];have:=xa ns E _ s;simp only[az];split
  .show 6+0+_<=_;omega
  .rw[az];show 6+(1+_)+_<=_;omega
 rw[aa G];by_cases t:(ab ns i).k=14
 .rw[ae t,d.at_ i b];have⟨c,j,r,L⟩:=aaK f t;have⟨g,a⟩:=m 0 O;have⟨A,l⟩:=m 1 O;rw[Ed ns c,a.id,l.id];have:=h.blk d q (gL a.lt) a.len;have:=h.blk d q (gL l.lt) l.len;simp only[az];show 4+_+7+_+1+_+_<=_;omega
 rw[aa t];by_cases l:(ab ns i).k=15
 .rw[ae l,d.at_ i b];have⟨c,j⟩:=Dg f l;have⟨g,a⟩:=m 0 O;rw[uq ns c,a.id];have:=h.e g a.lt;simp only[az];show 6+_+_<=_;omega
 rw[aa l];by_cases r:(ab ns i).k=16
 .rw[ae r,d.at_ i b];have⟨c,j⟩:=E4 f O;have⟨g,a⟩:=m 0 O;rw[uq ns c,a.id];have:=h.e g a.lt;simp only[az];show 6+_+_<=_;omega
 rw[aa r,d.at_ i b];show 0+_<=_;omega
theorem aib(d:Szd ns)(m:∀i:Int,(ab ns i).n<=9223372036854775807):∀f i tab,i<M ns->tab+f<=8000->
  (sI ns f i tab).size+10000<=2000000*sN ns i/\(ry ns f i tab).size+10000<=2000000*sN ns i/\((ab ns i).k=7->∀w:Bz,w.size<=10->(uL ns f i w tab).size+10000<=2000000*sN ns i)
 |0,i,tab,c,q=>by
  have:=d.at_ i c;refine⟨?_,?_,λ_ w _=>?_⟩;all_goals (simp_all [sI,ry,uL];omega)|f+1,i,tab,c,q=>by
  have j:=λ(a g) (b:a<i) p=>aib d m f a g O p;have l:SzE ns (λk=>sI ns f k tab) (λk g=>ry ns f k g) i tab:=⟨λa b=>(j a tab b O).1,λa b=>(j a _ b O).2.1⟩;have o:(ab ns i).k=7->∀w:Bz,w.size<=10->(yp ns (λk=>sI ns f k tab) (λk g=>ry ns f k g) (λk w=>uL ns f k w tab) (ab ns i) w tab).size+10000<=2000000*sN ns i:=λe w h=>
   aj4 l d O c e (λa w b e h=>(j a tab b O).2.2 e w h) w h
  refine⟨?_,?_,?_⟩
  .rw[sI];exact anq l d O c<|m _
  .rw[ry];exact an2 l d O c (λe=>o e _ (by show 3<=10;omega))
  grind [uL]
theorem afE(d:Szd ns)(h:∀i:Int,(ab ns i).n<=9223372036854775807)(o:M ns<=3000)(l:0<M ns):(fK ns).size<=6000000000:=by
 unfold fK;rw[Ky,List.map_map];have e:((M ns:Int)-1)=((M ns-1:Nat):Int):=O;rw[e];have g:∀a∈(ab ns ((M ns-1:Nat):Int)).ks,(ry ns (M ns) a 0).size+10000<=2000000*sN ns a:=by
  intro a c;obtain⟨j,f,rfl⟩:=pq c;obtain⟨k,b⟩:=ij (d.nb _ O) O j f;rw[b.id];exact(aib d h _ k 0 b.len O).2.1
 have j:=afr ns _ 1 _ g O;have k:=d.at_ (M ns-1) O;have m:=d.le<|(M ns-1:Nat);have f:((ab ns ((M ns-1:Nat):Int)).ks.map<|ByteArray.size ∘ λb=>ry ns (M ns) b 0++⟨#[10]⟩)=(ab ns ((M ns-1:Nat):Int)).ks.map λa=>(ry ns (M ns) a 0).size+1:=by
  apply List.map_congr_left;intro a c;simp only[Function.comp];rw[az];rfl
 grind
def Fy.start{a w lb mb p b t}(y:qy a)(x:oy w a.heap.size vs L)(C:w.heap.size<=b)(z:lb≠b)(A:p≠b)(lk:Lk W lb mb vs)(f:oy W a.heap.size vs L)(B:nA p W 37 N vn t)(bx:im W b N vn 0 fe)(v:Ax a.heap.size a W)(o:a.heap.size<=lb/\a.heap.size<=b/\a.heap.size<=p):
  Fy a lb mb p b vs L N vn t fe 0 (W.setCell (aj b 4)<|zI<|M L):=by
 have l:Ax a.heap.size a (W.setCell (aj b 4)<|zI<|M L):=v.setCell o.2.1 _;have h:∀{i:Nat},i≠b->(W.setCell (aj b 4)<|zI<|M L).heap[i]?=W.heap[i]?:=λj=>jg j;have r:∀{s:A0}{q:Nat}{u:zLV},W.ownsRow a.heap.size 64 1 s q u->(W.setCell (aj b 4)<|zI<|M L).ownsRow a.heap.size 64 1 s q u:=λk=>
  k.kept ⟨R,R,R,by simp[World.setCell],λn _ j=>jg (λd=>j (by rw[d]))⟩ (by
   cases hv:Br _ with
   |none=>exact .inl R|some n=>exact .inr (λd=>by obtain⟨⟨_,c⟩,_⟩:=rH k hv;obtain rfl:=de d;exact ut bx c (sE _).1 R))
 refine⟨⟨(h z).trans lk.b,wL lk.m<|h (λd=>ID lk.m bx d),y.keep l⟩,⟨r f.row,λg c e=>?_,λg c e=>r<|f.kid g c e,f.far,f.rng⟩,(h A).trans B,?_,?_,.inl R,λc e=>?_,l,o⟩
 .have:=ai<|x.box g c e;exact(h O).trans<|f.box g c e
 .unfold im at bx⊢;have:=aD W b 4 _ _ (zI<|M L) bx;rw[this];simp
 .rw[vK];exact onN
 .cases c.kv.ownBlock with
  |none=>exact .inl R|some n=>exact .inr (by simp[Br])
theorem yF(g m):(⟨g,0,Y⟩:Addr).add m=⟨g,m,Y⟩:=by unfold Addr.add;split<;>simp_all
def Fy.done{d lb mb p r a3 B a}(av:qy d)(h:Fy d lb mb p r vs L N vn a3 B (M N.ks) W)(a2:∀z∈N.ks,0<=z/\z<(M L:Int)){b}(v:W.grownBy a vs.ownBlock)(o:a.ownsRow d.heap.size 64 1 b (M L+1) (L.map nV++[iF N.k r]))(ar:b.ownBlock=vs.ownBlock\/b.ownBlock=Q W.heap.size):
  a.heap[lb]?=Q (.cells #[.map<|Q mb,vs] 157 (0,0))/\
  Lk (a.setCell (aj lb 1) b) lb mb b/\oy (a.setCell (aj lb 1) b) d.heap.size b (L++[⟨N,r,vn,B⟩])/\im (a.setCell (aj lb 1) b) r N vn (M L) B/\Ax d.heap.size d (a.setCell (aj lb 1) b):=by
 have E:∀k,vs.ownBlock=Q k->ahI W k/\d.heap.size<=k:=λk A=>rH h.ns.row A;have H:∀{q:Nat}{s:zAV}{n:TypeId},W.heap[q]?=Q (.cells s n (0,0))->n≠64->a.heap[q]?=Q (.cells s n (0,0)):=λi F=>
  (v.block _ (ai i) (λe=>by obtain⟨⟨af,u⟩,_⟩:=E _ e.symm;exact ut i u F R)).trans i
 have w:=H h.lk.b Z;have ao:=h.bl.grown v h.bl.size (λk A=>(E k A).2);have am:Ax d.heap.size d (a.setCell (aj lb 1) b):=ao.setCell h.lo.1 _;have set:∀{q:Nat}{s:zAV}{n:TypeId},a.heap[q]?=Q (.cells s n (0,0))->n≠157->(a.setCell (aj lb 1) b).heap[q]?=Q (.cells s n (0,0)):=λi F=>
  (jg (λe=>by exact ut i w F e)).trans i
 have K:∀{f:A0}{x:Nat}{y:zLV},a.ownsRow d.heap.size 64 1 f x y->(a.setCell (aj lb 1) b).ownsRow d.heap.size 64 1 f x y:=λo=>
  o.kept ⟨R,R,R,by simp[World.setCell],λk A a1=>jg (λe=>a1 (by rw[e]))⟩ (by
   cases G:Br _ with
   |none=>exact .inl R|some k=>exact .inr (λe=>by have⟨⟨af,u⟩,_⟩:=rH o G;obtain rfl:=de e;exact ut w u Z R))
 have ad:im (a.setCell (aj lb 1) b) r N vn (M L) B:=set (H h.bx (sE _).1) (sE _).2.1;have al:=wL h.lk.m<|v.block _ h.lk.m.lt (λe=>by obtain⟨⟨af,u⟩,_⟩:=E _ e.symm;exact ID h.lk.m u R);have ax:sD L (N.ks.take<|M N.ks)=sD L N.ks:=by rw[Lh]
 have C:=h.kr;rw[ax]at C;have ak:∀{f:A0}{x:Nat}{y:zLV},W.ownsRow d.heap.size 64 1 f x y->(f.ownBlock=Y\/f.ownBlock≠vs.ownBlock)->(f.ownBlock=Y\/f.ownBlock≠b.ownBlock):=λo G=>by
  obtain e|e:=G
  .exact .inl e
  .rename_i f x y;cases i:f.ownBlock with
   |none=>exact .inl R|some k=>
    have:=(o.lt k i).2;obtain e2|e2:=ar
    .rw[e2,<-i];exact .inr e
    .rw[e2];exact .inr (by simp[mw];omega)
 refine⟨w,⟨aD a lb 1 _ _ _ w,wL al<|jg (λe=>by exact ID al w e),av.keep am⟩,⟨?_,?_,?_,?_,?_⟩,ad,am⟩
 .rw[aG,ej];exact K o
 .intro c j hx;obtain g|g:=cG c<|M L
  .rw[nH g]at hx;exact set (H (h.ns.box c j hx) (sE _).1) (sE _).2.1
  .rw[jI g]at hx;have⟨t,l⟩:=dr.1 hx;simp at t l;subst l;obtain rfl:c=M L:=O;exact ad
 .intro c j hx;obtain g|g:=cG c<|M L
  .rw[nH g]at hx;rw[List.take_append_of_le_length O];exact K<|(h.ns.kid c j hx).kept v<|h.ns.far j<|db hx
  .rw[jI g]at hx;have⟨t,l⟩:=dr.1 hx;simp at t l;subst l;obtain rfl:c=M L:=O;rw[List.take_left];exact K<|C.kept v h.fr
 .intro j hx;obtain hx|hx:=dg.1 hx
  .have⟨c,a0,ap⟩:=iD hx;exact ak (h.ns.kid c j (by rw[bm a0,ap]))<|h.ns.far j hx
  .obtain rfl:=ic.1 hx;exact ak C h.fr
 .intro c j z hx an;obtain g|g:=cG c<|M L
  .rw[nH g]at hx;exact h.ns.rng c j z hx an
  .rw[jI g]at hx;have⟨t,l⟩:=dr.1 hx;simp at t l;subst l;obtain rfl:c=M L:=O;exact a2 z an
def kinds(a:zLD)(ks:zLI):zLI:=ks.map λb=>(a.getD b.toNat zNd).k
def oy.kids{o}(h:oy W o vs L)(q:L.map Im.N=ns.take (M L)){x}(g:L[i]?=Q x):mh W x.kv (kinds ns x.N.ks):=by
 have e:=h.kid i x g;have l:M (kinds ns x.N.ks)=M x.N.ks:=by simp[kinds]
 have r:=(dr.1 g).1;obtain⟨_,f⟩|⟨_,p,f⟩:=aC e
 .exact .inl ⟨ze O,_,_,f⟩
 .rw[f]at e⊢;refine .inr ⟨_,p,by rw[l],?_,λn s c=>?_⟩
  .rw[l];obtain⟨a,_⟩|⟨_,_,_,a,_,_,d,_⟩:=e.2
   .cases a
   .cases a;exact d
  .unfold kinds at c;rw[cJ]at c;cases hz:x.N.ks[n]? with
   |none=>rw[hz]at c;cases c
   |some d=>
    rw[hz]at c;obtain rfl:=de c;have⟨z0,_⟩:=h.rng i x d g<|db hz;obtain⟨a,j⟩:∃a,L[d.toNat]?=Q a:=⟨L[d.toNat]'(O),bm _⟩;have m:(ns.getD d.toNat zNd)=a.N:=by
     have k:(L.map Im.N)[d.toNat]?=Q a.N:=by rw[cJ,j];rfl
     rw[q,zh,ae O]at k;rw[ed,k];rfl
    have k:=(dr.1 hz).1;refine⟨a.b,?_,?_⟩
    .rw[yF,e.cellAt n O];unfold sD;rw[cJ,hz];simp only[BL];rw[zh,ae O,j,m];rfl
    .show W.cell? (aj a.b 0)=Q (zI (ns.getD d.toNat zNd).k);rw[m];exact(h.box _ a j).cells.1
def aj5:(A1.info? 64).map (λi=>(i.zero,i.size,i.bytes))=Q (Q .nilIface,1,16):=J
def aba(N:Nd):Bool:=decide (0<=N.f/\N.f<=N.t/\0<=N.l/\M N.ks<=200/\M N.nm<=200)
def abb(a:zLD)(i:Nat)(N:Nd):Bool:=
 aba N&&(Hh (xx N<|eG N.k) N&&(klB N.ks i (M N.ks) 0&&(ffB N (M N.ks) (eG N.k)&&kfB N (kinds a N.ks))))
def abc(b:A5)(lb mb:Nat)(L:zLJ)(d:zLD)(N:Nd)(g:A0)(e:Ending)(a:A5):Prop:=
 e= .returned (.bool<|abb d (M L) N)/\Ax b.heap.size b a/\(abb d (M L) N=A3->∃f c,c.N=N/\c.vn=g/\Lk a lb mb f/\oy a b.heap.size f (L++[c]))
def aj6(w lb N f d)(k:bv w f N.nm)(j:dt w d N.ks)(c:iE N)(h:aba N=V):
  Calls A1 68 #[be lb 0,jq N f d] w λe a=>e= .returned (.bool V)/\Ax w.heap.size w a:=by
 have v:=λp=>(ay _ w).alloc eE p;obtain⟨_,_,rfl⟩:=k.form;obtain⟨_,_,rfl⟩:=j.form;have l:=c.l1;have m:=c.l2;unfold aba at h;have a:=jJ h;unfold jq;generalize M N.nm=g at l a⊢;generalize M N.ks=i at m a⊢;obtain⟨_,b,o,n,_,_,_,_,_⟩:=N;simp only at a⊢;by_cases q:b<0
 .clear a;exact giS
 by_cases r:o<b
 .clear a;exact giS
 by_cases s:n<0
 .clear a;exact giS
 by_cases t:(200:Int)<(i:Int)
 .clear a;exact giS
 have u:(200:Int)<(g:Int):=O;exact giS
def adG{b}(d:Ax W.heap.size W b){a}(c:a.block<W.heap.size){r}(h:W.frozen? a=r):b.frozen? a=r:=by
 rw[<-h];exact World.frozen?_of_block<|d.block _ c
def az5{w}(h:bv w vn N.nm)(k):bv w (yv vn<|eG k) (xx N<|eG k).nm:=by
 obtain hc|hc|hc|hc|hc|hc|hc:=Hz k
 .rw[hc];exact h
 .rw[hc];exact .inl ⟨R,_,_,R⟩
 .rw[hc];exact .inl ⟨R,_,_,R⟩
 .rw[hc];exact .inl ⟨R,_,_,R⟩
 .rw[hc];exact .inl ⟨R,_,_,R⟩
 .rw[hc];exact h
 .rw[hc];exact .inl ⟨R,_,_,R⟩
def an4(k)(h:M N.nm<=1048576):(xx N<|eG k).nm.length<=1048576:=by
 obtain hc|hc|hc|hc|hc|hc|hc:=Hz k
 .rw[hc];exact h
 .rw[hc];exact lg _
 .rw[hc];exact lg _
 .rw[hc];exact lg _
 .rw[hc];exact lg _
 .rw[hc];exact h
 .rw[hc];exact lg _
theorem an5(g w)(af:qy g)(a0:Ax g.heap.size g w)(lb mb)(gb:g.heap.size<=lb)(bh L)(h:Lk w lb mb bh)(ey:oy w g.heap.size bh L)(N bF cm)(cb:bv g bF N.nm)(bc:dt g cm N.ks)(a5:iE N)(ex:M L<=3000)(A)(fa:L.map Im.N=A.take (M L))(bt:A[M L]?=Q N)(bz:∀W,Ax g.heap.size g W->B1 A1 W "strings.asciiSpace" .u8 A2)(b8:aba N=A3):
  Calls A1 68 #[be lb 0,jq N bF cm] w (abc g lb mb L A N bF):=by
 have bE:=λW (b6:Ax w.heap.size w W)=>afe W N bF cm (by have⟨b2,a9,k⟩:=cb.form;grind) (by have⟨b2,a9,k⟩:=bc.form;grind);have⟨a6,br⟩:=aw<|abb A (M L) N;unfold abc;rw[br];unfold abb at br;rw[b8,gK]at br;obtain⟨r,s,rfl⟩:=cb.form;obtain⟨ao,ax,rfl⟩:=bc.form;unfold aba at b8;have⟨_,_,_,et,ev⟩:=aL b8;have B:B0 (Lk w lb mb bh/\oy w g.heap.size bh L/\bv g (T r (M N.nm) s) N.nm/\dt g (T ao (M N.ks) ax) N.ks/\iE N/\L.map Im.N=A.take (M L)/\(∀W,Ax g.heap.size g W->B1 A1 W "strings.asciiSpace" .u8 A2)/\qy g/\Ax g.heap.size g w/\A[M L]?=Q N):=⟨h,ey,cb,bc,a5,fa,bz,af,a0,bt⟩;have fz:=ah br;have fF:¬N.f<0:=O;have f0:¬N.t<N.f:=O;have f6:¬N.l<0:=O;unfold jq at bE⊢;have⟨q,c5⟩:=aw<|M N.nm;have⟨m,c6⟩:=aw<|M N.ks;have b0:=fs c5 c6;rw[c5]at bE B ev⊢;rw[c6]at bE B et⊢;have f7:¬(200:Int)<(m:Int):=O;have f8:¬(200:Int)<(q:Int):=O;have gd:=ai B.1.b;go_in;go_wp2_with fail;generalize eF:w.alloc _=eo;have⟨cd,c8,ff⟩:=al1 eF;replace cd:nA w.heap.size eo 37 N (T r q s) (T ao m ax):=cd;apply(bE _ c8).mono;rintro k bj ⟨rfl,bs,c7⟩;rw[ff]at bs⊢;have⟨n,e0⟩:=aw<|w.heap.size+1+1+1;rw[e0]at bs⊢;have ei:=cd.below c7;have a7:=c8.trans<|c7.mono O;have⟨ct,cu,cw,cx,cy,cz,cB,cF,cI,_⟩:=aE ei;have cr:Ax bj.heap.size bj bj.drew:=blW;have da:=((B.2.2.1.below O).below a7).below cr;have an:=Ko _ _ N _ _ 0 U<|bs.below cr;have a4:=λW b6=>Hi W _ N _ fe _ (T ao m ax) ((az5 da N.k).below b6) (da.below b6) U U (an4 _ O) O;obtain⟨_,_,_,fd⟩:∃b2 fq a9,yv (T r q s) (eG N.k)=T b2 fq a9:=by
  unfold yv;grind
 rw[fd]at an a4;unfold jq at an a4;have⟨fx,ds⟩:=aw<|Hh (xx N<|eG N.k) N;rw[ds]at a4;have en:=ah ds;have⟨_,fc⟩:=aw<|xx N<|eG N.k;rw[fc]at an a4 en;have e8:=λw=>H8 N.k n w;have fm:=λw=>eD n w;unfold iF at an⊢;have fB:B0 (nC (eG N.k)=nC (eG N.k)):=rfl;generalize ce:nC (eG N.k)=ch at an e8⊢;go_wp2_with fail;cases fx with
 |false=>
  have E:B0 (V=a6):=U;go_region_held3 (λj=>j.cell? (aj w.heap.size 0)=Q (zI N.k)/\j.cell? (aj w.heap.size 1)=Q (zI N.f)/\j.cell? (aj w.heap.size 2)=Q (zI N.t)/\j.cell? (aj w.heap.size 3)=Q (zI N.l)/\j.cell? (aj w.heap.size 4)=Q (zI N.op)/\j.cell? (aj w.heap.size 5)=Q (zI N.n)/\j.cell? (aj w.heap.size 6)=Q (.string N.x)/\j.cell? (aj w.heap.size 7)=Q (T r q s)/\j.cell? (aj w.heap.size 8)=Q (T ao m ax)) (first|go_keep|exact⟨ag i U,ag i U,ag i U,ag i U,ag i U,ag i U,ag i U,ag i U,ag i U⟩|exact⟨ag d ct,ag d cu,ag d cw,ag d cx,ag d cy,ag d cz,ag d cB,ag d cF,ag d cI⟩) (first|(go_at_call 53;apply an.mono;rintro k fy ⟨rfl,d⟩)|(go_at_call 171;apply(a4 _ d).mono;rintro k cn ⟨rfl,i⟩))
  go_wp2;go_ret;have a:=a7.trans<|(blW.trans<|d.trans<|i.mono d.size).mono a7.size;exact⟨byS,B.2.2.2.2.2.2.2.2.1.trans<|a.mono O,λh=>U⟩
 |true=>
  have fA:B0 ((klB N.ks (M L) (M N.ks) 0&&(ffB N (M N.ks) (eG N.k)&&kfB N (kinds A N.ks)))=a6):=U;go_region_held3 (λj=>j.cell? (aj w.heap.size 0)=Q (zI N.k)/\j.cell? (aj w.heap.size 1)=Q (zI N.f)/\j.cell? (aj w.heap.size 2)=Q (zI N.t)/\j.cell? (aj w.heap.size 3)=Q (zI N.l)/\j.cell? (aj w.heap.size 4)=Q (zI N.op)/\j.cell? (aj w.heap.size 5)=Q (zI N.n)/\j.cell? (aj w.heap.size 6)=Q (.string N.x)/\j.cell? (aj w.heap.size 7)=Q (T r q s)/\j.cell? (aj w.heap.size 8)=Q (T ao m ax)) (first|go_keep|exact⟨ag i U,ag i U,ag i U,ag i U,ag i U,ag i U,ag i U,ag i U,ag i U⟩|exact⟨ag d ct,ag d cu,ag d cw,ag d cx,ag d cy,ag d cz,ag d cB,ag d cF,ag d cI⟩) (first|(go_at_call 53;apply an.mono;rintro k fy ⟨rfl,d⟩)|(go_at_call 171;apply(a4 _ d).mono;rintro k cn ⟨rfl,i⟩))
  have b4:Ax bj.heap.size bj cn:=blW.trans<|d.trans<|i.mono d.size;have b3:=a7.trans<|b4.mono a7.size;have⟨lk,bw,dk,e3,a5,dn,bz,af,a0,bt⟩:=B.out;have eq:=a0.trans<|b3.mono a0.size;have ee:=lk.below b3;have eh:=bw.below b3;have fv:=ei.below b4;have bo:=bs.below b4;have ge:=a0.size;have e:=Fy.start af bw O O O ee eh fv bo eq O;have⟨H,K,bf⟩:=aF eh.row;have es:cn.cell? (aj lb 1)=Q (T H (M L) K):=by rw[<-bf,oe ee.b];rfl
  have c0:=bo.cells.2.2.2.1;have c4:=bo.cells.2.2.2.2.2;have f9:=ai bo;have bk:=ah e;have⟨c,dc⟩:=aw<|M L;rw[dc]at es bk ex;have C:=ah dc;go_wp2_with (go_at_call 404;apply(fm _).mono;rintro k p ⟨rfl,rfl⟩);have⟨fl,c9,dz,d9,ea⟩:=dw aj5;go_loopw [54] (λcl wr=>∃(a:Nat) (ec:_),cl=zI a/\a<=m/\B0 ((klB N.ks c (m-a) a&&(ffB N m (eG N.k)&&kfB N (kinds A N.ks)))=a6)/\B0 (∀o∈N.ks.take a,0<=o/\o<c)/\B0 (Fy g lb mb w.heap.size n bh L N (T r q s) (T ao m ax) ec a wr)) (λcl _=>m-(intOf cl).toNat)
  .
   refine⟨0,_,R,O,?_,λo z=>U,bk⟩;grind
  .
   obtain⟨a,ec,rfl,_,cp,cq,b1⟩:=hrel;have e:=b1.out;have F:=cp.out;by_cases e7:a<m
   .have⟨o,z⟩:=bg b0.2 e7;have⟨_,eL,_⟩:=(B.2.2.2.1.below e.bl).get z;subst eL;have fn:(a:Int)<(m:Int):=O;have fk:(0:Int)<=(a:Int):=O;have c0:=e.bx.cells.2.2.2.1;rw[C.out]at c0;rw[(O:m-a=(m-(a+1))+1),klB,ed,z,li]at F;by_cases al:0<=o/\o<(c:Int)
    .obtain⟨b7,rfl⟩:=iJ al.1;have ew:b7<c:=O;have⟨v,dq⟩:=bg C.out ew;have am:=e.ns.row;rw[C.out]at am;obtain⟨_,_⟩|⟨ad,cs,bf⟩:=aC am
     .omega
     subst bf;have er:wr.cell? (aj lb 1)=Q (bI ad c cs):=crV e.lk.b;have cf:wr.cell? (aj ad b7)=Q (A9 (nC<|eG v.N.k)<|be v.b 0):=by
      rw[am.cellAt b7 O,cJ,dq];rfl
     have⟨u,y,b9⟩:=aF e.kr;subst b9;have ep:=e.bx.cells.2.2.2.2.1;have c4:=e.bx.cells.2.2.2.2.2 5;have cg:=e.kr;have ap:B0 (sD L (N.ks.take<|a+1)=sD L (N.ks.take a)++[A9 (nC<|eG v.N.k)<|be v.b 0]):=by
      show _=_;rw[gD,z];unfold sD;rw[ej];simp[dq,nV,iF]
     have ek:B0 ((klB N.ks c (m-(a+1)) (a+1)&&(ffB N m (eG N.k)&&kfB N (kinds A N.ks)))=a6):=by
      rw[eI al,gK]at F;exact F
     have em:B0 (∀o∈N.ks.take (a+1),0<=o/\o<(c:Int)):=λo dx=>by
      rw[gD,z]at dx;obtain h|h:=dg.1 dx
      .exact cq o h
      .simp at h;subst h;exact al
     have fo:=ai e.lk.b;have e1:=ai e.bx;have fu:=(am.lt ad R).2;have eb:∀b5,(X u a y).ownBlock=Q b5->ahI wr b5:=λb5 bc=>(rH cg bc).1;have gf:Q lb≠(X u a y).ownBlock:=λk=>by obtain⟨a9,ba⟩:=eb _ k.symm;exact ut e.lk.b ba Z R
     have eg:Q n≠(X u a y).ownBlock:=λk=>by obtain⟨a9,ba⟩:=eb _ k.symm;exact ut e.bx ba (sE _).1 R
     have gn:Q ad≠(X u a y).ownBlock:=λk=>by
      obtain e2|e2:=e.fr
      .rw[e2]at k;cases k
      .exact e2 k.symm
     have fg:=e.bl.size;have el:B0 (nC (eG v.N.k)=nC (eG v.N.k)):=rfl;generalize nC (eG v.N.k)=ca at cf ap el;generalize v.b=cc at cf ap;have a8:=λG=>eC<|(ay _ wr).alloc eE G;simp only[zI,bI,be,aj]at *;go_wp2_with fail;go_region_law (refine step_append_lies _ byR _ _ _ byR _ 64 _ _ 1 _ Tryz.underlying126 c9 dz d9 ea R O _ a _ byR ((cg.alloc _).drew) ⟨wr.heap.size,0,Y⟩ 1 1 [A9 ca<|be cc 0] byR byR (World.news_of_block (cs:=#[A9 ca<|be cc 0]) (t:=64) (fr:=(0,0))<|au wr _) (by simp[Value.oneCell']) O byM O lr (wr.heap.size+1) I ?_;intro _ _ p bd bb ar _;have e9:=(bb.cell_far ⟨n,5,Y⟩ lr eg).trans<|ag (a8 _) ep;have fb:=(bb.frozen_far ⟨n,5,Y⟩ lr eg).trans<|adG (a8 _) e1 c4)
     all_goals
      go_wp2_with fail;have⟨_,bw,_,_,_,_,_,af,_,_⟩:=B.out;have e6:=b1.below<|a8<|.cells #[A9 ca<|be cc 0] 64;rw[<-ap.out]at bd;have⟨_,stB⟩:=e6.kid af bb bd ar I;exact⟨⟨a+1,_,by go_num,O,ek,em,stB⟩,by simp[intOf];omega⟩
    .have E:B0 (V=a6):=by rw[bq al,gJ,gJ]at F;exact F
     have v:=e.bl;by_cases ad:o<0
     .clear F e b1 cp z;go_wp2;go_ret;exact⟨by rw[<-E.out];rfl,v,λh=>by rw[<-E.out]at h;cases h⟩
     .have am:¬o<(c:Int):=O;go_wp2;go_ret;exact⟨by rw[<-E.out];rfl,v,λh=>by rw[<-E.out]at h;cases h⟩
   .obtain rfl:a=m:=O;rw[iI,klB,gK]at F;have⟨u,y,b9⟩:=aF e.kr;subst b9;have⟨H,K,bf⟩:=aF e.ns.row;subst bf;rw[C.out];have er:wr.cell? (aj lb 1)=Q (T H c K):=by rw[<-C.out,oe e.lk.b];rfl
    have dq:=e.ns.row;rw[C.out]at dq;have fg:=e.bl.size;have fo:=ai e.lk.b;have a8:=λG=>(ay _ wr).alloc eE G;have bk:=ah e;have el:=ah F;have em:=ah dq;have⟨_,bw,dk,e3,a5,dn,bz,af,a0,bt⟩:=B.out;have ek:B0 (∀G p z v,(wr.alloc G).grownBy p (X H c K).ownBlock->p.ownsRow g.heap.size 64 1 (T (Q ⟨z,0,Y⟩) (c+1) v) (c+1) (L.map nV++[A9 ch<|.pointer<|Q ⟨n,0,Y⟩])->((X (Q ⟨z,0,Y⟩) (c+1) v).ownBlock=(X H c K).ownBlock\/(X (Q ⟨z,0,Y⟩) (c+1) v).ownBlock=Q (wr.alloc G).heap.size)->
      p.heap[lb]?=Q (.cells #[.map<|Q mb,T H c K] 157 (0,0))/\Lk (p.setCell (aj lb 1)<|bI z (c+1) v) lb mb (bI z (c+1) v)/\oy (p.setCell (aj lb 1)<|bI z (c+1) v) g.heap.size (bI z (c+1) v) (L++[⟨N,n,T r q s,T u a y⟩])/\im (p.setCell (aj lb 1)<|bI z (c+1) v) n N (T r q s) c (T u a y)/\Ax g.heap.size g (p.setCell (aj lb 1)<|bI z (c+1) v)):=by
     intro G p z v ad al ar;have ap:=bk.below<|a8 G;have cc:=C.out;have ca:=b0.2;subst ca;subst cc;have am:∀o∈N.ks,0<=o/\o<(M L:Int):=by
      have:=cq.out;rw[Lh]at this;exact this
     refine ap.done af am ad ?_ ar;unfold iF;rw[ce];exact al
    go_wp2_with (at_builtin;refine wpList_append_own_at _ R _ _ 126 R g.heap.size 64 fl _ 1 16 Tryz.underlying126 c9 dz d9 ea R Z _ _ _ R (em.alloc _) ⟨wr.heap.size,0,Y⟩ 1 1 [A9 ch<|be n 0] rfl R (World.news_of_block (cs:=#[A9 ch<|be n 0]) (fr:=(0,0))<|au wr _) (by intro _ dx;simp at dx;subst dx;rfl) byM O lr ?_;intro _ p bd bb _ eL;obtain⟨z,v,rfl⟩:=ownsRow_succ bd;obtain⟨eb,cf,cg,b5,ap⟩:=ek.out _ p z v bb bd eL;have gf:p.cell? (aj lb 1)=Q (T H c K):=by {rw[oe eb];rfl};have gn:p.frozen? (aj lb 1)=V:=frR eb);generalize p.setCell (aj lb 1) (bI z (c+1) v)=ep at cf cg b5 ap⊢;have cc:=C.out;have ca:=b0.2;have fk:(L++[⟨N,n,T r q s,T u a y⟩])[c]?=Q ⟨N,n,T r q s,T u a y⟩:=by rw[<-cc];simp
    have fb:(L++[(⟨N,n,T r q s,T u a y⟩:Im)]).map Im.N=A.take (M<|L++[(⟨N,n,T r q s,T u a y⟩:Im)]):=by
     rw[ej,dn,aG,agi,gD,bt];rfl
    have e1:=cg.kids fb fk;have am:=JC ep lb mb _ cf n N (T r q s) c u a y O (dk.below ap) a5.l1 a5.ls a5.lx b5;unfold iF at am;rw[ce]at am;have al:=el.out;cases hfb:ffB N a (eG N.k) with
    |false=>
     rw[hfb]at am al;rw[gJ]at al;have E:=ah al;refine am.mono ?_;rintro k eg ⟨rfl,ad⟩;have ar:=ap.trans<|ad.mono ap.size;clear al hfb am;go_wp2;go_ret;exact⟨by rw[<-E.out];rfl,ar,λh=>by rw[<-E.out]at h;cases h⟩
    |true=>
     rw[hfb]at am al;rw[gK]at al;have e9:eG N.k=1->0<=N.n/\N.n<=200:=λba=>by
      rw[ba]at hfb;have:=aL (show decide (1<=N.n/\N.n<(a:Int))=A3 from hfb);omega
     refine am.mono ?_;rintro k eg ⟨rfl,ad⟩;have ar:=ap.trans<|ad.mono ap.size;have fn:=cf.below ad;have fu:=cg.below ad;have e6:M (kinds A N.ks)<=1048576:=by unfold kinds;rw[dm,ca];omega
     have E:=adp eg n N (T r q s) (T u a y) c (kinds A N.ks) (e1.below ad) e6 (λW ew=>bz W<|ar.trans<|ew.mono ar.size) (b5.below ad) e9;rw[al]at E;unfold iF at E;rw[ce]at E;go_wp2_with (go_at_call 173;refine E.mono ?_;rintro k _ ⟨rfl,b7⟩);go_ret;exact⟨R,ar.trans<|b7.mono ar.size,λ_=>⟨_,_,R,R,fn.below b7,fu.below b7⟩⟩
def an6(a w)(o:qy a)(b:Ax a.heap.size a w)(lb mb)(q:a.heap.size<=lb)(f L)(h:Lk w lb mb f)(m:oy w a.heap.size f L)(N d e)(j:bv a d N.nm)(i:dt a e N.ks)(k:iE N)(l:M L<=3000)(c)(r:L.map Im.N=c.take (M L))(p:c[M L]?=Q N)(s:∀W,Ax a.heap.size a W->B1 A1 W "strings.asciiSpace" .u8 A2):
  Calls A1 68 #[be lb 0,jq N d e] w (abc a lb mb L c N d):=by
 cases hf:aba N with
 |true=>exact an5 a w o b lb mb q f L h m N d e j i k l c r p s hf|false=>
  refine dd (aj6 w lb N d e (j.below b) (i.below b) k hf) λ_ n=>?_;have g:abb c (M L) N=V:=by unfold abb;rw[hf,gJ]
  exact⟨by rw[g],b.trans<|n.mono b.size,λh=>by rw[g]at h;cases h⟩
def an7{S n}(hS:JA S)(b:M S=n)(e:1<=n):S.getD (n-1) 0≠(n:Int)↔S.getD (n-1) 0<(n:Int):=by
 obtain⟨c,a⟩:=bg b (O:n-1<n);have d:=hS _ c a;rw[ed,a,li];omega
theorem afF(x):DH x=decide (x=zE0):=by
 unfold DH;rw[iH];by_cases a:x=zE0
 .grind
 .rw[bq a,bq];intro _;apply a;cases x
  simp_all
theorem Bk(N):Hh (xx N<|eG N.k) N=(match eG N.k with
  |0=>bC N V V V A3|1=>bC N V A3 V V|2=>bC N V A3 V V|3=>bC N V V A3 V|4=>bC N A3 V V V|5=>bC N A3 V V A3&&(N.op==0||N.op==1)|_=>bC N V V V V):=by
 have g:∀(d e f:Bool)(P a b c:Prop) [Decidable P] [Decidable a] [Decidable b] [Decidable c],decide (P/\a/\b/\c)=(decide P&&decide a&&decide b&&decide c):=λd e f P a b c _ _ _ _=>by
  grind
 have i:decide ((0:Int)=N.op)=(N.op==0):=by
  grind
 have h:decide ((0:Int)=N.n)=(N.n==0):=by
  grind
 have j:decide ((zE0:Bz)=N.x)=DH N.x:=by
  grind [afF]
 grind [List,ByteArray,Hh,bC,Hz,xx]
theorem oE(a ks):M (kinds a ks)=M ks:=by simp[kinds]
theorem an8(a N j)(h:j<M N.ks):(kinds a N.ks)[j]?=Q (gC a N j):=by
 grind [kinds,gC]
def afG(K):io [] K=K.isEmpty:=rfl
theorem aic(i K):io [(i,1)] K=K.all (ms i):=by
 rw[io,aa O,afG];have b:tkN i 1 K=M (K.takeWhile<|ms i):=by rfl
 rw[b]
 induction K with
 |nil=>rfl|cons a d c=>
  cases h:ms i a with
  |false=>simp_all|true=>
   rw[agj O,List.all_cons,h,gK,dD,List.drop_succ_cons];exact c byR
theorem ayh(i f)(b:f≠1)(a)(r:zLI):tkN i f (a::r)=ite (ms i a=A3) 1 0:=by
 unfold tkN;rw[aa b];cases h:ms i a with
 |false=>simp_all|true=>simp_all
theorem abd(i b a)(r:zLI):io ((i,0)::b) (a::r)=(ms i a&&io b r):=by
 grind [io,ayh]
def aid(i a):io ((i,0)::a) []=V:=by
 rfl
theorem avo(i b a)(r:zLI):io ((i,2)::b) (a::r)=ite (ms i a=A3) (io b r) (io b (a::r)):=by
 grind [io,ayh]
def art(i a):io ((i,2)::a) []=io a []:=by
 rfl
theorem avp(n):∀(K:zLI),n<M K->io (JB n) K=((K.take n).all (ms 5)&&(K.drop n).all (ms 3)):=by
 induction n with
 |zero=>
  intro K b
  match K,b with
  |a::c,_=>
   show io ((3,0)::[(3,1)]) (a::c)=_;rw[abd,aic];simp
 |succ n d=>
  intro K b
  match K,b with
  |a::c,b=>
   grind [io,JB,abd]
theorem vC(a N j)(h:j<M N.ks):gC a N j=(kinds a N.ks).getD j 0:=by
 grind [an8]
theorem Dl(K:zLI)(p f j)(h:j+(f+1)<=M K):((K.drop j).take<|f+1).all p=(p (K.getD j 0)&&((K.drop<|j+1).take f).all p):=by
 grind [List.drop_eq_getElem_cons,List.getElem?_eq_getElem]
theorem afH(a N):∀f j,j+f<=M N.ks->mK a N f j=(((kinds a N.ks).drop j).take f).all gh
 |0,j,_=>by rfl|f+1,j,h=>by
  rw[mK,afH a N f _ O,Dl _ _ _ _ (by grind [oE]),vC a N j O]
theorem an9(a N):∀f j,j+f<=M N.ks->sbB a N f j=(((kinds a N.ks).drop j).take f).all jE
 |0,j,_=>by rfl|f+1,j,h=>by
  rw[sbB,an9 a N f _ O,Dl _ _ _ _ (by grind [oE]),vC a N j O]
theorem aoa(a N):∀f j,j+f<=M N.ks->tgB a N f j=(((kinds a N.ks).drop j).take f).all xj
 |0,j,_=>by rfl|f+1,j,h=>by
  rw[tgB,aoa a N f _ O,Dl _ _ _ _ (by grind [oE]),vC a N j O]
theorem aob(a N):∀f j,j+f<=M N.ks->enB a N f j=(((kinds a N.ks).drop j).take f).all (ms 9)
 |0,j,_=>by rfl|f+1,j,h=>by
  rw[enB,aob a N f _ O,Dl _ _ _ _ (by grind [oE]),vC a N j O];rfl
theorem aru(k):ms 5 k=xj k:=by
 grind [ms,xj]
def Av(a:zLD)(N:Nd):Bool:=Hh (xx N<|eG N.k) N&&(ffB N (M N.ks) (eG N.k)&&kfB N (kinds a N.ks))
theorem ayi(a N)(hk:N.k=3\/N.k=4\/N.k=6\/N.k=7\/N.k=8\/N.k=9\/N.k=10\/N.k=11\/N.k=12\/N.k=14\/N.k=15\/N.k=16\/N.k=20\/N.k=21\/N.k=22\/N.k=23\/N.k=24\/N.k=25\/N.k=26\/N.k=27\/N.k=28\/N.k=29\/N.k=30\/N.k=31\/N.k=32\/N.k=33\/N.k=36\/N.k=37\/N.k=40\/N.k=41\/N.k=42)(f:M N.nm<=200):Av a N=pG a N:=by
 have b:=oE a N.ks;have c:=vC a N;have e:gh 1=V:=rfl;unfold Av kfB rkB;rw[Bk];revert b c;generalize kinds a N.ks=d;intro b c;obtain hk|hk|hk|hk|hk|hk|hk|hk|hk|hk|hk|hk|hk|hk|hk|hk|hk|hk|hk|hk|hk|hk|hk|hk|hk|hk|hk|hk|hk|hk|hk:=hk;all_goals
  obtain _|⟨_,_|⟨_,_|⟨_,_|⟨_,_|⟨_,_⟩⟩⟩⟩⟩:=d;all_goals
   simp at b;simp[pG,jE,stB,jA,eG,afl,ffB,txB,Ig,hk,<-b,c,mK,gi,abd,aid,afG,avo,art,ms]<;>grind
theorem ayj(a N)(hk:N.k=1\/N.k=2\/N.k=13\/N.k=34\/N.k=35)(j:M N.nm<=200):Av a N=pG a N:=by
 have c:=oE a N.ks;have f:=vC a N 0;have e:=afH a N (M N.ks) 0 O;have d:=an9 a N (M N.ks) 0 O;have b:=aob a N (M N.ks) 0 O;have h:ms 0=jE:=rfl;have i:ms 3=gh:=rfl;rw[<-c]at e d b f;rw[iq,Lh]at e d b;unfold Av kfB rkB;rw[Bk,<-c];revert c f e d b;generalize kinds a N.ks=g;intro c f e d b;obtain hk|hk|hk|hk|hk:=hk;all_goals
  obtain _|⟨_,_⟩:=g;all_goals
   simp at c f;simp only[dD,List.all_cons,jl,List.all_nil]at e d b;simp[pG,jE,stB,jA,eG,afl,ffB,txB,Ig,hk,e,d,b,h,i,<-c,f,gi,aic,abd,aid,afG,ms]<;>grind
theorem ayk(a N)(b:N.k=5)(f:M N.nm<=200):Av a N=pG a N:=by
 have c:eG N.k=1:=by rw[b];rfl
 have d:pG a N=(bC N V A3 V V&&(decide (1<=N.n/\N.n<(M N.ks:Int))&&(tgB a N N.n.toNat 0&&mK a N (M N.ks-N.n.toNat) N.n.toNat))):=by
  unfold pG;rw[ae (by rw[b];rfl)];grind [stB]
 unfold Av kfB;rw[Bk,c,d,ae rfl];simp only[ffB];by_cases e:1<=N.n/\N.n<(M N.ks:Int)
 .rw[eI e,gK,gK,avp _ _ (by rw[oE];omega),aoa a N _ _ O,afH a N _ _ O]
  congr 1
  congr 1
  .grind [aru]
  .have:(kinds a N.ks).drop N.n.toNat=((kinds a N.ks).drop N.n.toNat).take (M N.ks-N.n.toNat):=by
    grind [List.take_of_length_le,List.length_drop,oE]
   rw[<-this];rfl
 grind
theorem avq(a N)(h:N.k ∉ qi)(c:N.k≠5):Av a N=pG a N:=by
 have d:=(aay _ h).1;simp[qi,not_or]at h;have e:jE N.k=V:=by grind [jE]
 have b:pG a N=V:=by
  simp_all [pG,aa,jA]
 grind [eG,rkB,kinds,Av,kfB]
theorem aoc(a N)(c:M N.nm<=200):Av a N=pG a N:=by
 by_cases b:N.k∈qi
 .simp[qi,rl]at b;grind [ayj,ayi]
 grind [ayk,avq]
theorem afI(f N)(g:200<M N.nm):pG f N=V:=by
 have h:∀b c d,bC N b c d V=V:=λb c d=>by grind [bC]
 have i:∀e a,a<=200->gi N e a=V:=λe a _=>by grind [gi]
 simp_all [pG,stB,jA]
theorem arv(a i N):abb a i N=kK a i N:=by
 unfold abb kK;by_cases b:M N.nm<=200
 .have d:aba N=adt N:=by
   grind [aba,adt]
  have c:=aoc a N b;grind [Av]
 simp_all [aba,afI,gJ,FD];omega
section
variable {w : World} {lo e size n m c g : Nat} {a : zOA} {v : Value} {L : zLM} {xs : zLV}
def afJ(o:w.ownsRow lo e size (T a n c) m xs):n<=c/\∀b,a=Q b->b=⟨b.block,b.off,Y⟩:=by
 obtain⟨d,_⟩|⟨_,_,_,d,_,_,f,_⟩:=o.2
 .cases d;exact⟨O,λb d=>by cases d⟩
 .cases d;exact⟨f,λb d=>by cases d;rfl⟩
def wu.lw{c}(h:wu w lo c v L):Lw w lo v L:=⟨h.row,λb a=>⟨(h.each b a).on,(h.each b a).ok⟩⟩
theorem Lw.ex(h:Lw w lo (T (Q ⟨g,0,Y⟩) n c) L)(a:(L.map Mb.N)[i]?=Q N):∃x∈L,x.N=N/\w.cell? ⟨((⟨g,0,Y⟩:Addr).add<|i*9).block,((⟨g,0,Y⟩:Addr).add<|i*9).off+7,Y⟩=Q x.vn/\w.cell? ⟨((⟨g,0,Y⟩:Addr).add<|i*9).block,((⟨g,0,Y⟩:Addr).add<|i*9).off+8,Y⟩=Q x.vk:=by
 rw[cJ]at a;cases hx:L[i]? with
 |none=>rw[hx]at a;cases a
 |some x=>
  rw[hx]at a;have j:M L=n:=by obtain⟨_,_,d⟩:=aF h.row;simp at d;exact d.2.1.symm
  have b:=h.row;rw[j]at b;obtain⟨_,_,_,_,_,_,_,e,f⟩:=qa b hx;rw[show(⟨g,0,Y⟩:Addr).add (i*9)=⟨g,i*9,Y⟩ by unfold Addr.add;split<;>simp_all];exact⟨x,db hx,de a,e,f⟩
def Lw.cap(h:Lw w lo (bI g n c) L):D5 w ⟨g,0,Y⟩ (L.map Mb.N):=by
 intro _ N _ _ e a;obtain⟨i,f,rfl,_,d⟩:=h.ex e;rw[d]at a;have b:=(h.each i f).2;rw[de a]at b;exact(afJ b).1
def Lw.strj(h:Lw w lo v L):∀(a)(n c i)(N)(vn),v=T (Q a) n c->(L.map Mb.N)[i]?=Q N->w.cell? ⟨(a.add<|i*9).block,(a.add<|i*9).off+7,Y⟩=Q vn->vB vn:=by
 intro a n c i N vn b l f g _ _ k;obtain⟨_,d⟩|⟨_,_,d⟩:=aC h.row
 .rw[d]at b;cases b
 rw[d]at b h;cases b;obtain⟨o,m,_,j,_⟩:=h.ex l;rw[j]at f;have e:=(h.each o m).1;rw[de f,k]at e;exact⟨(afJ e).1,(afJ e).2 g R⟩
end
