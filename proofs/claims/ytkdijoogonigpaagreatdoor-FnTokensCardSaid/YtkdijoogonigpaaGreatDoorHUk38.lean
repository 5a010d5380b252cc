import Derived.Test.YtkdijoogonigpaaGreatDoorHUk19
import Derived.Test.YtkdijoogonigpaaGreatDoorHUk36
set_option linter.all false
set_option maxRecDepth 100000
set_option maxHeartbeats 6400000
open Go.Value renaming slice->M,int->Q,string->T,pointer->W,tuple->Y
open Option renaming some->O,none->S
open Go.IntKind renaming i64->R
open Go.Obj renaming cells->U
open Go renaming World->V,Value->Z,Calls->Ax
namespace Go.Proofs.YtkdijoogonigpaaGreatDoor
open Go.RowKit Go.Maps Go.WideMaps
theorem Ai:∀(n u:Nat),1<=n->u<10 ^ n->Lib.nDigits u<=n
 |0,u,a,_=>by omega
 |n+1,u,_,b=>by
  by_cases a:u<10
  ·rw[Lib.nDigits_small a];omega
  ·rw[Lib.nDigits_big a];rw[Nat.pow_succ]at b;have c:1<=n:=by
    rcases jk n with g|g
    ·subst g;simp at b;omega
    ·exact g
   have:=Ai n (u / 10) c (by omega);omega
theorem Kl(s:ByteArray)(p:Nat):∀(n u:Nat),(∀i,i<n->aL (ao s (p+i))=true)->kH s p n=O u->u<10 ^ n
 |0,u,_,a=>by rw[kH]at a;simp at a;subst a;simp
 |n+1,u,b,a=>by
  rw[kH]at a;cases e:kH s p n with
  |none=>rw[e]at a;cases a
  |some x=>
   rw[e]at a;simp only at a;have:=Kl s p n x (fun i c=>b i (by omega)) e;have d:=dl (b n (by omega));split at a
   ·simp at a;rw[Nat.pow_succ];omega
   ·cases a
theorem tc(s:ByteArray):∀(f p:Nat)(b:List Int),(∀c∈b,0<=c/\c<256)->p<=s.size->∀c∈(bH s f p b).2.2,0<=c/\c<256
 |0,p,b,a,_=>a
 |f+1,p,b,a,g=>by
  rw[bH];split
  ·exact a
  rename_i e;split
  ·exact a
  split
  ·exact a
  split
  ·have d:=qK s (p+1) (by omega);split
   ·refine tc s f _ _ (fun c hc=>?_) d.2.1;rcases List.mem_append.1 hc with hc|hc
    ·exact a c hc
    ·rw[List.mem_singleton.1 hc];exact d.2.2
   ·exact a
  ·refine tc s f _ _ (fun c hc=>?_) (by omega);rcases List.mem_append.1 hc with hc|hc
   ·exact a c hc
   ·rw[List.mem_singleton.1 hc];exact fG (by omega)
theorem Km(l:List Int)(g:∀c∈l,0<=c/\c<256):(co (bG (co l))).size=sE l+2:=by
 rw[kF,yc];unfold qt;have d:((co l).data.toList.take (co l).size)=l.map (fun a=>UInt8.ofNat a.toNat):=by
  rw[cC (by rw[cJ];exact ag _),pg]
 rw[d];simp only[db,List.length_flatMap];have e:((l.map fun a=>UInt8.ofNat a.toNat).map fun b=>(esc (b.toNat:Int)).length)=l.map fun c=>(esc c).length:=by
  rw[List.map_map];apply List.map_congr_left;intro c h;have:=g c h;simp only[Function.comp];have f:((UInt8.ofNat c.toNat).toNat:Int)=c:=by rw[UInt8.toNat_ofNat_of_lt' (by show c.toNat<256;omega)];omega
  rw[f]
 rw[e];unfold sE;omega
theorem Kn{s:ByteArray}{k:Nat}(b:oa cK s 22 0=O k):(dh (10+(k:Int))).size=s.size:=by
 obtain⟨d,e,c⟩:=js cK s 22 0 k b;have a:dh (10+(k:Int))=bi cK k:=by
  unfold dh;rw[aa (by omega),aa (by omega),ab (by omega),show(10+(k:Int)-10).toNat=k by omega]
 rw[a];have:=congrArg List.length c;rw[eo,eo,cJ,cJ]at this;exact this
theorem ad2(v:Nat)(b:v<18446744073709551616):(wrap64 (v:Int)<0->9223372036854775808<=v)/\(¬wrap64 (v:Int)<0->(wrap64 (v:Int)).toNat=v):=by
 unfold wrap64;constructor<;>intro a<;>omega
theorem ad3(v m:Nat)(n:1<=m)(f:v<16 ^ m)(h:v<18446744073709551616)(g:m<=15->v<1152921504606846976):(fh 2 (wrap64 (v:Int)) ⟨#[]⟩).size+1<=2*(m+2):=by
 have d:fh 2 (wrap64 (v:Int)) ⟨#[]⟩=lr (wrap64 (v:Int)):=by unfold fh;rw[aa (by decide),ab rfl]
 rw[d];obtain⟨w1,c⟩:=ad2 v h;obtain⟨a,i⟩:∃a,wrap64 (v:Int)=a:=⟨_,rfl⟩;rw[i]at w1 c⊢;clear i d;have e:(lr a).size=if a<0 then 18 else(im a.toNat).size:=by
  unfold lr;split
  ·rw[lq]
  ·rfl
 rw[e];by_cases b:a<0
 ·rw[ab b];have:=w1 b;have:¬m<=15:=fun j=>by have:=g j;omega
  omega
 ·rw[aa b,c b,sD];have k:v<10 ^ (2*m):=by
   rw[Nat.pow_mul];exact eI f (Nat.pow_le_pow_left (by decide) m)
  clear f h g w1 c b e;have l:=Ai (2*m) v (by omega) k;omega
theorem ad4{s:ByteArray}{q:Nat}(G:q<s.size)(d:(bB s q).ok=true):(fh (bB s q).k (bB s q).n (bB s q).x).size+1<=uR s q (bB s q).a:=by
 have b:=gb s q G d;have L:=BE s q (bB s q).a;have j:iH.size=0:=rfl
 suffices l:(fh (bB s q).k (bB s q).n (bB s q).x).size<=(bB s q).a-q\/(fh (bB s q).k (bB s q).n (bB s q).x).size+1<=2*((bB s q).a-q)\/(fh (bB s q).k (bB s q).n (bB s q).x).size+1<=uR s q (bB s q).a by omega
 clear L;revert d b;unfold bB;split
 ·intro _ b;refine .inl ?_;have g:(s.extract q (jy s (s.size+1) q)).size=jy s (s.size+1) q-q:=gk s q _ b.2.1;unfold si;simp only;cases e:oa cK (s.extract q (jy s (s.size+1) q)) 22 0 with
  |some k=>
   simp only;have i:fh (10+(k:Int)) 0 ⟨#[]⟩=dh (10+(k:Int)):=by unfold fh;rw[aa (by omega),aa (by omega),aa (by omega),aa (by omega)]
   rw[i,Kn e,g];exact ag _
  |none=>
   simp only;unfold fh;rw[ab rfl];split
   ·rw[g];exact ag _
   ·rw[j];exact aG _
 split
 ·rename_i z;split
  ·rename_i r;intro _ b;simp only at b⊢;unfold jp;by_cases f:ao s q=48/\ao s (q+1)=120
   ·rw[ab f];simp only;have v:bD s q=ie s (q+2):=by unfold bD;rw[ab f]
    rw[v]at r b⊢;obtain⟨e,u⟩:∃e,(ie s (q+2)).1=e:=⟨_,rfl⟩;have av:=ve (s:=s) (p:=q+2) (e:=e) (by rw[<-u,<-r]);rw[u];refine .inr (.inl ?_);obtain⟨c,C⟩:∃c,e-(q+2)=c:=⟨_,rfl⟩;have E:c<=16:=by omega
    have I:=zj s (q+2) c;have ap:1<=c:=by omega
    have K:=zk s (q+2) c E;have J:=Dc s (q+2) c;rw[C];have:=ad3 (mJ s (q+2) c) c (by omega) I K J;omega
   ·rw[aa f];have g:(s.extract q (bD s q).1).size=(bD s q).1-q:=gk s q _ b.2.1;split
    ·rename_i h m;split at m
     ·cases m
     ·rename_i A;have t:=uk s q z (by simpa using A);have am:(bD s q).1=nA0 s q:=by unfold bD;rw[aa f,t.1]
      have B:=Kl s q _ h (fun a0 an=>t.2 _ (by omega) (by omega)) m;have F:=Ai _ h (by omega) B;refine .inl ?_;have i:fh 2 (h:Int) ⟨#[]⟩=im h:=by
       unfold fh lr im;rw[aa (by decide),ab rfl,aa (by omega)];rfl
      simp only;rw[i,sD];exact F
    ·refine .inl ?_;simp only;unfold fh;rw[aa (by decide),aa (by decide),ab rfl];split
     ·rw[g];exact ag _
     ·rw[j];exact aG _
  ·intro d;cases d
 split
 ·rename_i w;split
  ·rename_i H;intro _ b;refine .inr (.inr ?_);simp only at b⊢;obtain⟨a1,a2⟩:=Dx s _ _ _ H (by omega);unfold fh IA;rw[aa (by decide),aa (by decide),aa (by decide),ab rfl];rw[jC s (show q<=q+1 by omega) (by omega),zH,w];have ak:sE []=0:=rfl;have al:uw 34=2:=by decide
   split
   ·rw[j];omega
   ·rw[Km _ (tc s _ _ _ (fun af y=>by cases y) (by omega))];omega
  ·intro d;cases d
 ·split
  ·intro d;cases d
  ·rename_i l;intro _ b;have o:=(un (s.extract q s.size) (by rw[gk s q s.size (ag _)];omega) l).1;simp only at b⊢;generalize jz (s.extract q s.size)=k at l o b⊢;have:k≠1/\k≠2/\k≠3/\k≠4:=by refine⟨?_,?_,?_,?_⟩<;>(rintro rfl;exact absurd o (by decide))
   unfold fh;rw[aa this.1,aa this.2.1,aa this.2.2.1,aa this.2.2.2];omega
theorem Ko(s:ByteArray):∀(f p:Nat)(l:Int),p<=s.size->(fK (qu s f p l).2.2).size<=uR s p s.size
 |0,p,l,_=>aG _
 |f+1,p,l,g=>by
  have c:=gC s (s.size+1) p g;rw[qu];split
  ·exact aG _
  ·rename_i h;split
   ·rename_i b;have e:=gb s _ (by omega) b;have i:=Ko s f (bB s (blk s (s.size+1) p)).a (l+(bB s (blk s (s.size+1) p)).d) e.2.1;have j:=ad4 (s:=s) (q:=blk s (s.size+1) p) (by omega) b;simp only[fK,ae];unfold Dv;simp only;rw[jC s c.1 c.2,jC s (show blk s (s.size+1) p<=(bB s (blk s (s.size+1) p)).a by omega) e.2.1];show _+1+_<=_;omega
   ·exact aG _
theorem Kr(w0:V)(p1:Addr)(n c1:Nat)(ns:List Nd)(a1:bI w0 (M (O p1) n c1) ns)(a2:fI w0 p1 ns)(bj:ns.length=n)(cu:n<=1048576)(tab:Nat)(i:Nat)(cq:i<n)(N:Nd)(a0:nodeI ns i=N)(u:N.k=5)(ct:N.ks.length<=1048576)(m:Nat)(a3:N.n=(m:Int))(cv:1<=m)(cy:m<N.ks.length)(X:ByteArray)(bd:∀v,aJ w0 v (N.ks.take m)->Wr w0 (M (O p1) n c1) tab 109 #[pW w0,v] X)(y:ByteArray)(bf:∀v,aJ w0 v (N.ks.drop m)->Wr w0 (M (O p1) n c1) tab 109 #[pW w0,v] y):
  Wr w0 (M (O p1) n c1) tab 80 #[pW w0,Q R (i:Int)] (X++⟨#[32,61,32]⟩++y):=by
 intro q a w F;obtain⟨r,p,s,b6,g,b,d⟩:=dH a1 a2 (show i<ns.length by omega);rw[a0]at d;have G:=w.lt;obtain⟨z0,b3,b4⟩:=w.cells;have a9:=d.hL;have bb:=d.hM;obtain⟨h,rfl⟩:=d.ks.ptr (by omega);obtain⟨bn,bo,bp,br,bs,bt,bw,bx,bE,_,_⟩:=d.rd a w.bel;have A:Hid (Bx w0 (M (O p1) n c1) tab a N (M r p s) (M (O h) g b) q (a.alloc (fx N (M r p s) (M (O h) g b)))):=Bx.new w N _ _;try simp only[ae]at F
 have cr:(i:Int)<(n:Int):=by omega
 have cs:(0:Int)<=(i:Int):=by omega
 have z:Hid (∀(q:ByteArray)(c:V),Bx w0 (M (O p1) n c1) tab a N (M r p s) (M (O h) g b) q c->c.cell? ⟨a.heap.size,0,S⟩=O (Q R N.k)/\c.cell? ⟨a.heap.size,1,S⟩=O (Q R N.f)/\c.cell? ⟨a.heap.size,2,S⟩=O (Q R N.t)/\c.cell? ⟨a.heap.size,3,S⟩=O (Q R N.l)/\c.cell? ⟨a.heap.size,4,S⟩=O (Q R N.op)/\c.cell? ⟨a.heap.size,5,S⟩=O (Q R (m:Int))/\c.cell? ⟨a.heap.size,6,S⟩=O (T N.x)/\c.cell? ⟨a.heap.size,7,S⟩=O (M r p s)/\c.cell? ⟨a.heap.size,8,S⟩=O (M (O h) g b)):=fun q c e=>⟨e.cells.1,e.cells.2.1,e.cells.2.2.1,e.cells.2.2.2.1,e.cells.2.2.2.2.1,(by rw[<-a3];exact e.cells.2.2.2.2.2.1),e.cells.2.2.2.2.2.2.1,e.cells.2.2.2.2.2.2.2.1,e.cells.2.2.2.2.2.2.2.2⟩;have b7:=bu u 1 rfl;have b8:=bu u 2 rfl;have b9:=bu u 3 rfl;have ca:=bu u 4 rfl;have cb:=gE u 5 rfl;have cc:=d.cap;have ce:¬b=0:=by omega
 have cf:(m:Int)<=(b:Int):=by omega
 have cl:(m:Int)<=(g:Int):=by omega
 have cm:¬b=m:=by omega
 have cp:(0:Int)<=(m:Int):=by omega
 have a4:Hid (Wr w0 (M (O p1) n c1) tab 109 _ (X)):=bd (M (O h) m b) (d.ks.take m (by omega));have a5:Hid (Wr w0 (M (O p1) n c1) tab 81 _ (⟨#[32,61,32]⟩)):=fun a7 a8 bl F=>az w0 _ a7 (⟨#[32,61,32]⟩) _ a8 bl F;have a6:Hid (Wr w0 (M (O p1) n c1) tab 109 _ (y)):=bf (M (O (h.add m)) (g-m) (b-m)) (d.ks.drop m _ (by omega) (by omega));have b5:=ar d;obtain⟨H,I,J,K,L,af,al,am,ap⟩:=z.out _ _ A.out;clear w d a1 a2 a0 bj b4 b3 a9 bb u a3;go_in;go_wp2_with fail;refine(a4.out _ _ A.out.pr (by(try simp only[ae]);omega)).mono ?_;rintro av b0 ⟨rfl,o,j⟩;have B:Hid (Bx w0 (M (O p1) n c1) tab a N (M r p s) (M (O h) g b) (q++(X)) b0):=A.out.next G o j
 obtain⟨H,I,J,K,L,af,al,am,ap⟩:=z.out _ _ B.out;clear o j bn bo bp br bs bt bw bx bE z0;go_wp2_with fail;refine(a5.out _ _ B.out.pr (by(try simp only[ae]);omega)).mono ?_;rintro av b1 ⟨rfl,o,j⟩;have C:Hid (Bx w0 (M (O p1) n c1) tab a N (M r p s) (M (O h) g b) (q++(X)++(⟨#[32,61,32]⟩)) b1):=B.out.next G o j
 obtain⟨H,I,J,K,L,af,al,am,ap⟩:=z.out _ _ C.out;clear o j;go_wp2_with fail;refine(a6.out _ _ C.out.pr (by(try simp only[ae]);omega)).mono ?_;rintro av b2 ⟨rfl,o,j⟩;have E:Hid (Bx w0 (M (O p1) n c1) tab a N (M r p s) (M (O h) g b) (q++(X)++(⟨#[32,61,32]⟩)++(y)) b2):=C.out.next G o j
 obtain⟨H,I,J,K,L,af,al,am,ap⟩:=z.out _ _ E.out;clear o j;go_wp2_with fail;go_end0
 refine⟨rfl,?_,E.out.kq⟩;have:=E.out.pr;simpa only[aB] using this
theorem G5(w0:V)(bj:Z)(ns:List Nd)(E:Int->ByteArray)(t:Int)(bl:Nat)(c9:Kg w0 bj ns E t bl)(a8:bI w0 bj ns)(el:ns.length<=1048576)(N:Nd)(vn vk:Z)(bb:aJ w0 vk N.ks)(k:Nat)(B:N.ks[0]?=O (k:Int))(eh:k<bl)(bw:k<ns.length)(ej:N.ks.length<=1048576)(dc:fj (nodeI ns k).k=true)
  (em:N.op=19) (g:ByteArray) (w:V) (K:Pr w0 bj g t w) (bx:g.size+(GG ns E N).size<=140737488355328):
  Ax Tryz.prog 140 #[W (O ⟨w0.heap.size,0,S⟩),cE N vn vk] w fun e a=>e= .returned (Y #[])/\Pr w0 bj (g++GG ns E N) t a/\Kq w0.heap.size w a:=by
 have bs:Below w.heap.size w (w.alloc (U #[Q R N.k,Q R N.f,Q R N.t,Q R N.l,Q R N.op,Q R N.n,T N.x,vn,vk] 96)):=(aq _ w).alloc (ag _) _;have da:cw w.heap.size (w.alloc (U #[Q R N.k,Q R N.f,Q R N.t,Q R N.l,Q R N.op,Q R N.n,T N.x,vn,vk] 96)) 96 N vn vk:=ax w _;have e7:=K.lt;obtain⟨ew,h,rfl⟩:=bb.form;obtain⟨b,rfl,_⟩:=bb.get B;obtain⟨ex,m,rfl⟩:=a8.form;obtain⟨p2,rfl,_⟩:=a8.get (mf bw);have bt:bz N 0=(k:Int):=by unfold bz;rw[List.getD,B];rfl
 have ek:0<N.ks.length:=by rcases jk N.ks.length with e|e;rw[dL (by omega)]at B;cases B;exact e
 obtain⟨j,L⟩:=aD ns.length;obtain⟨d,a7⟩:=aD N.ks.length;have n:Hid (Pr w0 (M (O p2) j m) g t (w.alloc (U #[Q R N.k,Q R N.f,Q R N.t,Q R N.l,Q R N.op,Q R N.n,T N.x,vn,M (O b) d h] 96))/\Kq w0.heap.size w (w.alloc (U #[Q R N.k,Q R N.f,Q R N.t,Q R N.l,Q R N.op,Q R N.n,T N.x,vn,M (O b) d h] 96))
  /\cw w.heap.size (w.alloc (U #[Q R N.k,Q R N.f,Q R N.t,Q R N.l,Q R N.op,Q R N.n,T N.x,vn,M (O b) d h] 96)) 96 N vn (M (O b) d h)/\aJ w0 (M (O b) d h) N.ks/\N.ks[0]?=O (k:Int)/\bI w0 (M (O p2) j m) ns/\ns[k]?=O (nodeI ns k)):=by
  rw[<-L,<-a7];exact⟨K.below bs,Kq.of_below bs,da,bb,B,a8,mf bw⟩
 obtain⟨u,q⟩:=aD (GG ns E N);rw[q]at bx⊢;unfold GG at q;rw[bt]at q;have cz:Hid (Kg w0 (M (O p2) j m) ns E t bl/\fj (nodeI ns k).k=true):=by rw[<-L];exact⟨c9,dc⟩
 rw[L,a7];rw[L]at el bw;rw[a7]at ek ej;clear K bs da bb B c9 dc a8 L a7;obtain⟨c3,br⟩:=aD (ik ns E k 11);have dg:unS ns N=if adK (nodeI ns k)=true then⟨#[45]⟩++⟨#[32]⟩ else⟨#[45]⟩:=by
  unfold unS;rw[aa (by omega),aa (by omega),aa (by omega),bt]
 rw[dg,br]at q;have c0:=ar br;clear dg br bt;unfold cE;have eF:(N.op==21)=false:=by simp;omega
 have e0:(N.op==22)=false:=by simp;omega
 have e3:(N.op==20)=false:=by simp;omega
 have e4:(0:Int)<(d:Int):=by omega
 have e5:(k:Int)<(j:Int):=by omega
 have e6:(0:Int)<=(k:Int):=by omega
 have eg:g.size+1<=140737488355328:=by
  have:1<=u.size:=by
   rw[<-q,ae];split
   ·rw[ae];show 1<=1+1+_;omega
   ·show 1<=1+_;omega
  omega
 clear em;go_in;go_wp2_with fail;refine(az w0 _ g ⟨#[45]⟩ t _ n.out.1 eg).mono ?_;rintro e i ⟨rfl,a3,b9⟩;have a9:=b9.box n.out.2.2.1 (by omega);obtain⟨dx,d1,d2,d3,d5,bo,d6,d7,d8,d9⟩:=aj a9;obtain⟨er,a6,c4⟩:=(n.out.2.2.2.1.below a3.bel).get n.out.2.2.2.2.1;cases a6;have ea:i.cell? b=O (Q R (k:Int)):=by simpa [Addr.add] using c4
 obtain⟨fa,c5,fc,fb,ee⟩:=(n.out.2.2.2.2.2.1.below a3.bel).get n.out.2.2.2.2.2.2;cases c5;obtain⟨z0,et,ev⟩:=a3.cells;obtain⟨cb,cc,ce,cf,cl,cm,cp,cq,cr,df,dd⟩:=ee;obtain⟨H,J,rfl⟩:=df.form;obtain⟨G,I,rfl⟩:=dd.form;have e8:=au a9;have a4:Hid (Pr w0 (M (O p2) j m) (g++⟨#[45]⟩) t i/\Kq w0.heap.size w i/\cw w.heap.size i 96 N vn (M (O b) d h)):=⟨a3,n.out.2.1.trans b9,a9⟩;have cv:=ar q.symm;generalize c8:nodeI ns k=bn at cb cc ce cf cl cm cp cq cr q;have cy:=ar c8;clear a3 b9 a9 df dd q c4 dx d1 d2 d3 d5 bo d6 d7 d9 c8;generalize bn.nm.length=C at cq;generalize bn.ks.length=F at cr;obtain⟨r,al,av,am,p,ap,a0,eq,ep⟩:=bn;simp only at cb cc ce cf cl cm cp;go_wp2_with fail;go_region_held3 (fun a=>a.cell? ⟨w0.heap.size,0,S⟩=O (M (O p2) j m)/\a.cell? ⟨w.heap.size,8,S⟩=O (M (O b) d h)/\a.cell? b=O (Q R (k:Int))/\a.cell? (p2.add (k*9))=O (Q R r)/\a.cell? ⟨(p2.add (k*9)).block,(p2.add (k*9)).off+1,S⟩=O (Q R al)/\a.cell? ⟨(p2.add (k*9)).block,(p2.add (k*9)).off+2,S⟩=O (Q R av)/\a.cell? ⟨(p2.add (k*9)).block,(p2.add (k*9)).off+3,S⟩=O (Q R am)/\a.cell? ⟨(p2.add (k*9)).block,(p2.add (k*9)).off+4,S⟩=O (Q R p)/\a.cell? ⟨(p2.add (k*9)).block,(p2.add (k*9)).off+5,S⟩=O (Q R ap)/\a.cell? ⟨(p2.add (k*9)).block,(p2.add (k*9)).off+6,S⟩=O (T a0)/\a.cell? ⟨(p2.add (k*9)).block,(p2.add (k*9)).off+7,S⟩=O (M H C J)/\a.cell? ⟨(p2.add (k*9)).block,(p2.add (k*9)).off+8,S⟩=O (M G F I)) (go_keep) (fail)
 have af:Below i.heap.size i (i.alloc (U #[Q R r,Q R al,Q R av,Q R am,Q R p,Q R ap,T a0,M H C J,M G F I] 96)).drew:=bq ((aq _ i).alloc (ag _) _);have bE:cw i.heap.size (i.alloc (U #[Q R r,Q R al,Q R av,Q R am,Q R p,Q R ap,T a0,M H C J,M G F I] 96)).drew 96 ⟨r,al,av,am,p,ap,a0,eq,ep⟩ (M H C J) (M G F I):=ax i _;generalize (i.alloc (U #[Q R r,Q R al,Q R av,Q R am,Q R p,Q R ap,T a0,M H C J,M G F I] 96)).drew=a5 at af bE⊢;have z:Hid (Pr w0 (M (O p2) j m) (g++⟨#[45]⟩) t a5/\Kq w0.heap.size w a5/\cw w.heap.size a5 96 N vn (M (O b) d h)):=⟨a4.out.1.below af,a4.out.2.1.trans (Kq.of_below af),a4.out.2.2.below af⟩;obtain⟨eb,_,_,_,ec,_⟩:=aj bE;simp only at eb ec;have c6:∀(c:V)(A:ByteArray),Pr w0 (M (O p2) j m) (g++A) t c->Kq w0.heap.size w c->cw w.heap.size c 96 N vn (M (O b) d h)->u=A++c3->
   c.cell? ⟨w.heap.size,8,S⟩=O (M (O b) d h)/\c.cell? b=O (Q R (k:Int))/\Ax Tryz.prog 110 #[W (O ⟨w0.heap.size,0,S⟩),Q R (k:Int),Q R 11] c fun e a=>e= .returned (Y #[])/\Pr w0 (M (O p2) j m) (g++u) t a/\Kq w0.heap.size w a:=by
  intro c A s y bo hS;obtain⟨_,_,_,_,_,_,_,_,cs,_⟩:=aj bo;obtain⟨er,a6,ct⟩:=(n.out.2.2.2.1.below s.bel).get n.out.2.2.2.2.1;cases a6;rw[hS,ae]at bx;refine⟨cs,by simpa [Addr.add] using ct,?_⟩;refine(cz.out.1 k 11 _ c eh cz.out.2 (by omega) (by omega) s (by rw[c0.out,ae];omega)).mono ?_;rintro e ff ⟨rfl,dn,en⟩;rw[c0.out,aB,<-hS]at dn;exact⟨rfl,dn,y.trans en⟩
 have cu:Hid (∀(c:V)(A:ByteArray),Pr w0 (M (O p2) j m) (g++A) t c->Kq w0.heap.size w c->cw w.heap.size c 96 N vn (M (O b) d h)->u=A++c3->
   c.cell? ⟨w.heap.size,8,S⟩=O (M (O b) d h)/\c.cell? b=O (Q R (k:Int))/\Ax Tryz.prog 110 #[W (O ⟨w0.heap.size,0,S⟩),Q R (k:Int),Q R 11] c fun e a=>e= .returned (Y #[])/\Pr w0 (M (O p2) j m) (g++u) t a/\Kq w0.heap.size w a):=c6
 have o:=cv.out;rw[cy.out]at o;unfold adK at o;simp only at o;clear c6 af bE cb cc ce cf cl cm cp cq cr z0 et ev d8 ea cv cy a4;have e9:u.size=u.size:=rfl;by_cases v:(r==30&&p==19)=true
 ·rw[ab v]at o;obtain⟨c7,ef⟩:(r==30)=true/\(p==19)=true:=by simpa [aw] using v
  have cF:=ar o;clear v o;go_wp2_with fail;refine(az w0 _ _ ⟨#[32]⟩ t _ z.out.1 (by have:=bx;rw[cF.out,ae,ae]at this;rw[ae];have a6:(⟨#[45]⟩:ByteArray).size=1:=rfl;have c5:(⟨#[32]⟩:ByteArray).size=1:=rfl;omega)).mono ?_;rintro e es ⟨rfl,dk,ca⟩;obtain⟨cs,ct,bd⟩:=cu.out es (⟨#[45]⟩++⟨#[32]⟩) (by rw[<-aB];exact dk) (z.out.2.1.trans ca) (ca.box z.out.2.2 (by omega)) cF.out;clear dk ca;go_wp2_with fail;refine bd.mono ?_;rintro e ds ⟨rfl,s,y⟩;go_wp2_with fail;go_end0
  exact⟨rfl,s,y⟩
 ·rw[aa v]at o;obtain⟨cs,ct,bd⟩:=cu.out a5 ⟨#[45]⟩ z.out.1 z.out.2.1 z.out.2.2 o;clear o;cases c7:(r==30) with
  |true=>
   have ef:(p==19)=false:=by
    cases K:(p==19) with
    |false=>rfl
    |true=>exact absurd (by rw[c7,K];rfl) v
   clear v;go_wp2_with fail;refine bd.mono ?_;rintro e ds ⟨rfl,s,y⟩;go_wp2_with fail;go_end0
   exact⟨rfl,s,y⟩
  |false=>
   clear v;go_wp2_with fail;refine bd.mono ?_;rintro e ds ⟨rfl,s,y⟩;go_wp2_with fail;go_end0
   exact⟨rfl,s,y⟩
theorem G6(w0:V)(a:Z)(ns:List Nd)(E:Int->ByteArray)(t:Int)(c:Nat)(f:Kg w0 a ns E t c)(o:bI w0 a ns)(q:ns.length<=1048576)(N:Nd)(vn vk:Z)(j:aJ w0 vk N.ks)(k:Nat)(i:N.ks[0]?=O (k:Int))(h:k<c)(p:k<ns.length)(m:N.ks.length<=1048576)(g:fj (nodeI ns k).k=true)
  (r:19<=N.op/\N.op<=22) (b:ByteArray) (w:V) (d:Pr w0 a b t w) (l:b.size+(GG ns E N).size<=140737488355328):
  Ax Tryz.prog 140 #[W (O ⟨w0.heap.size,0,S⟩),cE N vn vk] w fun e n=>e= .returned (Y #[])/\Pr w0 a (b++GG ns E N) t n/\Kq w0.heap.size w n:=by
 by_cases e:N.op=19
 ·exact G5 w0 a ns E t c f o q N vn vk j k i h p m g e b w d l
 ·exact Ch w0 a ns E t c f N vn vk j k i h m g (by omega) b w d l
