import Derived.Test.YtoahhnnflblfaaaGreatDoorHVk30
import Derived.Test.YtoahhnnflblfaaaGreatDoorHVk24
import Derived.Test.YtoahhnnflblfaaaGreatDoorHVk20
set_option linter.all false
set_option maxRecDepth 100000
set_option maxHeartbeats 12800000
open Go.Value renaming slice->O,int->U,string->A5,ownBlock->B2,tuple->B4
open Option renaming some->Q,none->A0
open Go.IntKind renaming i64->V
open Go renaming World->Z,Value->A3,ownsRow_succ->B0,Calls->B1,TypeId->B5,maxLen->B6
open Go.RowKit renaming Hid->Ax,Below->A2,intOf->Br
open Go.Obj renaming cells->A1
open ByteArray renaming empty->A4
open Go.Proofs.Tryz renaming prog->A6
open Go.Ending renaming returned->A7
open Go.World renaming news_of_block->A8
open Bool renaming true->A9,false->B3
namespace Go.Proofs.YtoahhnnflblfaaaGreatDoor
open Go.RowKit Go.Maps Go.WideMaps
theorem ab9{ns:List Nd}{E:Int->ByteArray}{S:Int->Nat->ByteArray}{o:Int->ByteArray->ByteArray}{i tab:Nat}(h:SzE ns E S i tab)(d:Szd ns)(q:tab<=9000)(e:i<ns.length)(x:(ad ns i).k=7)
  (u:∀(j:Nat)(w:ByteArray),j<i->(ad ns j).k=7->w.size<=10->(o j w).size+10000<=2000000*sN ns j) (r:ByteArray) (K:r.size<=10):(Az ns E S o (ad ns i) r tab).size+10000<=2000000*sN ns i:=by
 have y:=(je (d.nb i e)).1;have m:=fun z v=>il (d.nb i e) e z v;obtain⟨G,H,I,J,t⟩:=ae7 y x;obtain⟨s,b⟩:=m 0 (by omega);obtain⟨B,a⟩:=m 1 (by omega);have C:=h.e s b.lt;have F:=h.blk d q (gy a.lt) a.len;unfold Az;rw[b.id,a.id,d.at_ i e];simp only[ae];rcases bv (ad ns i).ks.length 3 with g|g
 ·rw[ab g,xy ns (by omega),b.id,a.id];show _+_+1+_+0+_<=_;omega
 ·rw[aa (by omega),ae9 ns (by omega),b.id,a.id];obtain⟨p,c⟩:=m 2 (by omega);rw[c.id]at t⊢;by_cases l:(ad ns p).k=7
  ·rw[ab l];have:=u p ⟨#[32,101,108,105,102,32]⟩ c.lt l (by show 6<=10;omega);show _+_+1+_+_+_<=_;omega
  ·rw[aa l];have:=h.blk d q (gy c.lt) c.len;rw[ae];show _+_+1+_+(6+_)+_<=_;omega
theorem afy{ns:List Nd}{N:Nd}(h:mq ns N=A9):(nm0 N).size<=4000:=by
 unfold nm0;rw[bc];cases e:N.nm[0]? with
 |none=>show 0<=4000;omega
 |some a=>exact Bc h a (dl e)
theorem afz{ns:List Nd}{E:Int->ByteArray}{S:Int->Nat->ByteArray}{F:Int->ByteArray->ByteArray}{i tab:Nat}(h:SzE ns E S i tab)(d:Szd ns)(r:tab<=9000)(b:i<ns.length)
  (am:(ad ns i).k=7->(F (-1) ⟨#[105,102,32]⟩).size+10000<=2000000*sN ns i):(prS ns E S F (ad ns i) tab).size+10000<=2000000*sN ns i:=by
 have g:=(je (d.nb i b)).1;have o:=fun ap an=>il (d.nb i b) b ap an;have t:=fun q p=>(h.kid d (ag _) b q p).1;have nm0:=afy g;have a0:=Hk (ad ns i).nm (Bc g);unfold prS;by_cases H:(ad ns i).k=1
 ·rw[ab H];have:=h.blk d r (ag _) b;omega
 rw[aa H];by_cases w:(ad ns i).k=2
 ·rw[ab w,d.at_ i b];obtain⟨c,l⟩:=JA g w;have:=rp ns E (ad ns i).ks t;simp only[ae];split
  ·show 4+_+0+_<=_;omega
  ·rw[ae];show 4+_+(3+_)+_<=_;omega
 rw[aa w];by_cases x:(ad ns i).k=3
 ·rw[ab x,d.at_ i b];obtain⟨c,l,s⟩:=AL g x;obtain⟨j,a⟩:=o 0 (by omega);rw[qp ns c,a.id];have:=h.e j a.lt;simp only[ae];show 6+_+3+_+_<=_;omega
 rw[aa x];by_cases y:(ad ns i).k=4
 ·rw[ab y,d.at_ i b];obtain⟨c,l,s⟩:=JB g y;obtain⟨j,a⟩:=o 0 (by omega);rw[qp ns c];rw[a.id]at l⊢;have:=h.bod d r (gy a.lt) a.len l;simp only[ae];show 3+_+_+_<=_;omega
 rw[aa y];by_cases af:(ad ns i).k=5
 ·rw[ab af,d.at_ i b,AK ns (ad ns i).ks (ad ns i).n.toNat];have:=rp ns E ((ad ns i).ks.take (ad ns i).n.toNat) (fun q p=>t q (ze p));have:=rp ns E ((ad ns i).ks.drop (ad ns i).n.toNat) (fun q p=>t q (List.mem_of_mem_drop p));simp only[ae];show _+3+_+_<=_;omega
 rw[aa af];by_cases ak:(ad ns i).k=6
 ·rw[ab ak,d.at_ i b];obtain⟨c,l⟩:=Dv g (by omega);obtain⟨j,a⟩:=o 0 (by omega);rw[qp ns c,a.id];have:=h.e j a.lt;omega
 rw[aa ak];by_cases z:(ad ns i).k=7
 ·rw[ab z];exact am z
 rw[aa z];by_cases B:(ad ns i).k=8
 ·rw[ab B,d.at_ i b];obtain⟨c,l,s⟩:=Ba g B;obtain⟨j,a⟩:=o 0 (by omega);obtain⟨G,m⟩:=o 1 (by omega);rw[xy ns c,a.id,m.id];have:=h.e j a.lt;have:=h.blk d r (gy m.lt) m.len;simp only[ae];show 6+_+1+_+_<=_;omega
 rw[aa B];by_cases C:(ad ns i).k=9\/(ad ns i).k=10
 ·rw[ab C,d.at_ i b];have ao:0<(ad ns i).ks.length/\(ad ns i).nm.length<=200:=by
   rcases C with e|e
   ·obtain⟨c,l,s,al⟩:=JC g e;omega
   ·obtain⟨c,l,s,al⟩:=E3 g e;omega
  obtain⟨G,m⟩:=o ((ad ns i).ks.length-1) (by omega);rw[ah1 ns ao.1,m.id];have:=rp ns E ((ad ns i).ks.take ((ad ns i).ks.length-1)) (fun q p=>t q (ze p));have:=h.blk d r (gy m.lt) m.len;have av:(if(ad ns i).k=9 then(⟨#[32,61,32]⟩:ByteArray) else⟨#[32,105,110,32]⟩).size<=4:=by
   split
   ·show 3<=4;omega
   ·show 4<=4;omega
  simp only[ae];show 4+_+_+_+1+_+_<=_;omega
 rw[aa C];by_cases I:(ad ns i).k=11
 ·rw[ab I,d.at_ i b];show 5+_<=_;omega
 rw[aa I];by_cases J:(ad ns i).k=12
 ·rw[ab J,d.at_ i b];show 4+_<=_;omega
 rw[aa J];by_cases K:(ad ns i).k=13
 ·rw[ab K,d.at_ i b];have:=rp ns E (ad ns i).ks t;simp only[ae];split
  ·show 6+0+_<=_;omega
  ·rw[ae];show 6+(1+_)+_<=_;omega
 rw[aa K];by_cases u:(ad ns i).k=14
 ·rw[ab u,d.at_ i b];obtain⟨c,l,s,al⟩:=JD g u;obtain⟨j,a⟩:=o 0 (by omega);obtain⟨G,m⟩:=o 1 (by omega);rw[xy ns c,a.id,m.id];have:=h.blk d r (gy a.lt) a.len;have:=h.blk d r (gy m.lt) m.len;simp only[ae];show 4+_+7+_+1+_+_<=_;omega
 rw[aa u];by_cases v:(ad ns i).k=15
 ·rw[ab v,d.at_ i b];obtain⟨c,l⟩:=Bb g v;obtain⟨j,a⟩:=o 0 (by omega);rw[qp ns c,a.id];have:=h.e j a.lt;simp only[ae];show 6+_+_<=_;omega
 rw[aa v];by_cases L:(ad ns i).k=16
 ·rw[ab L,d.at_ i b];obtain⟨c,l⟩:=Dv g (by omega);obtain⟨j,a⟩:=o 0 (by omega);rw[qp ns c,a.id];have:=h.e j a.lt;simp only[ae];show 6+_+_<=_;omega
 rw[aa L,d.at_ i b];show 0+_<=_;omega
theorem aas{ns:List Nd}(d:Szd ns)(o:∀i:Int,(ad ns i).n<=9223372036854775807):∀(f i tab:Nat),i<ns.length->tab+f<=8000->
  (yc ns f i tab).size+10000<=2000000*sN ns i/\(rD ns f i tab).size+10000<=2000000*sN ns i/\((ad ns i).k=7->∀w:ByteArray,w.size<=10->(xl ns f i w tab).size+10000<=2000000*sN ns i)
 |0,i,tab,g,q=>by
  have:=d.at_ i g;refine⟨?_,?_,fun _ w _=>?_⟩;all_goals (first|(rw[yc];show 0+_<=_;omega)|(rw[rD];show 0+_<=_;omega)|(rw[xl];show 0+_<=_;omega))
 |f+1,i,tab,g,q=>by
  have j:=fun (a e:Nat) (c:a<i) (p:e+f<=8000)=>aas d o f a e (by omega) p;have l:SzE ns (fun k=>yc ns f k tab) (fun k e=>rD ns f k e) i tab:=⟨fun a c=>(j a tab c (by omega)).1,fun a c=>(j a (tab+1) c (by omega)).2.1⟩;have m:(ad ns i).k=7->∀w:ByteArray,w.size<=10->(Az ns (fun k=>yc ns f k tab) (fun k e=>rD ns f k e) (fun k w=>xl ns f k w tab) (ad ns i) w tab).size+10000<=2000000*sN ns i:=fun b w h=>
   ab9 l d (by omega) g b (fun a w c b h=>(j a tab c (by omega)).2.2 b w h) w h
  refine⟨?_,?_,?_⟩
  ·rw[yc];exact afd l d (by omega) g (o _)
  ·rw[rD];exact afz l d (by omega) g (fun b=>m b _ (by show 3<=10;omega))
  ·intro b w h;rw[xl];exact m b w h
theorem J0{ns:List Nd}(d:Szd ns)(k:∀i:Int,(ad ns i).n<=9223372036854775807)(t:ns.length<=3000)(p:0<ns.length):(jl ns).size<=6000000000:=by
 unfold jl;rw[Du,List.map_map];have e:((ns.length:Int)-1)=((ns.length-1:Nat):Int):=by omega
 rw[e];have j:∀a∈(ad ns ((ns.length-1:Nat):Int)).ks,(rD ns ns.length a 0).size+10000<=2000000*sN ns a:=by
  intro a c;obtain⟨l,h,rfl⟩:=oG c;obtain⟨o,b⟩:=il (d.nb _ (by omega)) (by omega) l h;rw[b.id];exact(aas d k ns.length o 0 b.len (by omega)).2.1
 have q:=Jz ns (fun a=>(rD ns ns.length a 0).size) 1 _ j (by omega);have r:=d.at_ (ns.length-1) (by omega);have s:=d.le ((ns.length-1:Nat):Int);have g:((ad ns ((ns.length-1:Nat):Int)).ks.map (ByteArray.size ∘ fun m=>rD ns ns.length m 0++⟨#[10]⟩))=(ad ns ((ns.length-1:Nat):Int)).ks.map fun a=>(rD ns ns.length a 0).size+1:=by
  apply List.map_congr_left;intro a c;simp only[Function.comp];rw[ae];rfl
 rw[g];omega
theorem Hp(w0:Z)(p1:Addr)(n c1:Nat)(ns:List Nd)(s:co w0 (O (Q p1) n c1) ns)(t:jm w0 p1 ns)(G:ns.length=n)(bn:n<=1048576)(tab:Nat)(i:Nat)(bf:i<n)(N:Nd)(r:ad ns i=N)(u:N.k=1)(bl:N.ks.length<=1048576)(Y:ByteArray)(z:Wr w0 (O (Q p1) n c1) tab 64 #[pW w0,U V (i:Int)] Y):
  Wr w0 (O (Q p1) n c1) tab 32 #[pW w0,U V (i:Int)] (Y):=by
 intro d b l E;obtain⟨g,M,j,e,c,h,a⟩:=fG s t (show i<ns.length by omega);rw[r]at a;have F:=l.lt;obtain⟨z0,a8,a9⟩:=l.cells;have B:=a.hL;have C:=a.hM;obtain⟨H,I,J,K,L,af,al,am,ao,_,_⟩:=a.rd b l.bel;have m:Ax (Bx w0 (O (Q p1) n c1) tab b N (O g M j) (O e c h) d (b.alloc (iL N (O g M j) (O e c h)))):=Bx.new l N _ _;try simp only[ae]at E
 have bj:(i:Int)<(n:Int):=by omega
 have bk:(0:Int)<=(i:Int):=by omega
 have q:Ax (∀(d:ByteArray)(p:Z),Bx w0 (O (Q p1) n c1) tab b N (O g M j) (O e c h) d p->uA p b.heap.size N (O g M j) (O e c h)):=fun d p x=>x.cells;have bd:=kH u 1 rfl;have y:=aj z;have ba:=aj a;obtain⟨ap,av,a0,a1,a2,a3,a4,a5,a6⟩:=q.out _ _ m.out;clear l a s t r G a9 a8 B C u;go_in;go_wp2_with fail;refine(y.out _ _ m.out.pr (by(try simp only[ae]);omega)).mono ?_;rintro bb a7 ⟨rfl,w,v⟩;have o:Ax (Bx w0 (O (Q p1) n c1) tab b N (O g M j) (O e c h) (d++(Y)) a7):=m.out.next F w v
 obtain⟨ap,av,a0,a1,a2,a3,a4,a5,a6⟩:=q.out _ _ o.out;clear w v H I J K L af al am ao z0;go_wp2_with fail;go_end0
 refine⟨rfl,?_,o.out.kq⟩;have:=o.out.pr;simpa only[aB] using this
theorem J1(w0:Z)(p1:Addr)(n c1:Nat)(ns:List Nd)(y:co w0 (O (Q p1) n c1) ns)(z:jm w0 p1 ns)(a3:ns.length=n)(bA:n<=1048576)(tab:Nat)(i:Nat)(bs:i<n)(N:Nd)(x:ad ns i=N)(u:N.k=2)(bx:N.ks.length<=1048576)(a2:∀v,bF w0 v N.nm->Wr w0 (O (Q p1) n c1) tab 65 #[pW w0,v] (bG N.nm))(br:N.ks.length=0):
  Wr w0 (O (Q p1) n c1) tab 32 #[pW w0,U V (i:Int)] (⟨#[108,101,116,32]⟩++bG N.nm):=by
 intro g e l w;obtain⟨c,M,d,h,a,j,b⟩:=fG y z (show i<ns.length by omega);rw[x]at b;have B:=l.lt;obtain⟨z0,bl,bn⟩:=l.cells;have a0:=b.hL;have a1:=b.hM;obtain⟨a5,a6,a7,a8,a9,ba,bb,bd,bf,_,_⟩:=b.rd e l.bel;have p:Ax (Bx w0 (O (Q p1) n c1) tab e N (O c M d) (O h a j) g (e.alloc (iL N (O c M d) (O h a j)))):=Bx.new l N _ _;try simp only[ae]at w
 have bt:(i:Int)<(n:Int):=by omega
 have bw:(0:Int)<=(i:Int):=by omega
 have t:Ax (∀(g:ByteArray)(s:Z),Bx w0 (O (Q p1) n c1) tab e N (O c M d) (O h a j) g s->uA s e.heap.size N (O c M d) (O h a j)):=fun g s af=>af.cells;have bp:=ci u 1 rfl;have bq:=kH u 2 rfl;have bD:¬(0:Int)<(a:Int):=by omega
 have al:Ax (Wr w0 (O (Q p1) n c1) tab 33 _ (⟨#[108,101,116,32]⟩)):=fun ao ap a4 w=>aC w0 _ ao (⟨#[108,101,116,32]⟩) _ ap a4 w;have am:Ax (Wr w0 (O (Q p1) n c1) tab 65 _ (bG N.nm)):=a2 (O c M d) b.nm;have bo:=aj b;obtain⟨C,E,F,G,H,I,J,K,L⟩:=t.out _ _ p.out;clear l b y z x a3 bn bl a0 a1 u;go_in;go_wp2_with fail;refine(al.out _ _ p.out.pr (by(try simp only[ae]);omega)).mono ?_;rintro av bj ⟨rfl,o,m⟩;have q:Ax (Bx w0 (O (Q p1) n c1) tab e N (O c M d) (O h a j) (g++(⟨#[108,101,116,32]⟩)) bj):=p.out.next B o m
 obtain⟨C,E,F,G,H,I,J,K,L⟩:=t.out _ _ q.out;clear o m a5 a6 a7 a8 a9 ba bb bd bf z0;go_wp2_with fail;refine(am.out _ _ q.out.pr (by(try simp only[ae]);omega)).mono ?_;rintro av bk ⟨rfl,o,m⟩;have r:Ax (Bx w0 (O (Q p1) n c1) tab e N (O c M d) (O h a j) (g++(⟨#[108,101,116,32]⟩)++(bG N.nm)) bk):=q.out.next B o m
 obtain⟨C,E,F,G,H,I,J,K,L⟩:=t.out _ _ r.out;clear o m;go_wp2_with fail;go_end0
 refine⟨rfl,?_,r.out.kq⟩;have:=r.out.pr;simpa only[aB] using this
theorem aca(w0:Z)(p1:Addr)(n c1:Nat)(ns:List Nd)(ap:co w0 (O (Q p1) n c1) ns)(av:jm w0 p1 ns)(a9:ns.length=n)(b4:n<=1048576)(tab:Nat)(i:Nat)(b0:i<n)(N:Nd)(ao:ad ns i=N)(al:N.k=2)(b3:N.ks.length<=1048576)(a7:∀v,bF w0 v N.nm->Wr w0 (O (Q p1) n c1) tab 65 #[pW w0,v] (bG N.nm))(bE:0<N.ks.length)(X:ByteArray)(a8:∀v,aK w0 v (N.ks)->Wr w0 (O (Q p1) n c1) tab 66 #[pW w0,v] X):
  Wr w0 (O (Q p1) n c1) tab 32 #[pW w0,U V (i:Int)] (⟨#[108,101,116,32]⟩++bG N.nm++(⟨#[32,61,32]⟩++X)):=by
 intro m j p q;obtain⟨e,M,h,d,c,g,l⟩:=fG ap av (show i<ns.length by omega);rw[ao]at l;have r:=p.lt;obtain⟨z0,bt,bw⟩:=p.cells;have a5:=l.hL;have a6:=l.hM;obtain⟨ba,bb,bd,bf,bj,bk,bl,bn,bo,_,_⟩:=l.rd j p.bel;have E:Ax (Bx w0 (O (Q p1) n c1) tab j N (O e M h) (O d c g) m (j.alloc (iL N (O e M h) (O d c g)))):=Bx.new p N _ _;try simp only[ae]at q
 have b1:(i:Int)<(n:Int):=by omega
 have b2:(0:Int)<=(i:Int):=by omega
 have o:Ax (∀(m:ByteArray)(K:Z),Bx w0 (O (Q p1) n c1) tab j N (O e M h) (O d c g) m K->uA K j.heap.size N (O e M h) (O d c g)):=fun m K a0=>a0.cells;have bA:=ci al 1 rfl;have bD:=kH al 2 rfl;have b5:(0:Int)<(c:Int):=by omega
 have a1:Ax (Wr w0 (O (Q p1) n c1) tab 33 _ (⟨#[108,101,116,32]⟩)):=fun J L am q=>aC w0 _ J (⟨#[108,101,116,32]⟩) _ L am q;have a2:Ax (Wr w0 (O (Q p1) n c1) tab 65 _ (bG N.nm)):=a7 (O e M h) l.nm;have a3:Ax (Wr w0 (O (Q p1) n c1) tab 33 _ (⟨#[32,61,32]⟩)):=fun J L am q=>aC w0 _ J (⟨#[32,61,32]⟩) _ L am q;have a4:Ax (Wr w0 (O (Q p1) n c1) tab 66 _ (X)):=a8 (O d c g) l.ks;have bx:=aj l;obtain⟨s,t,u,w,x,y,z,B,C⟩:=o.out _ _ E.out;clear p l ap av ao a9 bw bt a5 a6 al;go_in;go_wp2_with fail;refine(a1.out _ _ E.out.pr (by(try simp only[ae]);omega)).mono ?_;rintro af bp ⟨rfl,b,a⟩;have F:Ax (Bx w0 (O (Q p1) n c1) tab j N (O e M h) (O d c g) (m++(⟨#[108,101,116,32]⟩)) bp):=E.out.next r b a
 obtain⟨s,t,u,w,x,y,z,B,C⟩:=o.out _ _ F.out;clear b a ba bb bd bf bj bk bl bn bo z0;go_wp2_with fail;refine(a2.out _ _ F.out.pr (by(try simp only[ae]);omega)).mono ?_;rintro af bq ⟨rfl,b,a⟩;have G:Ax (Bx w0 (O (Q p1) n c1) tab j N (O e M h) (O d c g) (m++(⟨#[108,101,116,32]⟩)++(bG N.nm)) bq):=F.out.next r b a
 obtain⟨s,t,u,w,x,y,z,B,C⟩:=o.out _ _ G.out;clear b a;go_wp2_with fail;refine(a3.out _ _ G.out.pr (by(try simp only[ae]);omega)).mono ?_;rintro af br ⟨rfl,b,a⟩;have H:Ax (Bx w0 (O (Q p1) n c1) tab j N (O e M h) (O d c g) (m++(⟨#[108,101,116,32]⟩)++(bG N.nm)++(⟨#[32,61,32]⟩)) br):=G.out.next r b a
 obtain⟨s,t,u,w,x,y,z,B,C⟩:=o.out _ _ H.out;clear b a;go_wp2_with fail;refine(a4.out _ _ H.out.pr (by(try simp only[ae]);omega)).mono ?_;rintro af bs ⟨rfl,b,a⟩;have I:Ax (Bx w0 (O (Q p1) n c1) tab j N (O e M h) (O d c g) (m++(⟨#[108,101,116,32]⟩)++(bG N.nm)++(⟨#[32,61,32]⟩)++(X)) bs):=H.out.next r b a
 obtain⟨s,t,u,w,x,y,z,B,C⟩:=o.out _ _ I.out;clear b a;go_wp2_with fail;go_end0
 refine⟨rfl,?_,I.out.kq⟩;have:=I.out.pr;simpa only[aB] using this
theorem aii(w0:Z)(p1:Addr)(n c1:Nat)(ns:List Nd)(x:co w0 (O (Q p1) n c1) ns)(y:jm w0 p1 ns)(J:ns.length=n)(bE:n<=1048576)(tab:Nat)(i:Nat)(bt:i<n)(N:Nd)(w:ad ns i=N)(b:N.k=6)(bD:N.ks.length<=1048576)(t:Nat)(s:N.ks[0]?=Q (t:Int))(r:ByteArray)(E:Wr w0 (O (Q p1) n c1) tab 67 #[pW w0,U V (t:Int),U V 0] r):
  Wr w0 (O (Q p1) n c1) tab 32 #[pW w0,U V (i:Int)] (r):=by
 intro g e m H;obtain⟨h,M,l,bk,c,j,a⟩:=fG x y (show i<ns.length by omega);rw[w]at a;have I:=m.lt;obtain⟨z0,bd,bf⟩:=m.cells;have F:=a.hL;have G:=a.hM;obtain⟨d,rfl⟩:=a.ks.ptr (by have:=dk s;omega);have bA:(0:Int)<(c:Int):=by have:=dk s;omega
 obtain⟨K,L,af,al,am,ao,ap,av,a0,_,_⟩:=a.rd e m.bel;have p:Ax (Bx w0 (O (Q p1) n c1) tab e N (O h M l) (O (Q d) c j) g (e.alloc (iL N (O h M l) (O (Q d) c j)))):=Bx.new m N _ _;try simp only[ae]at H
 have bw:(i:Int)<(n:Int):=by omega
 have bx:(0:Int)<=(i:Int):=by omega
 have v:Ax (∀(g:ByteArray)(o:Z),Bx w0 (O (Q p1) n c1) tab e N (O h M l) (O (Q d) c j) g o->uA o e.heap.size N (O h M l) (O (Q d) c j)/\o.cell? d=Q (U V (t:Int))):=fun g o u=>⟨u.cells,u.kid0 a.ks s⟩;have bn:=ci b 1 rfl;have bo:=ci b 2 rfl;have bp:=ci b 3 rfl;have bq:=ci b 4 rfl;have br:=ci b 5 rfl;have bs:=kH b 6 rfl;have C:=aj E;have bj:=aj a;obtain⟨⟨a1,a2,a3,a4,a5,a6,a7,a8,a9⟩,ba⟩:=v.out _ _ p.out;clear m a x y w J bf bd F G b;go_in;go_wp2_with fail;refine(C.out _ _ p.out.pr (by(try simp only[ae]);omega)).mono ?_;rintro bl bb ⟨rfl,B,z⟩;have q:Ax (Bx w0 (O (Q p1) n c1) tab e N (O h M l) (O (Q d) c j) (g++(r)) bb):=p.out.next I B z
 obtain⟨⟨a1,a2,a3,a4,a5,a6,a7,a8,a9⟩,ba⟩:=v.out _ _ q.out;clear B z K L af al am ao ap av a0 z0;go_wp2_with fail;go_end0
 refine⟨rfl,?_,q.out.kq⟩;have:=q.out.pr;simpa only[aB] using this
theorem acb(w0:Z)(p1:Addr)(n c1:Nat)(ns:List Nd)(a5:co w0 (O (Q p1) n c1) ns)(a6:jm w0 p1 ns)(bo:ns.length=n)(c0:n<=1048576)(tab:Nat)(i:Nat)(cv:i<n)(N:Nd)(a4:ad ns i=N)(j:N.k=10)(cB:N.ks.length<=1048576)(bl:∀v,bF w0 v N.nm->Wr w0 (O (Q p1) n c1) tab 65 #[pW w0,v] (bG N.nm))(cr:N.ks.length=2)(X:ByteArray)(bn:∀v,aK w0 v (N.ks.take 1)->Wr w0 (O (Q p1) n c1) tab 66 #[pW w0,v] X)(q:Nat)(a2:N.ks[1]?=Q (q:Int))(a1:ByteArray)(bf:Wr w0 (O (Q p1) n c1) tab 64 #[pW w0,U V (q:Int)] a1):
  Wr w0 (O (Q p1) n c1) tab 32 #[pW w0,U V (i:Int)] (⟨#[102,111,114,32]⟩++bG N.nm++⟨#[32,105,110,32]⟩++X++⟨#[32]⟩++a1):=by
 intro m l J p;obtain⟨g,M,h,b8,r,c,e⟩:=fG a5 a6 (show i<ns.length by omega);rw[a4]at e;have s:=J.lt;obtain⟨z0,b5,b6⟩:=J.cells;have bj:=e.hL;have bk:=e.hM;obtain⟨d,rfl⟩:=e.ks.ptr (by have:=dk a2;omega);have cz:(1:Int)<(r:Int):=by have:=dk a2;omega
 obtain⟨bp,bq,br,bs,bt,bw,bx,bA,bD,_,_⟩:=e.rd l J.bel;have af:Ax (Bx w0 (O (Q p1) n c1) tab l N (O g M h) (O (Q d) r c) m (l.alloc (iL N (O g M h) (O (Q d) r c)))):=Bx.new J N _ _;try simp only[ae]at p
 have cx:(i:Int)<(n:Int):=by omega
 have cy:(0:Int)<=(i:Int):=by omega
 have o:Ax (∀(m:ByteArray)(L:Z),Bx w0 (O (Q p1) n c1) tab l N (O g M h) (O (Q d) r c) m L->uA L l.heap.size N (O g M h) (O (Q d) r c)/\L.cell? ⟨d.block,d.off+1,A0⟩=Q (U V (q:Int))):=fun m L a3=>⟨a3.cells,a3.kid e.ks a2 (by decide)⟩;have b9:=ci j 1 rfl;have cb:=ci j 2 rfl;have cc:=ci j 3 rfl;have ce:=ci j 4 rfl;have cf:=ci j 5 rfl;have cl:=ci j 6 rfl;have cm:=ci j 7 rfl;have cp:=ci j 8 rfl;have cq:=ci j 9 rfl;have ca:=kH j 10 rfl;obtain rfl:r=2:=by omega
 have cs:=e.cap;have ct:¬c=0:=by omega
 have cu:(1:Int)<=(c:Int):=by omega
 have a7:Ax (Wr w0 (O (Q p1) n c1) tab 33 _ (⟨#[102,111,114,32]⟩)):=fun G H K p=>aC w0 _ G (⟨#[102,111,114,32]⟩) _ H K p;have a8:Ax (Wr w0 (O (Q p1) n c1) tab 65 _ (bG N.nm)):=bl (O g M h) e.nm;have a9:Ax (Wr w0 (O (Q p1) n c1) tab 33 _ (⟨#[32,105,110,32]⟩)):=fun G H K p=>aC w0 _ G (⟨#[32,105,110,32]⟩) _ H K p;have ba:Ax (Wr w0 (O (Q p1) n c1) tab 66 _ (X)):=bn (O (Q d) 1 c) (e.ks.take 1 (by omega));have bb:Ax (Wr w0 (O (Q p1) n c1) tab 33 _ (⟨#[32]⟩)):=fun G H K p=>aC w0 _ G (⟨#[32]⟩) _ H K p;have bd:=aj bf;have b7:=aj e;obtain⟨⟨t,u,w,x,y,z,B,C,E⟩,F⟩:=o.out _ _ af.out;clear J e a5 a6 a4 bo b6 b5 bj bk j;go_in;go_wp2_with fail;refine(a7.out _ _ af.out.pr (by(try simp only[ae]);omega)).mono ?_;rintro I bE ⟨rfl,b,a⟩;have al:Ax (Bx w0 (O (Q p1) n c1) tab l N (O g M h) (O (Q d) 2 c) (m++(⟨#[102,111,114,32]⟩)) bE):=af.out.next s b a
 obtain⟨⟨t,u,w,x,y,z,B,C,E⟩,F⟩:=o.out _ _ al.out;clear b a bp bq br bs bt bw bx bA bD z0;go_wp2_with fail;refine(a8.out _ _ al.out.pr (by(try simp only[ae]);omega)).mono ?_;rintro I b0 ⟨rfl,b,a⟩;have am:Ax (Bx w0 (O (Q p1) n c1) tab l N (O g M h) (O (Q d) 2 c) (m++(⟨#[102,111,114,32]⟩)++(bG N.nm)) b0):=al.out.next s b a
 obtain⟨⟨t,u,w,x,y,z,B,C,E⟩,F⟩:=o.out _ _ am.out;clear b a;go_wp2_with fail;refine(a9.out _ _ am.out.pr (by(try simp only[ae]);omega)).mono ?_;rintro I b1 ⟨rfl,b,a⟩;have ao:Ax (Bx w0 (O (Q p1) n c1) tab l N (O g M h) (O (Q d) 2 c) (m++(⟨#[102,111,114,32]⟩)++(bG N.nm)++(⟨#[32,105,110,32]⟩)) b1):=am.out.next s b a
 obtain⟨⟨t,u,w,x,y,z,B,C,E⟩,F⟩:=o.out _ _ ao.out;clear b a;go_wp2_with fail;refine(ba.out _ _ ao.out.pr (by(try simp only[ae]);omega)).mono ?_;rintro I b2 ⟨rfl,b,a⟩;have ap:Ax (Bx w0 (O (Q p1) n c1) tab l N (O g M h) (O (Q d) 2 c) (m++(⟨#[102,111,114,32]⟩)++(bG N.nm)++(⟨#[32,105,110,32]⟩)++(X)) b2):=ao.out.next s b a
 obtain⟨⟨t,u,w,x,y,z,B,C,E⟩,F⟩:=o.out _ _ ap.out;clear b a;go_wp2_with fail;refine(bb.out _ _ ap.out.pr (by(try simp only[ae]);omega)).mono ?_;rintro I b3 ⟨rfl,b,a⟩;have av:Ax (Bx w0 (O (Q p1) n c1) tab l N (O g M h) (O (Q d) 2 c) (m++(⟨#[102,111,114,32]⟩)++(bG N.nm)++(⟨#[32,105,110,32]⟩)++(X)++(⟨#[32]⟩)) b3):=ap.out.next s b a
 obtain⟨⟨t,u,w,x,y,z,B,C,E⟩,F⟩:=o.out _ _ av.out;clear b a;go_wp2_with fail;refine(bd.out _ _ av.out.pr (by(try simp only[ae]);omega)).mono ?_;rintro I b4 ⟨rfl,b,a⟩;have a0:Ax (Bx w0 (O (Q p1) n c1) tab l N (O g M h) (O (Q d) 2 c) (m++(⟨#[102,111,114,32]⟩)++(bG N.nm)++(⟨#[32,105,110,32]⟩)++(X)++(⟨#[32]⟩)++(a1)) b4):=av.out.next s b a
 obtain⟨⟨t,u,w,x,y,z,B,C,E⟩,F⟩:=o.out _ _ a0.out;clear b a;go_wp2_with fail;go_end0
 refine⟨rfl,?_,a0.out.kq⟩;have:=a0.out.pr;simpa only[aB] using this
theorem afA(w0:Z)(p1:Addr)(n c1:Nat)(ns:List Nd)(u:co w0 (O (Q p1) n c1) ns)(v:jm w0 p1 ns)(G:ns.length=n)(bt:n<=1048576)(tab:Nat)(i:Nat)(bp:i<n)(N:Nd)(t:ad ns i=N)(b:N.k=7)(bs:N.ks.length<=1048576)(Y:ByteArray)(C:∀vn vk,bF w0 vn N.nm->aK w0 vk N.ks->Wr w0 (O (Q p1) n c1) tab 69 #[pW w0,dy N vn vk,A5 ⟨#[105,102,32]⟩] Y):
  Wr w0 (O (Q p1) n c1) tab 32 #[pW w0,U V (i:Int)] (Y):=by
 intro l j m E;obtain⟨e,M,h,d,c,g,a⟩:=fG u v (show i<ns.length by omega);rw[t]at a;have F:=m.lt;obtain⟨z0,a8,a9⟩:=m.cells;have z:=a.hL;have B:=a.hM;obtain⟨H,I,J,K,L,af,al,am,ao,_,_⟩:=a.rd j m.bel;have o:Ax (Bx w0 (O (Q p1) n c1) tab j N (O e M h) (O d c g) l (j.alloc (iL N (O e M h) (O d c g)))):=Bx.new m N _ _;try simp only[ae]at E
 have bq:(i:Int)<(n:Int):=by omega
 have br:(0:Int)<=(i:Int):=by omega
 have s:Ax (∀(l:ByteArray)(q:Z),Bx w0 (O (Q p1) n c1) tab j N (O e M h) (O d c g) l q->uA q j.heap.size N (O e M h) (O d c g)):=fun l q y=>y.cells;have bd:=ci b 1 rfl;have bf:=ci b 2 rfl;have bj:=ci b 3 rfl;have bk:=ci b 4 rfl;have bl:=ci b 5 rfl;have bn:=ci b 6 rfl;have bo:=kH b 7 rfl;have r:Ax (Wr w0 (O (Q p1) n c1) tab 69 _ (Y)):=C (O e M h) (O d c g) a.nm a.ks;unfold dy at r;have ba:=aj a;obtain⟨ap,av,a0,a1,a2,a3,a4,a5,a6⟩:=s.out _ _ o.out;clear m a u v t G a9 a8 z B b;go_in;go_wp2_with fail;refine(r.out _ _ o.out.pr (by(try simp only[ae]);omega)).mono ?_;rintro bb a7 ⟨rfl,x,w⟩;have p:Ax (Bx w0 (O (Q p1) n c1) tab j N (O e M h) (O d c g) (l++(Y)) a7):=o.out.next F x w
 obtain⟨ap,av,a0,a1,a2,a3,a4,a5,a6⟩:=s.out _ _ p.out;clear x w H I J K L af al am ao z0;go_wp2_with fail;go_end0
 refine⟨rfl,?_,p.out.kq⟩;have:=p.out.pr;simpa only[aB] using this
theorem afB(w0:Z)(p1:Addr)(n c1:Nat)(ns:List Nd)(a0:co w0 (O (Q p1) n c1) ns)(a1:jm w0 p1 ns)(bd:ns.length=n)(cm:n<=1048576)(tab:Nat)(i:Nat)(cc:i<n)(N:Nd)(av:ad ns i=N)(s:N.k=5)(cl:N.ks.length<=1048576)(m:Nat)(a2:N.n=(m:Int))(cp:1<=m)(cq:m<N.ks.length)(X:ByteArray)(ba:∀v,aK w0 v (N.ks.take m)->Wr w0 (O (Q p1) n c1) tab 66 #[pW w0,v] X)(w:ByteArray)(bb:∀v,aK w0 v (N.ks.drop m)->Wr w0 (O (Q p1) n c1) tab 66 #[pW w0,v] w):
  Wr w0 (O (Q p1) n c1) tab 32 #[pW w0,U V (i:Int)] (X++⟨#[32,61,32]⟩++w):=by
 intro p a u F;obtain⟨q,M,r,b0,g,b,d⟩:=fG a0 a1 (show i<ns.length by omega);rw[av]at d;have G:=u.lt;obtain⟨z0,bA,bD⟩:=u.cells;have a8:=d.hL;have a9:=d.hM;obtain⟨h,rfl⟩:=d.ks.ptr (by omega);obtain⟨bj,bk,bl,bn,bo,bp,bq,br,bs,_,_⟩:=d.rd a u.bel;have z:Ax (Bx w0 (O (Q p1) n c1) tab a N (O q M r) (O (Q h) g b) p (a.alloc (iL N (O q M r) (O (Q h) g b)))):=Bx.new u N _ _;try simp only[ae]at F
 have ce:(i:Int)<(n:Int):=by omega
 have cf:(0:Int)<=(i:Int):=by omega
 have y:Ax (∀(p:ByteArray)(c:Z),Bx w0 (O (Q p1) n c1) tab a N (O q M r) (O (Q h) g b) p c->c.cell? ⟨a.heap.size,0,A0⟩=Q (U V N.k)/\c.cell? ⟨a.heap.size,1,A0⟩=Q (U V N.f)/\c.cell? ⟨a.heap.size,2,A0⟩=Q (U V N.t)/\c.cell? ⟨a.heap.size,3,A0⟩=Q (U V N.l)/\c.cell? ⟨a.heap.size,4,A0⟩=Q (U V N.op)/\c.cell? ⟨a.heap.size,5,A0⟩=Q (U V (m:Int))/\c.cell? ⟨a.heap.size,6,A0⟩=Q (A5 N.x)/\c.cell? ⟨a.heap.size,7,A0⟩=Q (O q M r)/\c.cell? ⟨a.heap.size,8,A0⟩=Q (O (Q h) g b)):=fun p c e=>⟨e.cells.1,e.cells.2.1,e.cells.2.2.1,e.cells.2.2.2.1,e.cells.2.2.2.2.1,(by rw[<-a2];exact e.cells.2.2.2.2.2.1),e.cells.2.2.2.2.2.2.1,e.cells.2.2.2.2.2.2.2.1,e.cells.2.2.2.2.2.2.2.2⟩;have b1:=ci s 1 rfl;have b2:=ci s 2 rfl;have b3:=ci s 3 rfl;have b4:=ci s 4 rfl;have b5:=kH s 5 rfl;have b6:=d.cap;have b7:¬b=0:=by omega
 have b8:(m:Int)<=(b:Int):=by omega
 have b9:(m:Int)<=(g:Int):=by omega
 have ca:¬b=m:=by omega
 have cb:(0:Int)<=(m:Int):=by omega
 have a3:Ax (Wr w0 (O (Q p1) n c1) tab 66 _ (X)):=ba (O (Q h) m b) (d.ks.take m (by omega));have a4:Ax (Wr w0 (O (Q p1) n c1) tab 33 _ (⟨#[32,61,32]⟩)):=fun a6 a7 bf F=>aC w0 _ a6 (⟨#[32,61,32]⟩) _ a7 bf F;have a5:Ax (Wr w0 (O (Q p1) n c1) tab 66 _ (w)):=bb (O (Q (h.add m)) (g-m) (b-m)) (d.ks.drop m _ (by omega) (by omega));have bE:=aj d;obtain⟨H,I,J,K,L,af,al,am,ao⟩:=y.out _ _ z.out;clear u d a0 a1 av bd bD bA a8 a9 s a2;go_in;go_wp2_with fail;refine(a3.out _ _ z.out.pr (by(try simp only[ae]);omega)).mono ?_;rintro ap bt ⟨rfl,o,j⟩;have B:Ax (Bx w0 (O (Q p1) n c1) tab a N (O q M r) (O (Q h) g b) (p++(X)) bt):=z.out.next G o j
 obtain⟨H,I,J,K,L,af,al,am,ao⟩:=y.out _ _ B.out;clear o j bj bk bl bn bo bp bq br bs z0;go_wp2_with fail;refine(a4.out _ _ B.out.pr (by(try simp only[ae]);omega)).mono ?_;rintro ap bw ⟨rfl,o,j⟩;have C:Ax (Bx w0 (O (Q p1) n c1) tab a N (O q M r) (O (Q h) g b) (p++(X)++(⟨#[32,61,32]⟩)) bw):=B.out.next G o j
 obtain⟨H,I,J,K,L,af,al,am,ao⟩:=y.out _ _ C.out;clear o j;go_wp2_with fail;refine(a5.out _ _ C.out.pr (by(try simp only[ae]);omega)).mono ?_;rintro ap bx ⟨rfl,o,j⟩;have E:Ax (Bx w0 (O (Q p1) n c1) tab a N (O q M r) (O (Q h) g b) (p++(X)++(⟨#[32,61,32]⟩)++(w)) bx):=C.out.next G o j
 obtain⟨H,I,J,K,L,af,al,am,ao⟩:=y.out _ _ E.out;clear o j;go_wp2_with fail;go_end0
 refine⟨rfl,?_,E.out.kq⟩;have:=E.out.pr;simpa only[aB] using this
theorem afC(w0:Z)(p1:Addr)(n c1:Nat)(ns:List Nd)(H:co w0 (O (Q p1) n c1) ns)(K:jm w0 p1 ns)(a3:ns.length=n)(cb:n<=1048576)(tab:Nat)(i:Nat)(b6:i<n)(N:Nd)(G:ad ns i=N)(ca:N.ks.length<=1048576)(u:N.k=31)(af:N.k=31->1<=N.op/\N.op<=18)(least:Int)(b9:¬ej N.k N.op<least)(y:1<=N.op/\N.op<=18)(al:(vw (60+N.op)).size<=4)(Y:ByteArray)(I:∀vn vk,bF w0 vn N.nm->aK w0 vk N.ks->Wr w0 (O (Q p1) n c1) tab 117 #[pW w0,dy N vn vk,A5 (⟨#[32]⟩++vw (60+N.op)++⟨#[32]⟩),U V (ej N.k N.op)] Y):
  Wr w0 (O (Q p1) n c1) tab 67 #[pW w0,U V (i:Int),U V least] (Y):=by
 intro o a r a2;obtain⟨e,M,h,d,b,g,j⟩:=fG H K (show i<ns.length by omega);rw[G]at j;have L:=r.lt;obtain⟨z0,bD,bE⟩:=r.cells;have a0:=j.hL;have a1:=j.hM;obtain⟨a7,a8,a9,ba,bb,bd,bf,bj,bk,_,_⟩:=j.rd a r.bel;have B:Ax (Bx w0 (O (Q p1) n c1) tab a N (O e M h) (O d b g) o (a.alloc (iL N (O e M h) (O d b g)))):=Bx.new r N _ _;try simp only[ae]at a2
 have b7:(i:Int)<(n:Int):=by omega
 have b8:(0:Int)<=(i:Int):=by omega
 have p:Ax (∀(o:ByteArray)(w:Z),Bx w0 (O (Q p1) n c1) tab a N (O e M h) (O d b g) o w->uA w a.heap.size N (O e M h) (O d b g)):=fun o w av=>av.cells;have b3:=ci u 28 rfl;have b4:=ci u 29 rfl;have b5:=kH u 31 rfl;have E:Ax (∀a:Z,B1 A6 116 #[dy N (O e M h) (O d b g)] a fun q z=>q= A7 (U V (ej N.k N.op))/\A2 a.heap.size a z):=fun a=>fi N _ _ af a;have v:Ax (Wr w0 (O (Q p1) n c1) tab 117 _ (Y)):=I (O e M h) (O d b g) j.nm j.ks;have b0:=aj j;obtain⟨bn,bo,bp,bq,br,bs,bt,bw,bx⟩:=p.out _ _ B.out;clear r j H K G a3 bE bD a0 a1 u af;have F:Ax (∀a:Z,B1 A6 118 #[U V (60+N.op)] a fun q z=>q= A7 (A5 (vw (60+N.op)))/\A2 a.heap.size a z):=fun a=>zF _ a;have a6:(vw (60+N.op)).size<=4:=al;have cc:1<=N.op:=y.1;have ce:N.op<=18:=y.2;have a5:IntKind.i64.wrap (60+N.op)=60+N.op:=by rw[cw];omega
 clear y al I;generalize vw (60+N.op)=ap at F a6 v;have b1:¬9223372036854775807<1+ap.size:=by omega
 have b2:¬9223372036854775807<1+ap.size+1:=by omega
 unfold dy at E v;generalize a4:ej N.k N.op=cf at *;clear a4;go_in;go_wp2_with fail;refine cd (E.out _) fun bA J=>?_;have m:Ax (Bx w0 (O (Q p1) n c1) tab a N (O e M h) (O d b g) o bA):=B.out.below J;obtain⟨bn,bo,bp,bq,br,bs,bt,bw,bx⟩:=p.out _ _ m.out;clear J a7 a8 a9 ba bb bd bf bj bk z0;go_wp2_with fail;go_region_held3 (fun c=>c.cell? ⟨a.heap.size,0,A0⟩=Q (U V N.k)/\c.cell? ⟨a.heap.size,1,A0⟩=Q (U V N.f)/\c.cell? ⟨a.heap.size,2,A0⟩=Q (U V N.t)/\c.cell? ⟨a.heap.size,3,A0⟩=Q (U V N.l)/\c.cell? ⟨a.heap.size,4,A0⟩=Q (U V N.op)/\c.cell? ⟨a.heap.size,5,A0⟩=Q (U V N.n)/\c.cell? ⟨a.heap.size,6,A0⟩=Q (A5 N.x)/\c.cell? ⟨a.heap.size,7,A0⟩=Q (O e M h)/\c.cell? ⟨a.heap.size,8,A0⟩=Q (O d b g)) (first|exact p.out _ _ (m.out.below (be (ai _ _)))|exact p.out _ _ ((m.out.below (be (ai _ _))).below s)|exact p.out _ _ (((m.out.below (be (ai _ _))).below s).next L ao am)|go_keep) (first|(go_at_call 118;(try rw[a5]);refine(F.out _).mono ?_;rintro q cl ⟨rfl,s⟩)|(go_at_call 117;refine(v.out _ _ ((m.out.below (be (ai _ _))).below s).pr (by omega)).mono ?_;rintro q bl ⟨rfl,ao,am⟩))
 have C:Ax (Bx w0 (O (Q p1) n c1) tab a N (O e M h) (O d b g) (o++(Y)) bl):=((m.out.below (be (ai _ _))).below s).next L ao am
 go_wp2_with fail;go_end0
 refine⟨rfl,?_,C.out.kq⟩;have:=C.out.pr;simpa only[aB] using this
theorem afD(w0:Z)(p1:Addr)(n c1:Nat)(ns:List Nd)(F:co w0 (O (Q p1) n c1) ns)(H:jm w0 p1 ns)(av:ns.length=n)(bD:n<=1048576)(tab:Int)(i:Nat)(bt:i<n)(N:Nd)(E:ad ns i=N)(I:N.k=31->1<=N.op/\N.op<=18)(least:Int)(bA:ej N.k N.op<least)(Y:ByteArray)
  (C:Wr w0 (O (Q p1) n c1) tab 67 #[pW w0,U V (i:Int),U V 0] Y):Wr w0 (O (Q p1) n c1) tab 67 #[pW w0,U V (i:Int),U V least] (uy Y):=by
 intro b a o m;obtain⟨h,M,l,g,e,j,q⟩:=fG F H (show i<ns.length by omega);rw[E]at q;have bE:=o.lt;obtain⟨z0,br,bs⟩:=o.cells;obtain⟨a1,a2,a3,a4,a5,a6,a7,a8,a9,_,_⟩:=q.rd a o.bel;have v:Ax (Bx w0 (O (Q p1) n c1) tab a N (O h M l) (O g e j) b (a.alloc (iL N (O h M l) (O g e j)))):=Bx.new o N _ _;unfold uy at m⊢;simp only[ae]at m;have bw:(i:Int)<(n:Int):=by omega
 have bx:(0:Int)<=(i:Int):=by omega
 have B:Ax (∀a:Z,B1 A6 116 #[dy N (O h M l) (O g e j)] a fun p ba=>p= A7 (U V (ej N.k N.op))/\A2 a.heap.size a ba):=fun a=>fi N _ _ I a;have ap:Ax (∀(b:ByteArray)(s:Z),Bx w0 (O (Q p1) n c1) tab a N (O h M l) (O g e j) b s->uA s a.heap.size N (O h M l) (O g e j)):=fun b s af=>af.cells;have al:Ax (Wr w0 (O (Q p1) n c1) tab 33 _ ⟨#[40]⟩):=fun r t u m=>aC w0 _ r ⟨#[40]⟩ _ t u m;have am:=aj C;have ao:Ax (Wr w0 (O (Q p1) n c1) tab 33 _ ⟨#[41]⟩):=fun r t u m=>aC w0 _ r ⟨#[41]⟩ _ t u m;obtain⟨bb,bd,bf,bj,bk,bl,bn,bo,bp⟩:=ap.out _ _ v.out;clear o q F H E av bs br I C;unfold dy at B;generalize a0:ej N.k N.op=b0 at *;clear a0;go_in;go_wp2_with fail;refine cd (B.out _) fun bq G=>?_;have z:Ax (Bx w0 (O (Q p1) n c1) tab a N (O h M l) (O g e j) b bq):=v.out.below G;clear G a1 a2 a3 a4 a5 a6 a7 a8 a9 z0 bb bd bf bj bk bl bn bo bp;go_wp2_with fail;refine(al.out _ _ z.out.pr (by omega)).mono ?_;rintro p J ⟨rfl,d,c⟩;have w:Ax (Pr w0 (O (Q p1) n c1) (b++⟨#[40]⟩) tab J/\Kq w0.heap.size a J):=⟨d,z.out.kq.trans c⟩;clear d c;go_wp2_with fail;refine(am.out _ _ w.out.1 (by simp only[ae];omega)).mono ?_;rintro p K ⟨rfl,d,c⟩;have x:Ax (Pr w0 (O (Q p1) n c1) (b++⟨#[40]⟩++Y) tab K/\Kq w0.heap.size a K):=⟨d,w.out.2.trans c⟩;clear d c;go_wp2_with fail;refine(ao.out _ _ x.out.1 (by simp only[ae];omega)).mono ?_;rintro p L ⟨rfl,d,c⟩;have y:Ax (Pr w0 (O (Q p1) n c1) (b++⟨#[40]⟩++Y++⟨#[41]⟩) tab L/\Kq w0.heap.size a L):=⟨d,x.out.2.trans c⟩;clear d c;go_wp2_with fail;refine bB (sH rfl _ _ _) rfl ⟨rfl,?_,y.out.2⟩;have:=y.out.1;simpa only[aB] using this
def afE(ns:List Nd)(b:Nat)(c:List Int):Prop:=∀d∈c,∃a:Nat,d=(a:Int)/\a<b/\a<ns.length/\eK (ad ns a).k=A9
theorem acd(w0:Z)(o v:A3)(ns:List Nd)(E:Int->ByteArray)(t:Int)(C:Nat)(ak:OkE w0 o ns E t C)(c:List Int)(y:aK w0 v c)(af:afE ns C c)(a4:c.length<=1048576)(T:ByteArray)(w:Z)(h:Pr w0 o T t w)(a2:T.size+(bG (c.map E)).size<=140737488355328):
  B1 A6 66 #[.pointer (Q ⟨w0.heap.size,0,A0⟩),v] w fun e av=>e= A7 (B4 #[])/\Pr w0 o (T++bG (c.map E)) t av/\Kq w0.heap.size w av:=by
 have m:=tH h y af ak;obtain⟨a7,a8,rfl⟩:=y.form;clear h y af ak;obtain⟨n,x⟩:=aA c.length;rw[x]at a4 m⊢;have H:=aj x;clear x;obtain⟨b,s⟩:=aA (c.map E);rw[s]at a2⊢;have G:Ax (c.map E=b/\b.length=n):=⟨s,by rw[<-s,dL];exact H.out⟩;clear s;go_in;go_wp2_with fail;go_loopw [8] (fun z wr=>∃a:Nat,a<=n/\z= U V a/\Ax (Pr w0 o (T++bG (b.take a)) t wr/\Kq w0.heap.size w wr)) (fun z _=>n-(Br z).toNat)
 case atStart=>exact⟨0,by omega,rfl,by rw[show T++bG (b.take 0)=T from ByteArray.append_empty];exact m.out.1,Kq.refl _ _⟩
 case round=>
  obtain⟨a,ba,rfl,d⟩:=hrel;by_cases a3:a<n
  ·obtain⟨a6,u⟩:=bH H.out a3;obtain⟨j,rfl,al,a5,am⟩:=m.out.2.2.1 a6 (dl u);obtain⟨a0,rfl,a1⟩:=(m.out.2.1.below d.out.1.bel).get u;have bd:(a:Int)<(n:Int):=by omega
   have bb:(0:Int)<=(a:Int):=by omega
   have an:b[a]?=Q (E j):=by rw[<-G.out.1,cA,u];rfl
   have K:=qz b a (E j) an;have L:=zl b (a+1);have l:=eH K L;have r:=eH al am;clear K L u an al a5 am;by_cases J:a=0
   ·subst J;have g:bG (b.take (0+1))=bG (b.take 0)++E j:=by rw[l.out.1,ab rfl]
    have i:=l.out.2;rw[g,ae]at i;have k:=eH g i;clear g i l;have a9:wr.cell? a0=Q (U V (j:Int)):=by simpa [Addr.add] using a1
    go_wp2_with fail;refine(m.out.2.2.2.zero j _ _ r.out.1 r.out.2 d.out.1 (by have:=k.out.2;rw[ae];omega)).mono ?_;rintro e B ⟨rfl,p2,q⟩;have p:=eH p2 q;clear p2 q;go_wp2_with fail;refine⟨⟨1,by omega,by go_num,?_,d.out.2.trans p.out.2⟩,by simp[Br];omega⟩;rw[show(1:Nat)=0+1 from rfl,k.out.1,<-aB];exact p.out.1
   ·have g:bG (b.take (a+1))=bG (b.take a)++dG++E j:=by rw[l.out.1,aa J]
    have i:=l.out.2;rw[g,ae,ae]at i;have I:dG.size=2:=rfl;have k:=jn g i I;clear g i I l;have bf:(0:Int)<(a:Int):=by omega
    go_wp2_with fail;refine(aC w0 o _ _ _ _ d.out.1 (by have:=k.out.2;rw[ae];show _+dG.size<=_;omega)).mono ?_;rintro e B ⟨rfl,p2,q⟩;have p:Ax (Pr w0 o (T++bG (b.take a)++dG) t B/\Kq w0.heap.size wr B):=⟨p2,q⟩;clear p2 q;go_wp2_with fail;refine(m.out.2.2.2.zero j _ _ r.out.1 r.out.2 p.out.1 (by have:=k.out.2;rw[ae,ae];omega)).mono ?_;rintro e bj ⟨rfl,ap,ao⟩;have F:=eH ap ao;clear ap ao;go_wp2_with fail;refine⟨⟨a+1,by omega,by go_num,?_,(d.out.2.trans p.out.2).trans F.out.2⟩,by simp[Br];omega⟩;rw[k.out.1,<-aB,<-aB];exact F.out.1
  ·obtain rfl:a=n:=by omega
   go_wp2_with fail;go_end0
   refine⟨rfl,?_,d.out.2⟩;have:=d.out.1
   rwa [cI (by rw[G.out.2];exact ag _)]at this
structure Mp (w0:Z) (p1:Addr) (n c1:Nat) (ns:List Nd):Prop where
 nds:co w0 (.slice (Q p1) n c1) ns
 cap:jm w0 p1 ns
 len:ns.length=n
 big:n<=3000
 sz:Szd ns
 n0:∀i:Int, -9223372036854775808<=(ad ns i).n
 n1:∀i:Int,(ad ns i).n<=9223372036854775807
abbrev vT(p1:Addr)(n c1:Nat):A3:= O (Q p1) n c1
def OkB(w0:Z)(p1:Addr)(n c1:Nat)(ns:List Nd)(f:Nat):Prop:=
 ∀(a b:Nat)(word vn vk),a<f->(ad ns a).k=7->b+f<=500000->bF w0 vn (ad ns a).nm->aK w0 vk (ad ns a).ks->Wr w0 (vT p1 n c1) b 69 #[pW w0,dy (ad ns a) vn vk,A5 word] (xl ns f a word b)
structure OkA (w0:Z) (p1:Addr) (n c1:Nat) (ns:List Nd) (f:Nat):Prop where
 e:∀tab:Nat,tab+f<=500000->OkE w0 (vT p1 n c1) ns (fun k=>yc ns f k tab) tab f
 s:aki w0 (vT p1 n c1) ns (fun k t=>rD ns f k t) f
 b:OkB w0 p1 n c1 ns f
theorem OkA.zero(w0:Z)(p1:Addr)(n c1:Nat)(ns:List Nd):OkA w0 p1 n c1 ns 0:=
 ⟨fun _ _ b _ _ _ a=>absurd a (by omega),fun b _ _ _ a=>absurd a (by omega),fun b _ _ _ _ a=>absurd a (by omega)⟩
section
variable {w0 : World} {p1 : Addr} {n c1 : Nat} {ns : List Nd} (M : Mp w0 p1 n c1 ns) {f : Nat} (A : OkA w0 p1 n c1 ns f)
theorem Wr.expr0(A:OkA w0 p1 n c1 ns f){tab q:Nat}(i:tab+f<=500000)(h:q<f)(d:eK (ad ns q).k=A9):Wr w0 (vT p1 n c1) tab 67 #[pW w0,U V (q:Int),U V 0] (yc ns f q tab):=
 fun a b c g=>(A.e tab i).zero q a b h d c g
theorem Wr.blk(M:Mp w0 p1 n c1 ns)(A:OkA w0 p1 n c1 ns f){tab q:Nat}(o:tab+f<500000)(v:q<=f)(a:q<ns.length)(j:(ad ns q).k=1):Wr w0 (vT p1 n c1) tab 64 #[pW w0,U V (q:Int)] (uz (fun k t=>rD ns f k t) (ad ns q).ks tab):=by
 intro d e g l;obtain⟨m,u⟩:=je (M.sz.nb q a);have h:=sC m j;refine Dk w0 _ ns _ f A.s M.nds (by rw[M.len];have:=M.big;omega) q a (fun w p=>?_) (by omega) tab o d e g l;obtain⟨c,i,rfl⟩:=oG p;obtain⟨r,b⟩:=il (M.sz.nb q a) a c i;have:=Dr _ 0 h c (by omega) (by omega);rw[b.id]at this⊢;exact⟨r,rfl,by have:=b.lt;omega,b.len,this⟩
theorem Wr.exs(A:OkA w0 p1 n c1 ns f){tab:Nat}(j:tab+f<=500000){a:List Int}(g:afE ns f a)(i:a.length<=1048576)(v:A3)(l:aK w0 v a):Wr w0 (vT p1 n c1) tab 66 #[pW w0,v] (bG (a.map fun k=>yc ns f k tab)):=
 fun b c d h=>acd w0 _ v ns _ tab f (A.e tab j) a l g i b c d h
theorem Wr.nms(N:Nd){tab:Nat}(e:N.nm.length<=1048576)(v:A3)(g:bF w0 v N.nm):Wr w0 (vT p1 n c1) tab 65 #[pW w0,v] (bG N.nm):=
 fun a b c d=>Db w0 _ v N.nm a tab b c g e d
theorem Wr.bod(M:Mp w0 p1 n c1 ns)(A:OkA w0 p1 n c1 ns f){tab q:Nat}(v:tab+f<500000)(F:q<=f)(b:q<ns.length)(o:(ad ns q).k=36):Wr w0 (vT p1 n c1) tab 68 #[pW w0,U V (q:Int)] (xj ns (fun k t=>rD ns f k t) (ad ns q) tab):=by
 intro h i j p;obtain⟨r,C⟩:=je (M.sz.nb q b);obtain⟨y,e,z,B⟩:=ae3 r o;obtain⟨d,a⟩:=il (M.sz.nb q b) b 0 (by omega);rw[a.id]at e;obtain⟨u,E⟩:=je (M.sz.nb d a.len);have l:=sC u e;refine aef w0 _ ns _ f A.s M.nds (by rw[M.len];have:=M.big;omega) q b d a.at_ a.len (fun G w=>?_) (by omega) (by omega) (by omega) tab v h i j p;obtain⟨g,m,rfl⟩:=oG w;obtain⟨x,c⟩:=il (M.sz.nb d a.len) a.len g m;have:=Dr _ 0 l g (by omega) (by omega);rw[c.id]at this⊢;exact⟨x,rfl,by have:=c.lt;have:=a.lt;omega,c.len,this⟩
theorem qg(M:Mp w0 p1 n c1 ns){i:Nat}(d:i<ns.length)(p:i<=f){a m:Nat}(h:∀j,a<=j->j<a+m->eK (ad ns (bJ (ad ns i) j)).k=A9)(q:a+m<=(ad ns i).ks.length):afE ns f (((ad ns i).ks.drop a).take m):=by
 intro r l;obtain⟨j,g,c⟩:=fL l;rw[gx,ij]at g;rw[List.getElem_take,List.getElem_drop]at c;obtain⟨o,b⟩:=il (M.sz.nb i d) d (a+j) (by omega);have e:=wy (N:=ad ns i) (j:=a+j) (by omega);rw[e,b.id]at c;have:=h (a+j) (by omega) (by omega);rw[b.id]at this;exact⟨o,c.symm,by have:=b.lt;omega,b.len,this⟩
end
section
variable {w0 : World} {p1 : Addr} {n c1 : Nat} {ns : List Nd} {f : Nat}
theorem Wr.bas(M:Mp w0 p1 n c1 ns)(A:OkA w0 p1 n c1 ns f){tab q:Nat}(j:tab+f<=500000)(h:q<f)(i:q<ns.length)(d:eK (ad ns q).k=A9):Wr w0 (vT p1 n c1) tab 120 #[pW w0,U V (q:Int)] (FD ns (fun k=>yc ns f k tab) q):=
 fun a b c g=>ad2 w0 _ ns _ tab f (A.e tab j) M.nds (by rw[M.len];have:=M.big;omega) q h i d a b c g
theorem Hq(M:Mp w0 p1 n c1 ns)(A:OkA w0 p1 n c1 ns f)(tab i:Nat)(bk:tab+f<500000)(a9:i<=f)(E:i<ns.length)(bf:eK (ad ns i).k=A9)(least:Int)(u:¬ej (ad ns i).k (ad ns i).op<least):
  Wr w0 (vT p1 n c1) tab 67 #[pW w0,U V (i:Int),U V least] (prE ns (fun q=>yc ns f q tab) (fun q t=>rD ns f q t) (ad ns i) tab):=by
 have bq:=M.big;have bw:=M.len;obtain⟨y,bs⟩:=je (M.sz.nb i E);have bl:=Jw (M.sz.nb i E);have w:=fun z al=>il (M.sz.nb i E) E z al;have l:(ad ns i).k=31->1<=(ad ns i).op/\(ad ns i).op<=18:=fun e=>(og y (by omega)).2.2 e;have s:i<n:=by omega
 have o:n<=1048576:=by omega
 have h:(ad ns i).ks.length<=1048576:=by omega
 have br:=aH bf;have a5:∀(a0:ByteArray)(g d:A3),bF w0 g (ad ns i).nm->aK w0 d (ad ns i).ks->((ad ns i).k=28\/(ad ns i).k=29\/(ad ns i).k=31)->
   Wr w0 (vT p1 n c1) tab 117 #[pW w0,dy (ad ns i) g d,A5 a0,U V (ej (ad ns i).k (ad ns i).op)] (xi ns (fun q=>yc ns f q tab) (ad ns i) a0 (ej (ad ns i).k (ad ns i).op)):=by
  intro a0 g d v j bj G H ak am;obtain⟨B,c,C⟩:=og y (by omega);obtain⟨a,b⟩:=w 0 (by omega);obtain⟨I,r⟩:=w 1 (by omega);have p:=iz 2 0 c 0 (by omega) (by omega);have x:=iz 2 0 c 1 (by omega) (by omega);rw[b.id]at p;rw[r.id]at x;have bx:=AB (ad ns i).k (ad ns i).op;exact abz w0 _ ns _ tab f (A.e tab (by omega)) (ad ns i) g d j a I b.at_ r.at_ (by have:=b.lt;omega) (by have:=r.lt;omega) p x h (fun J K=>by rcases bj with e|e|e;exact absurd e K;exact absurd e J;exact C e) a0 _ (by omega) (by omega) G H ak am
 unfold prE;by_cases J:(ad ns i).k=28
 ·rw[ab J];exact aee w0 p1 n c1 ns M.nds M.cap M.len o tab i s _ rfl h J l least u _ (fun g d v j=>a5 _ g d v j (by omega))
 rw[aa J];by_cases K:(ad ns i).k=29
 ·rw[ab K];exact ahy w0 p1 n c1 ns M.nds M.cap M.len o tab i s _ rfl h K l least u _ (fun g d v j=>a5 _ g d v j (by omega))
 rw[aa K];by_cases L:(ad ns i).k=31
 ·rw[ab L];exact afC w0 p1 n c1 ns M.nds M.cap M.len o tab i s _ rfl h L l least u (l L) (Hl (l L)) _ (fun g d v j=>a5 _ g d v j (by omega))
 rw[aa L];by_cases an:(ad ns i).k=30
 ·rw[ab an];obtain⟨B,c,C⟩:=pu y (by omega);obtain⟨a,b⟩:=w 0 (by omega);rw[b.id]at c;exact Jb w0 p1 n c1 ns M.nds M.cap M.len o tab i s _ rfl h an l least u _ (fun g d v j G H ak am=>abE w0 _ ns _ tab f (A.e tab (by omega)) M.nds (by omega) _ g d j a b.at_ (by have:=b.lt;omega) b.len h c (C an) G H ak am)
 rw[aa an];by_cases a3:(ad ns i).k=32
 ·rw[ab a3];obtain⟨B,c,C⟩:=og y (by omega);obtain⟨a,b⟩:=w 0 (by omega);obtain⟨I,r⟩:=w 1 (by omega);have p:=iz 2 0 c 0 (by omega) (by omega);have x:=iz 2 0 c 1 (by omega) (by omega);rw[b.id]at p⊢;rw[r.id]at x⊢;exact Jn w0 p1 n c1 ns M.nds M.cap M.len o tab i s _ rfl h a3 l least u a b.at_ _ (Wr.bas M A (by omega) (by have:=b.lt;omega) b.len p) I r.at_ _ (Wr.expr0 A (by omega) (by have:=r.lt;omega) x)
 rw[aa a3];by_cases a4:(ad ns i).k=33
 ·rw[ab a4];obtain⟨B,c,C⟩:=pu y (by omega);obtain⟨a,b⟩:=w 0 (by omega);rw[b.id]at c⊢;exact Jo w0 p1 n c1 ns M.nds M.cap M.len o tab i s _ rfl h a4 l least u a b.at_ _ (Wr.bas M A (by omega) (by have:=b.lt;omega) b.len c)
 rw[aa a4];by_cases ao:(ad ns i).k=34
 ·rw[ab ao];obtain⟨B,c⟩:=E2 y ao;obtain⟨a,b⟩:=w 0 (by omega);have p:=iz _ 0 c 0 (by omega) (by omega);have a8:=qg M E a9 (a:=1) (m:=(ad ns i).ks.length-1) (fun z C bp=>iz _ 0 c z (by omega) (by omega)) (by omega);rw[cI (by rw[ij];exact ag _)]at a8;rw[b.id]at p⊢;exact abH w0 p1 n c1 ns M.nds M.cap M.len o tab i s _ rfl h ao l least u a b.at_ _ (Wr.bas M A (by omega) (by have:=b.lt;omega) b.len p) _ (fun bo j=>Wr.exs A (by omega) a8 (by rw[ij];omega) bo j)
 rw[aa ao];by_cases ap:(ad ns i).k=35
 ·rw[ab ap];have B:=AJ y ap;refine Jc w0 p1 n c1 ns M.nds M.cap M.len o tab i s _ rfl h ap l least u _ (fun g d v j=>abI w0 p1 n c1 ns M.nds M.cap M.len o _ tab _ g d j h (fun bD bn=>?_));obtain⟨z,al,rfl⟩:=oG bn;obtain⟨a1,F⟩:=w z al;have c:=aaa _ 0 B z (by omega) (by omega);rw[F.id]at c⊢;refine⟨a1,rfl,F.len,?_⟩;obtain⟨ba,bt⟩:=je (M.sz.nb a1 F.len);have a6:=fun z al=>il (M.sz.nb a1 F.len) F.len z al;have bA:=F.lt;by_cases a7:(ad ns a1).k=41
  ·obtain⟨bb,af,bd⟩:=og ba (by omega);obtain⟨a,b⟩:=a6 0 (by omega);obtain⟨I,r⟩:=a6 1 (by omega);have p:=iz 2 0 af 0 (by omega) (by omega);have x:=iz 2 0 af 1 (by omega) (by omega);rw[b.id]at p;rw[r.id]at x;exact .inl ⟨a7,a,I,b.at_,r.at_,Wr.expr0 A (by omega) (by have:=b.lt;omega) p,Wr.expr0 A (by omega) (by have:=r.lt;omega) x⟩
  ·obtain⟨bb,af,bd⟩:=pu ba (by omega);obtain⟨a,b⟩:=a6 0 (by omega);rw[b.id]at af;exact .inr ⟨a7,a,b.at_,Wr.expr0 A (by omega) (by have:=b.lt;omega) af⟩
 rw[aa ap];by_cases av:(ad ns i).k=36
 ·rw[ab av];exact ahI w0 p1 n c1 ns M.nds M.cap M.len o tab i s _ rfl h av l least u _ (Wr.bod M A bk a9 E av)
 rw[aa av];by_cases a2:(ad ns i).k=37
 ·rw[ab a2];obtain⟨B,c,C⟩:=pu y (by omega);obtain⟨a,b⟩:=w 0 (by omega);rw[b.id]at c⊢;exact aer w0 p1 n c1 ns M.nds M.cap M.len o tab i s _ rfl h a2 l least u a b.at_ _ (Wr.expr0 A (by omega) (by have:=b.lt;omega) c)
 rw[aa a2];exact Jd w0 p1 n c1 ns M.nds M.cap M.len o tab i s _ rfl h (by omega) l least u _ (fun g d v j G H ak am=>abx w0 _ g d _ G tab H ak (by omega) (M.n0 i) (M.n1 i) (fun _=>bl) am)
theorem ace(M:Mp w0 p1 n c1 ns)(A:OkA w0 p1 n c1 ns f)(t:f<ns.length)(tab:Nat)(y:tab+(f+1)<=500000):OkE w0 (vT p1 n c1) ns (fun k=>yc ns (f+1) k tab) tab (f+1):=by
 intro k c e g u h q r i a;have s:=M.big;have w:=M.len;obtain⟨o,v⟩:=je (M.sz.nb k (by omega));have m:(ad ns k).k=31->1<=(ad ns k).op/\(ad ns k).op<=18:=fun j=>(og o (by omega)).2.2 j;have l:yc ns (f+1) k tab=prE ns (fun d=>yc ns f d tab) (fun d p=>rD ns f d p) (ad ns k) tab:=by rw[yc]
 unfold gE at a⊢;simp only[l]at a⊢;by_cases b:ej (ad ns k).k (ad ns k).op<c
 ·rw[ab b]at a⊢;have x:=AB (ad ns k).k (ad ns k).op;exact afD w0 p1 n c1 ns M.nds M.cap M.len (by omega) tab k (by omega) _ rfl m c b _ (Hq M A tab k (by omega) (by omega) (by omega) h 0 (by omega)) e g i a
 ·rw[aa b]at a⊢;exact Hq M A tab k (by omega) (by omega) (by omega) h c b e g i a
end
section
variable {w0 : World} {p1 : Addr} {n c1 : Nat} {ns : List Nd} {f : Nat}
theorem Bz(M:Mp w0 p1 n c1 ns)(A:OkA w0 p1 n c1 ns f)(tab i:Nat)(E:tab+f<500000)(ap:i<=f)(v:i<ns.length)(I:(ad ns i).k=7)(j:ByteArray)(vn vk:A3)(a1:bF w0 vn (ad ns i).nm)(x:aK w0 vk (ad ns i).ks):
  Wr w0 (vT p1 n c1) tab 69 #[pW w0,dy (ad ns i) vn vk,A5 j] (Az ns (fun q=>yc ns f q tab) (fun q t=>rD ns f q t) (fun q w=>xl ns f q w tab) (ad ns i) j tab):=by
 intro o p r a;have ao:=M.big;have a0:=M.len;obtain⟨K,av⟩:=je (M.sz.nb i v);have y:=fun af H=>il (M.sz.nb i v) v af H;obtain⟨am,an,B,C,F⟩:=ae7 K I;obtain⟨l,e⟩:=y 0 (by omega);obtain⟨m,b⟩:=y 1 (by omega);have a2:=e.lt;have a3:=b.lt;rw[e.id]at B;rw[b.id]at C;have u:=Wr.expr0 A (tab:=tab) (by omega) (show l<f by omega) B;have s:=Wr.blk M A E (show m<=f by omega) b.len C;unfold Az at a⊢;rw[e.id,b.id]at a⊢;rcases bv (ad ns i).ks.length 3 with g|g
 ·rw[ab g]at a⊢;rw[show ∀z:ByteArray,z++A4=z from fun z=>ByteArray.append_empty]at a⊢;exact Je w0 _ _ _ tab _ vn vk x l m e.at_ b.at_ g u s j o p r a
 ·rw[aa (by omega)]at a⊢;obtain⟨d,c⟩:=y 2 (by omega);have wc:=c.lt;rw[c.id]at F a⊢;by_cases h:(ad ns d).k=7
  ·rw[ab h]at a⊢;exact ED w0 p1 n c1 ns M.nds M.len (by omega) _ _ _ tab _ vn vk x l m e.at_ b.at_ d c.at_ (by have:=c.len;omega) h (fun al ak J L=>A.b d tab _ al ak (by omega) h (by omega) J L) u s j o p r a
  ·rw[aa h]at a⊢;have G:=Wr.blk M A E (show d<=f by omega) c.len (show(ad ns d).k=1 by omega);exact EE w0 p1 n c1 ns M.nds M.len (by omega) _ _ _ tab _ vn vk x l m e.at_ b.at_ d c.at_ (by have:=c.len;omega) h G u s j o p r a
theorem afF{N:Nd}(h:N.nm.length=1):N.nm[0]?=Q (nm0 N):=by
 unfold nm0;rw[bc,aE (by omega)];rfl
theorem afG(M:Mp w0 p1 n c1 ns)(A:OkA w0 p1 n c1 ns f)(tab i:Nat)(E:tab+f<500000)(C:i<=f)(u:i<ns.length)(bj:ja (ad ns i).k=A9):
  Wr w0 (vT p1 n c1) tab 32 #[pW w0,U V (i:Int)] (prS ns (fun q=>yc ns f q tab) (fun q t=>rD ns f q t) (fun _ w=>Az ns (fun q=>yc ns f q tab) (fun q t=>rD ns f q t) (fun q w=>xl ns f q w tab) (ad ns i) w tab) (ad ns i) tab):=by
 have bn:=M.big;have bq:=M.len;obtain⟨v,bp⟩:=je (M.sz.nb i u);have x:=fun s ba=>il (M.sz.nb i u) u s ba;have o:i<n:=by omega
 have p:n<=1048576:=by omega
 have j:(ad ns i).ks.length<=1048576:=by omega
 have bo:=aH bj;have a8:∀k:Int,k=34->eK k=A9:=fun k e=>by rw[e];rfl
 unfold prS;by_cases L:(ad ns i).k=1
 ·rw[ab L];exact Hp w0 p1 n c1 ns M.nds M.cap M.len p tab i o _ rfl L j _ (Wr.blk M A E C u L)
 rw[aa L];by_cases J:(ad ns i).k=2
 ·rw[ab J];obtain⟨h1,b⟩:=JA v J;have B:=fun l g=>Wr.nms (w0:=w0) (p1:=p1) (n:=n) (c1:=c1) (ad ns i) (tab:=tab) (by omega) l g;by_cases z:(ad ns i).ks=[]
  ·rw[ab z,show ∀G:ByteArray,G++A4=G from fun G=>ByteArray.append_empty];exact J1 w0 p1 n c1 ns M.nds M.cap M.len p tab i o _ rfl J j B (by rw[z];rfl)
  ·rw[aa z];have r:=qg M u C (a:=0) (m:=(ad ns i).ks.length) (fun s h F=>iz _ 0 h1 s (by omega) (by omega)) (by omega);rw[jt,cI (ag _)]at r;exact aca w0 p1 n c1 ns M.nds M.cap M.len p tab i o _ rfl J j B (by rcases kL (ad ns i).ks.length with e|e;exact absurd (jr e) z;exact e) _ (fun l g=>Wr.exs A (by omega) r j l g)
 rw[aa J];by_cases al:(ad ns i).k=3
 ·rw[ab al];obtain⟨h1,b,h⟩:=AL v al;obtain⟨a,c⟩:=x 0 (by omega);have H:=c.lt;rw[c.id]at b⊢;exact G0 w0 p1 n c1 ns M.nds M.cap M.len p tab i o _ rfl al j _ (afF h) a c.at_ _ (Wr.expr0 A (by omega) (by omega) b)
 rw[aa al];by_cases am:(ad ns i).k=4
 ·rw[ab am];obtain⟨h1,b,h⟩:=JB v am;obtain⟨a,c⟩:=x 0 (by omega);have H:=c.lt;rw[c.id]at b⊢;exact aed w0 p1 n c1 ns M.nds M.cap M.len p tab i o _ rfl am j _ (afF h) a c.at_ _ (Wr.bod M A E (by omega) c.len b)
 rw[aa am];by_cases an:(ad ns i).k=5
 ·rw[ab an];obtain⟨h1,b,h,F⟩:=ae6 v an;obtain⟨m,bb⟩:∃m:Nat,(ad ns i).n=(m:Int):=⟨(ad ns i).n.toNat,by omega⟩;have bd:(ad ns i).n.toNat=m:=by omega
  rw[bd]at h F⊢;have r:=qg M u C (a:=0) (m:=m) (fun s a0 a1=>ai9 _ 0 h s (by omega) (by omega)) (by omega);rw[jt]at r;have a9:=qg M u C (a:=m) (m:=(ad ns i).ks.length-m) (fun s a0 a1=>iz _ m F s (by omega) (by omega)) (by omega);rw[cI (by rw[ij];exact ag _)]at a9;exact afB w0 p1 n c1 ns M.nds M.cap M.len p tab i o _ rfl an j m bb (by omega) (by omega) _ (fun l g=>Wr.exs A (by omega) r (by rw[gx];omega) l g) _ (fun l g=>Wr.exs A (by omega) a9 (by rw[ij];omega) l g)
 rw[aa an];by_cases a5:(ad ns i).k=6
 ·rw[ab a5];obtain⟨h1,b⟩:=Dv v (by omega);obtain⟨a,c⟩:=x 0 (by omega);have H:=c.lt;rw[c.id]at b⊢;exact aii w0 p1 n c1 ns M.nds M.cap M.len p tab i o _ rfl a5 j a c.at_ _ (Wr.expr0 A (by omega) (by omega) (a8 _ b))
 rw[aa a5];by_cases ao:(ad ns i).k=7
 ·rw[ab ao];exact afA w0 p1 n c1 ns M.nds M.cap M.len p tab i o _ rfl ao j _ (fun bl bk bf g=>Bz M A tab i E C u ao _ bl bk bf g)
 rw[aa ao];by_cases ap:(ad ns i).k=8
 ·rw[ab ap];obtain⟨h1,b,h⟩:=Ba v ap;obtain⟨a,c⟩:=x 0 (by omega);obtain⟨y,d⟩:=x 1 (by omega);have H:=c.lt;have a2:=d.lt;rw[c.id]at b⊢;rw[d.id]at h⊢;exact GK w0 p1 n c1 ns M.nds M.cap M.len p tab i o _ rfl ap j a c.at_ _ (Wr.expr0 A (by omega) (by omega) b) y d.at_ _ (Wr.blk M A E (by omega) d.len h)
 rw[aa ap];by_cases a7:(ad ns i).k=9\/(ad ns i).k=10
 ·rw[ab a7];by_cases a6:(ad ns i).k=10
  ·rw[aa (by omega)];obtain⟨h1,b,h,F⟩:=E3 v a6;rw[h1];have B:=fun l g=>Wr.nms (w0:=w0) (p1:=p1) (n:=n) (c1:=c1) (ad ns i) (tab:=tab) (by omega) l g;have r:=qg M u C (a:=0) (m:=1) (fun s a0 a1=>by have e:s=0:=(by omega);subst e;exact b) (by omega);rw[jt]at r;obtain⟨y,d⟩:=x 1 (by omega);have a2:=d.lt;show Wr _ _ _ _ _ (_++_++_++_++_++uz _ (ad ns (bJ (ad ns i) 1)).ks tab);rw[d.id]at h⊢;exact acb w0 p1 n c1 ns M.nds M.cap M.len p tab i o _ rfl a6 j B h1 _ (fun l g=>Wr.exs A (by omega) r (by rw[gx];omega) l g) y d.at_ _ (Wr.blk M A E (by omega) d.len h)
  ·have av:(ad ns i).k=9:=by omega
   rw[ab av];obtain⟨h1,b,h,F⟩:=JC v av;have B:=fun l g=>Wr.nms (w0:=w0) (p1:=p1) (n:=n) (c1:=c1) (ad ns i) (tab:=tab) (by omega) l g;rcases h1 with h1|h1
   ·rw[h1]at b h⊢;have r:=qg M u C (a:=0) (m:=2) (fun s a0 a1=>iz _ 0 b s (by omega) (by omega)) (by omega);rw[jt]at r;obtain⟨y,d⟩:=x 2 (by omega);have a2:=d.lt;have K:(ad ns (bJ (ad ns i) 2)).k=1:=h;show Wr _ _ _ _ _ (_++_++_++_++_++uz _ (ad ns (bJ (ad ns i) 2)).ks tab);rw[d.id]at K⊢;exact abF w0 p1 n c1 ns M.nds M.cap M.len p tab i o _ rfl av j B h1 _ (fun l g=>Wr.exs A (by omega) r (by rw[gx];omega) l g) y d.at_ _ (Wr.blk M A E (by omega) d.len K)
   ·rw[h1]at b h⊢;have r:=qg M u C (a:=0) (m:=3) (fun s a0 a1=>iz _ 0 b s (by omega) (by omega)) (by omega);rw[jt]at r;obtain⟨y,d⟩:=x 3 (by omega);have a2:=d.lt;have K:(ad ns (bJ (ad ns i) 3)).k=1:=h;show Wr _ _ _ _ _ (_++_++_++_++_++uz _ (ad ns (bJ (ad ns i) 3)).ks tab);rw[d.id]at K⊢;exact abG w0 p1 n c1 ns M.nds M.cap M.len p tab i o _ rfl av j B h1 _ (fun l g=>Wr.exs A (by omega) r (by rw[gx];omega) l g) y d.at_ _ (Wr.blk M A E (by omega) d.len K)
 rw[aa a7];by_cases a3:(ad ns i).k=11
 ·rw[ab a3];exact I9 w0 p1 n c1 ns M.nds M.cap M.len p tab i o _ rfl a3 j
 rw[aa a3];by_cases a4:(ad ns i).k=12
 ·rw[ab a4];exact abB w0 p1 n c1 ns M.nds M.cap M.len p tab i o _ rfl a4 j
 rw[aa a4];by_cases I:(ad ns i).k=13
 ·rw[ab I];have h1:=ae8 v I;by_cases z:(ad ns i).ks=[]
  ·rw[ab z,show ∀G:ByteArray,G++A4=G from fun G=>ByteArray.append_empty];exact Ja w0 p1 n c1 ns M.nds M.cap M.len p tab i o _ rfl I j (by rw[z];rfl)
  ·rw[aa z];have r:=qg M u C (a:=0) (m:=(ad ns i).ks.length) (fun s h F=>iz _ 0 h1 s (by omega) (by omega)) (by omega);rw[jt,cI (ag _)]at r;exact abC w0 p1 n c1 ns M.nds M.cap M.len p tab i o _ rfl I j (by rcases kL (ad ns i).ks.length with e|e;exact absurd (jr e) z;exact e) _ (fun l g=>Wr.exs A (by omega) r j l g)
 rw[aa I];by_cases af:(ad ns i).k=14
 ·rw[ab af];obtain⟨h1,b,h,F⟩:=JD v af;have B:=fun l g=>Wr.nms (w0:=w0) (p1:=p1) (n:=n) (c1:=c1) (ad ns i) (tab:=tab) (by omega) l g;obtain⟨a,c⟩:=x 0 (by omega);obtain⟨y,d⟩:=x 1 (by omega);have H:=c.lt;have a2:=d.lt;rw[c.id]at b⊢;rw[d.id]at h⊢;exact ab0 w0 p1 n c1 ns M.nds M.cap M.len p tab i o _ rfl af j B a c.at_ _ (Wr.blk M A E (by omega) c.len b) y d.at_ _ (Wr.blk M A E (by omega) d.len h)
 rw[aa af];by_cases ak:(ad ns i).k=15
 ·rw[ab ak];obtain⟨h1,b⟩:=Bb v ak;obtain⟨a,c⟩:=x 0 (by omega);have H:=c.lt;rw[c.id]at b⊢;exact G5 w0 p1 n c1 ns M.nds M.cap M.len p tab i o _ rfl ak j a c.at_ _ (Wr.expr0 A (by omega) (by omega) b)
 rw[aa ak,ab (by omega)];obtain⟨h1,b⟩:=Dv v (by omega);obtain⟨a,c⟩:=x 0 (by omega);have H:=c.lt;rw[c.id]at b⊢;exact G6 w0 p1 n c1 ns M.nds M.cap M.len p tab i o _ rfl (by omega) j a c.at_ _ (Wr.expr0 A (by omega) (by omega) (a8 _ b))
theorem afH(M:Mp w0 p1 n c1 ns)(A:OkA w0 p1 n c1 ns f)(j:f<ns.length):OkA w0 p1 n c1 ns (f+1):=
 ⟨fun b g=>ace M A j b g,
  fun h b c d k m g e a=>by
  simp only[rD]at a⊢;exact afG M A b h (by omega) (by omega) (by omega) m c d e a,
  fun h b r q p k i g l o c d e a=>by
  simp only[xl]at a⊢;exact Bz M A b h (by omega) (by omega) (by omega) i r q p l o c d e a⟩
theorem okA(M:Mp w0 p1 n c1 ns):∀f,f<=ns.length->OkA w0 p1 n c1 ns f
 |0,_=>OkA.zero w0 p1 n c1 ns
 |f+1,h=>afH M (okA M f (by omega)) (by omega)
end
open Go.Lib (strCells strCells_length)
theorem Fg(T:ByteArray):strCells T=B8 (ux T.data.toList):=by
 unfold strCells B8 ux;rw[List.map_map];rfl
theorem acf{w:Z}{base g n cap:Nat}{T:ByteArray}(a:w.ownsRow base 5 1 (O (Q ⟨g,0,A0⟩) n cap) n (strCells T)):
  (convert 22 9 (O (Q ⟨g,0,A0⟩) n cap)).run A6 w= .ok (A5 T) w:=by
 rw[Fg]at a;rw[pd a,xh]
def iK(ns:List Nd):ByteArray:=if(cF ns).1=0 then EA ns else⟨#[]⟩
theorem jm.below{w b:Z}{p1:Addr}{n c1:Nat}{ns:List Nd}(h:jm w p1 ns)(k:co w (O (Q p1) n c1) ns)(l:A2 w.heap.size w b):jm b p1 ns:=by
 intro m a c d i g;obtain⟨p,j,q,o,e⟩:=k.get i;cases j;have:=ah l e.c8;rw[this]at g;obtain rfl:o= O c a.ks.length d:=by simpa using g
 exact h m a c d i e.c8
theorem J2{ns:List Nd}(h:(cF ns).1=0):0<ns.length/\ns.length<=3000/\(ad ns ((ns.length:Int)-1)).k=1:=by
 have e:=lL h;have:=e.len;unfold cF at h;by_cases b:gJ ns=A9
 ·rw[ab b]at h;exact absurd h (by decide)
 ·have c:gJ ns=B3:=by simpa using b
  have d:=lB c;refine⟨by omega,by omega,?_⟩;by_cases a:(ns.getD (ns.length-1) nI).k=1
  ·unfold ad;rw[show((ns.length:Int)-1).toNat=ns.length-1 by omega];rw[bc,aE (by omega)]at a⊢;exact a
  ·exact absurd (.inr (.inr a)) d
theorem Pr.new(a:Z)(b:A3):Pr a b A4 0 (a.alloc (A1 #[b,O A0 0 0,U V 0] 92)):=
 ⟨(ai _ a).alloc (ag _) _,O A0 0 0,ar a _,bi _ _ _ _⟩
theorem Cw(w:Z)(p1:Addr)(n c:Nat)(ns:List Nd)(h:co w (O (Q p1) n c) ns)(b2:jm w p1 ns)(ap:ns.length=n)(eb:n<=1048576)(cr:∀N∈ns,iy N)(b3:∀N∈ns,aiJ N):
  B1 A6 18 #[.agg #[O (Q p1) n c]] w fun e dj=>e= A7 (A5 (iK ns))/\A2 w.heap.size w dj:=by
 have bE:∀t,A2 w.heap.size w (w.alloc t):=fun t=>(ai _ w).alloc (ag _) t;have o:=tH h b2 b3 ap;have bk:=fun t=>rm (w.alloc t) (O (Q p1) n c) ns (h.below (bE t)) (by omega) cr;obtain⟨bq,bb⟩:=aA ((cF ns).1);obtain⟨k,bA⟩:=aA ((cF ns).2);rw[bb,bA]at bk;have G:=aj bb;clear h cr b3 ap bb bA b2;go_in;go_wp2_with fail;have bp:=ar w (A1 #[O (Q p1) n c] 26);have da:(w.alloc (A1 #[O (Q p1) n c] 26)).heap.size=w.heap.size+1:=bu _ _;refine cd (bk _) fun w1 z=>?_;have F:=(z.block _ (by omega)).trans bp;have B:A2 w.heap.size w w1:=(bE _).trans (z.mono (by omega));clear bp z bk;by_cases y:bq=0
 ·subst y;have c1:=cK F;have ec:=au F;have c0:((0:Int)!=0)=B3:=rfl;have am:A2 w1.heap.size w1 (w1.alloc (A1 #[U V 0,U V k] 48)):=(ai _ w1).alloc (ag _) _;have l:A2 w.heap.size w (w1.alloc (A1 #[U V 0,U V k] 48)):=B.trans (am.mono B.size);have J:(w1.alloc (A1 #[U V 0,U V k] 48)).cell? ⟨w.heap.size,0,A0⟩=Q (O (Q p1) n c):=ah am c1;obtain⟨dg,cp,bl⟩:=J2 G.out;have ap:=o.out.2.2.2;obtain⟨b,rfl⟩:∃b,n=b+1:=⟨n-1,by omega⟩;have bd:ad ns ((ns.length:Int)-1)=ad ns (b:Int):=by congr 1;omega
  rw[bd]at bl;obtain⟨d2,dx,d4,bs,j,bt,I⟩:=fG o.out.1 o.out.2.1 (show b<ns.length by omega);have a8:=(I.rd _ (l.trans (((ai _ _).alloc (ag _) (A1 #[O (Q p1) (b+1) c,O A0 0 0,U V 0] 92)).mono l.size))).c8;have d5:((b:Int)+1)-1=(b:Int):=by omega
  have ee:(0:Int)<=(b:Int):=by omega
  have ef:(b:Int)<(b:Int)+1:=by omega
  have M:Mp (w1.alloc (A1 #[U V 0,U V k] 48)) p1 (b+1) c ns:=by
   refine⟨o.out.1.below l,o.out.2.1.below o.out.1 l,ap,by omega,ae5 G.out,fun cf=>?_,fun cf=>?_⟩;all_goals
    unfold ad;rw[bc];cases e:ns[cf.toNat]? with
    |none=>decide
    |some N=>have:=(o.out.2.2.1 N (dl e)).n;simp only[ii];omega
  have b6:=J0 M.sz M.n1 (by omega) (by omega);have a3:=Pr.new (w1.alloc (A1 #[U V 0,U V k] 48)) (O (Q p1) (b+1) c);have a4:=aj a3;have a7:((w1.alloc (A1 #[U V 0,U V k] 48)).alloc (A1 #[O (Q p1) (b+1) c,O A0 0 0,U V 0] 92)).cell? ⟨w.heap.size,0,A0⟩=Q (O (Q p1) (b+1) c):=ah ((ai _ _).alloc (ag _) _) J;generalize c5:w1.alloc (A1 #[U V 0,U V k] 48)=p at M a4 a3 a7 J a8 l am;have A:=okA M ns.length (ag _);obtain⟨b9,c7⟩:=je (M.sz.nb b (by omega));have b1:=sC b9 bl;have bf:=I.hL;obtain⟨r,u⟩:=aA ((ad ns (b:Int)).ks);obtain⟨d,ao⟩:∃d,(r.map fun a=>rD ns ns.length a 0++(⟨#[10]⟩:ByteArray))=d:=⟨_,rfl⟩;have b5:jl ns=iA d:=by unfold jl;rw[bd,u,ao]
  have cb:∀v∈r,∃g:Nat,v=(g:Int)/\g<ns.length/\ja (ad ns g).k=A9:=by
   intro v a1;rw[<-u]at a1;obtain⟨cl,c6,rfl⟩:=oG a1;obtain⟨ds,cc⟩:=il (M.sz.nb b (by omega)) (by omega) cl c6;have:=Dr _ 0 b1 cl (by omega) (by omega);rw[cc.id]at this⊢;exact⟨ds,rfl,cc.len,this⟩
  have b4:aK p (O bs j bt) r:=by rw[<-u];exact I.ks.below l
  have i:Ax (OkA p p1 (b+1) c ns ns.length/\aK p (O bs j bt) r/\(∀v∈r,∃g:Nat,v=(g:Int)/\g<ns.length/\ja (ad ns g).k=A9)/\r.length=j/\(r.map fun a=>rD ns ns.length a 0++(⟨#[10]⟩:ByteArray))=d/\jl ns=iA d/\(jl ns).size<=6000000000/\ns.length<=3000/\d.length=j):=⟨A,b4,cb,by rw[<-u];exact bf,ao,b5,b6,cp,by rw[<-ao,dL,<-u];exact bf⟩;have d7:j<=200:=by omega
  have a2:=aj l;subst c5;clear A b9 b1 bf u ao b5 cb b4 b6 M a3 I bd dg cp bl c7 F am B da l;go_wp2_with fail;have bj:(w1.alloc (A1 #[U V 0,U V k] 48)).heap.size=w1.heap.size+1:=bu _ _;generalize w1.alloc (A1 #[U V 0,U V k] 48)=p at a4 i a2 J a7 a8 bj⊢;have a5:=aj bj;clear bj;go_loopw [25] (fun bo wr=>∃a:Nat,a<=j/\bo= U V a/\Ax (Pr p (O (Q p1) (b+1) c) (iA (d.take a)) 0 wr)) (fun bo _=>j-(Br bo).toNat)
  case atStart=>exact⟨0,by omega,rfl,a4.out⟩
  case round=>
   clear a7 a8 J c1;obtain⟨a,d8,rfl,x⟩:=hrel;by_cases c9:a<j
   ·obtain⟨v,a0⟩:=bH i.out.2.2.2.1 c9;obtain⟨g,rfl,b7,b8⟩:=i.out.2.2.1 v (dl a0);obtain⟨d1,rfl,cz⟩:=(i.out.2.1.below x.out.bel).get a0;have ea:(a:Int)<(j:Int):=by omega
    have d9:(0:Int)<=(a:Int):=by omega
    have ca:d[a]?=Q (rD ns ns.length g 0++⟨#[10]⟩):=by rw[<-i.out.2.2.2.2.1,cA,a0];rfl
    have a9:=xo d a _ ca;have ba:=Ly d (a+1);have bx:=i.out.2.2.2.2.2.2.1;rw[i.out.2.2.2.2.2.1]at bx;rw[a9]at ba;simp only[ae]at ba;have a1:(iA (d.take a)).size+((rD ns ns.length g 0).size+1)<=6000000000:=by
     have e:(⟨#[10]⟩:ByteArray).size=1:=rfl;omega
    have E:=i.out.1.s g 0 (iA (d.take a)) wr b7 b8 (by have:=i.out.2.2.2.2.2.2.2.1;omega) x.out (by show _+(rD ns ns.length g 0).size<=_;omega);have br:=aj a9;simp only at E;obtain⟨d0,bD⟩:=aA (rD ns ns.length g 0);rw[bD]at E br a1;rw[a5.out]at E;clear a9 ba bx a0 ca bD b7 b8;go_wp2_with fail;refine E.mono ?_;rintro e eg ⟨rfl,cq,dc⟩;have ct:=aj cq;clear cq dc cz E;go_wp2_with fail;have cm:=aC p _ _ ⟨#[10]⟩ _ _ ct.out (by rw[ae];show _+_+1<=_;omega);rw[a5.out]at cm;refine cm.mono ?_;rintro e eh ⟨rfl,bn,dd⟩;rw[aB,<-br.out]at bn;have cu:=aj bn;clear bn dd;go_wp2_with fail;exact⟨⟨a+1,by omega,by go_num,cu.out⟩,by simp[Br];omega⟩
   ·obtain rfl:a=j:=by omega
    have af:d.take a=d:=cI (by rw[i.out.2.2.2.2.2.2.2.2];exact ag _);rw[af,<-i.out.2.2.2.2.2.1]at x;have a6:A2 w.heap.size w wr:=a2.out.trans (x.out.bel.mono a2.out.size);obtain⟨t,al,q⟩:=x.out.row;have m:Ax (iK ns=if 65536<(jl ns).size then A4 else jl ns):=by show _=_;unfold iK EA;rw[ab G.out]
    have ce:=i.out.2.2.2.2.2.2.1;obtain⟨D,L⟩:=aA (jl ns);rw[L]at q m ce;obtain⟨K,C⟩:=aA D.size;rw[C]at q m ce;obtain⟨cy,cB,rfl⟩:=cH q;have dp:wr.cell? ⟨p.heap.size,1,A0⟩=Q (O cy K cB):=by rw[ay _ _ _ _ _ _ al];rfl
    rw[a5.out]at dp;by_cases b0:65536<K
    ·have H:Ax (iK ns=A4):=by show _=_;rw[m.out,ab b0]
     have z:(65536:Int)<(K:Int):=by omega
     clear af L m q al C;go_wp2_with fail;go_ret;exact⟨by rw[H.out];rfl,a6⟩
    ·have H:Ax (iK ns=D):=by show _=_;rw[m.out,aa b0]
     have z:¬(65536:Int)<(K:Int):=by omega
     rcases bK q with⟨y,e⟩|⟨d6,d3,e⟩
     ·cases e;have c4:D=⟨#[]⟩:=by
       apply jh;have:D.data.size=0:=C;exact Array.eq_empty_of_size_eq_zero this
      have df:(convert 22 9 (O A0 0 0)).run A6 wr= .ok (A5 ⟨#[]⟩) wr:=by kernel_rfl
      clear af L m q al C;go_wp2_with fail;go_ret;exact⟨by rw[H.out,c4];rfl,a6⟩
     ·cases e;have df:=acf q;clear af L m al C;go_wp2_with fail;go_ret;exact⟨by rw[H.out];rfl,a6⟩
 ·have c0:(bq !=0)=A9:=by rw[zh];exact y
  have c1:=cK F;have cx:Ax (iK ns=⟨#[]⟩):=by show _=_;unfold iK;rw[aa (by rw[G.out];exact y)]
  clear y;go_wp2_with fail;go_ret;exact⟨by rw[cx.out];rfl,B.trans (((ai _ w1).alloc (ag _) _).mono B.size)⟩
end Go.Proofs.YtoahhnnflblfaaaGreatDoor
namespace Go.Proofs.YtoahhnnflblfaaaGreatDoor
open Go.RowKit Go.Maps Go.WideMaps
theorem aij:(Tryz.prog.info? 88).map (fun i=>(i.zero,i.size,i.bytes))=Q (Q (.agg #[U V 0,U V 0,U V 0,U V 0,U V 0,A5 ⟨#[]⟩]),6,56):=by kernel_rfl
theorem Hr{c h:Z}{o:Obj}{base e size n:Nat}{v:A3}{q:List A3}(m:c.ownsRow base e size v n q)(l:(c.alloc o).grownBy h v.ownBlock){k:Nat}{cs:Array A3}{t:B5}{fr:Nat×Nat}(b:c.heap[k]?=Q (A1 cs t fr))(p:t≠e):h.heap[k]?=Q (A1 cs t fr):=by
 refine(l.block k (by simp;have:=au b;omega) (fun i=>?_)).trans ((dt _ _ _ (au b)).trans b);have a:v.ownBlock=Q k:=i.symm;rcases m.2 with⟨d,_⟩|⟨j,r,s,d,_,g,_⟩
 ·rw[d]at a;simp[B2]at a
 ·rw[d]at a;obtain rfl:j=k:=by simpa [B2] using a
  rw[b]at g;simp only[iq,lC]at g;exact p g.2.1
theorem uh.app{a g:Z}{o:Obj}{base mb:Nat}{C:List (Int×Int)}(h:uh a base mb C){i e size n:Nat}{v:A3}{y:List A3}(d:a.ownsRow i e size v n y)(c:(a.alloc o).grownBy g v.ownBlock)(m:66≠e)(p:101≠e):uh g base mb C:=by
 obtain⟨x,t,u,b⟩:=h.ex;refine⟨⟨x,Hr d c t m,u,?_⟩,h.lo⟩;rcases b with b|⟨l,j,k,s,r,q,w⟩
 ·exact .inl b
 ·exact .inr ⟨l,j,k,s,r,Hr d c q p,w⟩
theorem uh.other{a:Z}{base mb b:Nat}{C:List (Int×Int)}(h:uh a base mb C){cs:Array A3}{t:B5}{fr:Nat×Nat}(x:a.heap[b]?=Q (A1 cs t fr))(u:t≠66)(w:t≠101)(j:Nat)(v:A3):uh (a.setCell ⟨b,j,A0⟩ v) base mb C:=by
 obtain⟨G,g,E,d⟩:=h.ex;have k:∀{i:Nat}{o:Array A3}{l:B5}{r:Nat×Nat},a.heap[i]?=Q (A1 o l r)->t≠l->i≠b:=fun c z q=>by
  subst q;rw[x]at c;simp only[iq,lC]at c;exact z c.2.1
 refine⟨⟨G,(bh _ _ _ _ (k g u)).trans g,E,?_⟩,h.lo⟩;rcases d with d|⟨s,m,p,B,y,e,F⟩
 ·exact .inl d
 ·exact .inr ⟨s,m,p,B,y,(bh _ _ _ _ (k e w)).trans e,F⟩
theorem BA{a:Z}{base e size n b:Nat}{v:A3}{c:List A3}(h:a.ownsRow base e size v n c)(d:∀g,v.ownBlock=Q g->g<b)(j:Nat)(u:A3):(a.setCell ⟨b,j,A0⟩ u).ownsRow base e size v n c:=by
 refine h.kept (row:=Q b) ⟨rfl,rfl,rfl,by simp[World.setCell],fun l k i=>bh _ _ _ _ (fun e=>i (by rw[e]))⟩ ?_;cases hv:v.ownBlock with
 |none=>exact .inl rfl
 |some g=>exact .inr (fun e=>by have:=d g hv;obtain rfl:=db e;omega)
structure Hs (w:Z) (base mb:Nat) (s:ByteArray) (R:List Tk×List Int×Int) (p:Nat) (st:List Int) (top:Int) (C:List (Int×Int)) (l:Int) (out:List Tk) (f:Nat) (vo:A3) (W:Z):Prop where
 m:uh W base mb C
 sk:ot C top st
 o:De st
 bl:A2 base w W
 row:W.ownsRow base 88 6 vo out.length (Ae out)
 eq:sE s f st p l out=R
 cl:2<=C.length/\C.length<=2+20*p
 ol:out.length<=p
 l0:1<=l/\l<=(p:Int)+1
theorem Hs.below{w:Z}{base mb:Nat}{s:ByteArray}{R:List Tk×List Int×Int}{p:Nat}{st:List Int}{e:Int}{C:List (Int×Int)}{l:Int}{d:List Tk}{f:Nat}{g:A3}{a c:Z}(h:Hs w base mb s R p st e C l d f g a)(b:A2 a.heap.size a c)(i:base<=a.heap.size):Hs w base mb s R p st e C l d f g c:=
 ⟨h.m.below b,h.sk,h.o,h.bl.trans (b.mono i),aI h.row b,h.eq,h.cl,h.ol,h.l0⟩
def Ht(w:Z)(base mb:Nat)(s:ByteArray)(R:List Tk×List Int×Int)(e:Ending)(b:Z):Prop:=
 ∃(c:Option Addr) (d:Nat) (g:Int) (a:List (Int×Int)),e= A7 (B4 #[O c R.1.length d,U V g,U V R.2.2])/\b.ownsRow base 88 6 (O c R.1.length d) R.1.length (Ae R.1)/\uh b base mb a/\ot a g R.2.1/\De R.2.1/\A2 base w b/\2<=a.length/\a.length<=2000000
theorem J3(w:Z)(base mb:Nat)(s:ByteArray)(h:uh w base mb [])(d2:s.size<=70000):
  B1 A6 19 #[.pointer (Q ⟨mb,0,A0⟩),.string s] w (Ht w base mb s (ou s)):=by
 unfold ou;obtain⟨I,c0⟩:=aA (sE s (s.size+1) [100,6] (blk s (s.size+1) 0) 1 []);rw[c0];have fA:base<=w.heap.size:=by obtain⟨v,fg,_⟩:=h.ex;have:=au fg;have:=h.lo;omega
 have eL:=abt w base mb h;have c4:=fun w=>ru s (by omega) 0 (aG _) w;have ep:=pq s (s.size+1) 0 (aG _);obtain⟨en,eo⟩:=aA (blk s (s.size+1) 0);rw[eo]at c0 c4 ep;rw[show(((0:Nat):Int))=0 from rfl]at c4;have el:=aj c0;clear c0 h eo;go_in;go_wp2_with fail;refine eL.mono ?_;rintro B w1 ⟨rfl,e0,p1,i⟩;clear eL;have e1:Hs w base mb s I en [100,6] 1 [(6, -1),(100,0)] 1 [] (s.size+1) (.slice A0 0 0) w1:=by
  refine⟨e0,⟨1,0,rfl,rfl,0, -1,rfl,rfl,rfl⟩,?_,i,bi _ _ _ _,el.out,⟨by simp,by simp⟩,by simp,⟨by omega,by omega⟩⟩;intro k a8;simp at a8;omega
 have em:=aj e1;clear e1 e0 p1 i;go_wp2_with (go_at_call 35;refine fc (c4 _) ?_);clear c4;obtain⟨d5,d6,d7,d8,d9⟩:=fl aij;go_loopw [7,8,9,10] (fun gt e3 gs eh wr=>∃(a:Nat) (g:List Int) (x:Int) (q:List (Int×Int)) (d:Int) (t:List Tk) (f:Nat),eh= .int .i64 a/\gs= .int .i64 d/\gt= .int .i64 x/\(∃e5 e7,∃f1:Nat,e3= .slice e5 f1 e7)/\a<=s.size/\s.size<a+f/\Ax (Hs w base mb s I a g x q d t f e3 wr)) (fun _ _ _ eh _=>s.size+1-(Br eh).toNat)
 case atStart=>exact⟨en,_,1,_,1,[],s.size+1,rfl,rfl,rfl,⟨_,_,_,rfl⟩,ep.2,by omega,em⟩
 case round=>
  obtain⟨a,g,x,q,d,t,f,rfl,rfl,rfl,⟨cz,cB,ce,rfl⟩,hi,he,z⟩:=hrel;clear em el;obtain⟨f,rfl⟩:∃bf,f=bf+1:=⟨f-1,by omega⟩;obtain⟨g5,g7,fb⟩:=cH z.out.row;cases fb;have c:=z.out.eq;rw[sE]at c;have er:base<=wr.heap.size:=dh fA z.out.bl.size;have ew:=z.out.ol;by_cases b4:a<s.size
  ·rw[aa (by omega)]at c;have fv:(a:Int)<(s.size:Int):=by omega
   have eb:=fun w=>JJ s d2 a b4 w;have dn:=ald s a;obtain⟨e,dj⟩:=aA (rA s a);rw[dj]at eb c dn;have cx:=aj dj;obtain⟨ce,a6⟩:=aA t.length;have C:=aj a6;rw[a6]at ew⊢;have bq:Ax ((if e=7 then(if(dB g 5).2=A9 then sE s f (dB g 5).1 (blk s (s.size+1) (eE s a).a) (d+1) (t++[⟨5,(a:Nat),((eE s a).a:Nat),d,(eE s a).n,(eE s a).x⟩]) else sE s f g (blk s (s.size+1) (eE s a).a) (d+1) t)
    else if(Bp g e).2=A9 then(if(eE s a).ok=A9 then sE s f (dB g e).1 (blk s (s.size+1) (eE s a).a) d (t++[⟨e,(a:Nat),((eE s a).a:Nat),d,(eE s a).n,(eE s a).x⟩]) else([],g,((eE s a).a:Nat)))
    else([],g,(wrongF s a (GD g):Nat)))=I):=c
   clear c dj a6;go_wp2_with fail;refine(eb _).mono ?_;rintro B w1 ⟨l,n,k,dc,rfl,eF,dp⟩;have cy:Ax (Hs w base mb s I a g x q d t (f+1) (.slice cz t.length cB) w1):=z.out.below dp er;have fB:=dp.size;have an:=aj eF;clear eb dp z eF;obtain⟨i,ds⟩:=aA w1.heap.size;go_upto_region 8 with fail
   have a3:gK i (w1.alloc (.cells #[.int .i64 e,.int .i64 a,.int .i64 l,.int .i64 d,.int .i64 n,.string k] 88)) e a l d n k:=by rw[<-ds];exact ar w1 _
   have b:Ax (Hs w base mb s I a g x q d t (f+1) (.slice cz t.length cB) (w1.alloc (.cells #[.int .i64 e,.int .i64 a,.int .i64 l,.int .i64 d,.int .i64 n,.string k] 88))):=cy.out.below (bI w1 _) (by omega);have c3:∀bf,(Value.slice cz ce cB).ownBlock=Q bf->bf<i:=fun bf fq=>by
    have eA:=cy.out.row;rw[C.out]at eA;have:=(eA.lt bf fq).2;omega
   have c2:i≠mb:=by
    obtain⟨ei,K,_⟩:=cy.out.m.ex;have:=au K;omega
   have fz:(w1.alloc (.cells #[.int .i64 e,.int .i64 a,.int .i64 l,.int .i64 d,.int .i64 n,.string k] 88)).heap.size=i+1:=by rw[bu,ds]
   generalize w1.alloc (.cells #[.int .i64 e,.int .i64 a,.int .i64 l,.int .i64 d,.int .i64 n,.string k] 88)=c8 at a3 b fz⊢;have hc:=b.out.cl.2;have hd:=b.out.cl.1;have hb:base<=i:=by omega
   have hh:=b.out.l0;obtain⟨f9,gb,gd,ge,gf,gm,gr⟩:=cJ a3;clear cy ds fB er;by_cases dg:e=7
   ·subst dg;obtain⟨d3,fu⟩:=aif s a cx.out;obtain⟨bk,d1,a7,b5,a8,d0⟩:=an.out.yes d3;clear d1 d0;have ak:=qa s a b4 d3;have c:=bq.out;rw[ab rfl,<-b5,<-a8]at c;obtain⟨A,bA⟩:=aA ((eE s a).a);rw[bA]at c a7 ak;subst bk;have a0:=fun w=>ru s (by omega) A (by omega) w;have bj:=pq s (s.size+1) A (by omega);obtain⟨br,bD⟩:=aA (blk s (s.size+1) A);rw[bD]at c a0 bj;rw[<-a7]at a0 c;have b9:=qE b.out.o (show(1:Int)<=5 by omega) (by omega);have r:=vL c8 base mb q g x 5 b.out.m b.out.sk b.out.o (by omega) (by omega) (by omega);obtain⟨bs,bE⟩:=aA (dB g 5);rw[bE]at r c b9;unfold sr at r;obtain⟨ef,b8⟩:=aA bs.2;rw[b8]at r c;have fk:a<A/\A<=s.size:=⟨ak.1,ak.2.1⟩;clear b5 a8 bE b8 d3 fu ak bA bD cx an bq a7;go_wp2_with fail;refine r.mono ?_;rintro B p ⟨cf,D,rfl,H,a1,a5,m,G⟩;cases ef with
    |false=>
     rw[aa (by simp)]at c;have bo:=aj c;have y:gK i p 7 a l d n k:=m.blk a3 (by decide) c2;obtain⟨ei,K,_⟩:=b.out.m.ex;have row3:=m.row K b.out.row (by decide) (by decide);have e4:Ax (Hs w base mb s I br g x (q++D) (d+1) t f (.slice cz ce cB) p):=
      ⟨H,b.out.sk.app D,b.out.o,b.out.bl.trans G,by rw[<-C.out]at *;exact row3,bo.out,⟨by rw[aF];omega,by rw[aF];omega⟩,by rw[C.out];omega,⟨by omega,by omega⟩⟩
     obtain⟨ck,cn,cp,cq,cr,ct,cu⟩:=cJ y;clear r c a3 y row3 K H a1 m G b f9 gb gd ge gf gm gr;go_wp2_with (go_at_call 35;refine fc (a0 _) ?_);exact⟨⟨br,g,x,q++D,d+1,t,f,rfl,by go_num,rfl,⟨_,_,_,rfl⟩,bj.2,by omega,e4⟩,by simp[Br];omega⟩
    |true=>
     rw[ab rfl]at c;have bo:=aj c;clear c;have y:gK i p 7 a l d n k:=m.blk a3 (by decide) c2;obtain⟨ei,K,_⟩:=b.out.m.ex;have row3:=m.row K b.out.row (by decide) (by decide);rw[C.out]at row3;have bw:=b.out.bl.trans G;have f0:=m.size;have F:gK i (p.setCell ⟨i,0,A0⟩ (.int .i64 5)) 5 a l d n k:=y.setKind 5;have cb:=H.other (j:=0) (v:= .int .i64 5) (show p.heap[i]?=Q (.cells _ _ _) from y) (by decide) (by decide);have bb:=BA (j:=0) (u:= .int .i64 5) row3 c3;have bx:A2 base w (p.setCell ⟨i,0,A0⟩ (.int .i64 5)):=bw.setCell (by simp;omega) _;have bn:=eH a1 a5;obtain⟨ck,cn,cp,cq,cr,ct,cu⟩:=cJ y;clear r y H row3 bw K a1 a5 m G;go_upto_region 24 with fail
     generalize p.setCell ⟨i,0,A0⟩ (.int .i64 5)=a4 at F cb bb bx⊢;obtain⟨gv,gz,g0,g1,g2,g3,g4⟩:=cJ F;have E:=aj bb;have c5:=aj F;have dx:i<a4.heap.size:=au F;clear F bb ck cn cp cq cr ct cu;go_wp2_with (first|(at_builtin;refine pH _ rfl _ _ 43 rfl base 88 d5 _ 6 56 Tryz.underlying43 d6 d7 d8 d9 rfl (by decide) _ _ _ rfl (E.out.alloc _) ⟨a4.heap.size,0,A0⟩ 1 1 [.int .i64 5,.int .i64 a,.int .i64 l,.int .i64 d,.int .i64 n,.string k] rfl rfl (A8 (cs:=#[.int .i64 5,.int .i64 a,.int .i64 l,.int .i64 d,.int .i64 n,.string k]) (fr:=(0,0)) (ar a4 _)) (by intro u ap;simp at ap;rcases ap with rfl|rfl|rfl|rfl|rfl|rfl<;>rfl) (by unfold B6;omega) (by omega) (by simp;omega) ?_;intro e2 bd ao J ev;obtain⟨df,dd,rfl⟩:=B0 ao;have c7:gK i bd 5 a l d n k:=(J.block i (by simp;omega) (fun B=>by have:=c3 i B.symm;omega)).trans ((dt _ _ _ dx).trans c5.out);obtain⟨f2,f3,f4,f5,f6,f7,f8⟩:=cJ c7)|(go_at_call 35;refine fc (a0 _) ?_));have cc:=cb.app E.out J (by decide) (by decide);have bt:A2 base w bd:=(bx.alloc (by omega) _).grown J (by simp;omega) (fun ca b2=>(E.out.lt ca b2).1);refine⟨⟨br,bs.1,cf,q++D,d+1,t++[⟨5,(a:Nat),l,d,n,k⟩],f,rfl,by go_num,rfl,⟨_,_,_,rfl⟩,bj.2,by omega,⟨cc,bn.out.1,?_,bt,?_,?_,?_,?_,?_⟩⟩,by simp[Br];omega⟩
     ·exact b9
     ·rw[aF,C.out,Af];exact ao
     ·exact bo.out
     ·have:=b.out.cl;have:=bn.out.2;rw[aF];omega
     ·rw[aF,C.out];simp;omega
     ·have:=b.out.l0;omega
   ·have c:=bq.out;rw[aa dg]at c;have g8:(e==7)=B3:=beq_eq_false_iff_ne.2 dg;by_cases ff:e=0
    ·subst ff;rw[show Bp g 0=(g,B3) from rfl,aa (by simp)]at c;have al:=aj c;clear c bq an cx;obtain⟨a2,af⟩:=aA (GD g);have fo:a2.length<=78:=by rw[<-af];exact tm g 78
     have ba:=Li c8 base mb q g x b.out.m b.out.sk b.out.o (by omega) (by omega);rw[af]at ba;have L:Ax ((([]:List Tk),g,((wrongF s a a2:Nat):Int))=I):=by rw[<-af];exact al.out
     clear af;go_wp2_with fail;refine ba.mono ?_;rintro B ek ⟨e6,e8,rfl,eg,ee,ea,da⟩;have ec:=ye ek s a _ a2 (qw eg) (by omega) d2 b4;clear ba;go_wp2_with (go_at_call 37;refine ec.mono ?_;rintro B gu ⟨rfl,b0⟩);go_ret3
     refine⟨A0,0,x,q,?_,?_,ee.below b0,?_,?_,?_,?_,?_⟩
     ·rw[<-L.out];rfl
     ·rw[<-L.out];exact bi _ _ _ _
     ·rw[<-L.out];exact b.out.sk
     ·rw[<-L.out];exact b.out.o
     ·exact(b.out.bl.trans da).trans (b0.mono (by have:=ea.size;first|omega|(have:=m.size;omega)))
     ·have:=b.out.cl;omega
     ·have:=b.out.cl;omega
    ·have fn:0<e:=by omega
     have es:Bp g e=dB g e:=by unfold Bp;rw[ab fn]
     rw[es]at c;have b9:=qE b.out.o (show(1:Int)<=e by omega) dn.2;have r:=vL c8 base mb q g x e b.out.m b.out.sk b.out.o (by omega) dn.2 (by omega);obtain⟨bs,bE⟩:=aA (dB g e);rw[bE]at r c b9;unfold sr at r;obtain⟨ef,b8⟩:=aA bs.2;rw[b8]at r c;clear bE b8 es bq cx;cases ef with
     |false=>
      rw[aa (by simp)]at c;have al:=aj c;clear c an;go_wp2_with fail;refine r.mono ?_;rintro B p ⟨cf,D,rfl,H,a1,a5,m,G⟩;have y:gK i p e a l d n k:=m.blk a3 (by decide) c2;obtain⟨ck,cn,cp,cq,cr,ct,cu⟩:=cJ y;clear r;obtain⟨a2,af⟩:=aA (GD g);have fo:a2.length<=78:=by rw[<-af];exact tm g 78
      have ba:=Li p base mb (q++D) g x H (b.out.sk.app D) b.out.o (by rw[aF];omega) (by rw[aF];omega);rw[af]at ba;have L:Ax ((([]:List Tk),g,((wrongF s a a2:Nat):Int))=I):=by rw[<-af];exact al.out
      clear af;go_wp2_with fail;refine ba.mono ?_;rintro B ek ⟨e6,e8,rfl,eg,ee,ea,da⟩;have ec:=ye ek s a _ a2 (qw eg) (by omega) d2 b4;clear ba;go_wp2_with (go_at_call 37;refine ec.mono ?_;rintro B gu ⟨rfl,b0⟩);go_ret3
      refine⟨A0,0,x,q++D,?_,?_,ee.below b0,?_,?_,?_,?_,?_⟩
      ·rw[<-L.out];rfl
      ·rw[<-L.out];exact bi _ _ _ _
      ·rw[<-L.out];exact(b.out.sk.app D)
      ·rw[<-L.out];exact b.out.o
      ·exact((b.out.bl.trans G).trans da).trans (b0.mono (by have:=ea.size;first|omega|(have:=m.size;omega)))
      ·have:=b.out.cl;rw[aF];omega
      ·have:=b.out.cl;rw[aF];omega
     |true=>
      rw[ab rfl]at c;cases hokI:(eE s a).ok with
      |false=>
       rw[hokI,aa (by simp)]at c;have bk:=an.out.no hokI;have g9:¬dc<0:=by omega
       have al:Ax ((([]:List Tk),g,dc)=I):=by rw[bk];exact c
       clear c an bk hokI;go_wp2_with fail;refine r.mono ?_;rintro B p ⟨cf,D,rfl,H,a1,a5,m,G⟩;have ha:(0:Int)<=dc:=by omega
       clear r;go_wp2_with fail;go_ret3
       refine⟨A0,0,x,q++D,?_,?_,H,?_,?_,b.out.bl.trans G,?_,?_⟩
       ·rw[<-al.out];rfl
       ·rw[<-al.out];exact bi _ _ _ _
       ·rw[<-al.out];exact b.out.sk.app D
       ·rw[<-al.out];exact b.out.o
       ·rw[aF];omega
       ·rw[aF];omega
      |true=>
       rw[hokI,ab rfl]at c;obtain⟨bk,d1,a7,b5,a8,d0⟩:=an.out.yes hokI;clear d1 d0;have ak:=qa s a b4 hokI;rw[<-b5,<-a8]at c;obtain⟨A,bA⟩:=aA ((eE s a).a);rw[bA]at c a7 ak;subst bk;have a0:=fun w=>ru s (by omega) A (by omega) w;have bj:=pq s (s.size+1) A (by omega);obtain⟨br,bD⟩:=aA (blk s (s.size+1) A);rw[bD]at c a0 bj;rw[<-a7]at a0 c;have fk:a<A/\A<=s.size:=⟨ak.1,ak.2.1⟩;have bo:=aj c;clear c b5 a8 ak bA bD an a7 hokI;go_wp2_with fail;refine r.mono ?_;rintro B p ⟨cf,D,rfl,H,a1,a5,m,G⟩;have y:gK i p e a l d n k:=m.blk a3 (by decide) c2;obtain⟨ei,K,_⟩:=b.out.m.ex;have row3:=m.row K b.out.row (by decide) (by decide);rw[C.out]at row3;have bw:=b.out.bl.trans G;have f0:=m.size;have F:gK i (p.setCell ⟨i,0,A0⟩ (.int .i64 e)) e a l d n k:=y.setKind e;have cb:=H.other (j:=0) (v:= .int .i64 e) (show p.heap[i]?=Q (.cells _ _ _) from y) (by decide) (by decide);have bb:=BA (j:=0) (u:= .int .i64 e) row3 c3;have bx:A2 base w (p.setCell ⟨i,0,A0⟩ (.int .i64 e)):=bw.setCell (by simp;omega) _;have bn:=eH a1 a5;obtain⟨ck,cn,cp,cq,cr,ct,cu⟩:=cJ y;clear r y H row3 bw K a1 a5 m G;go_upto_region 24 with fail
       generalize p.setCell ⟨i,0,A0⟩ (.int .i64 e)=a4 at F cb bb bx⊢;obtain⟨gv,gz,g0,g1,g2,g3,g4⟩:=cJ F;have E:=aj bb;have c5:=aj F;have dx:i<a4.heap.size:=au F;clear F bb ck cn cp cq cr ct cu;go_wp2_with (first|(at_builtin;refine pH _ rfl _ _ 43 rfl base 88 d5 _ 6 56 Tryz.underlying43 d6 d7 d8 d9 rfl (by decide) _ _ _ rfl (E.out.alloc _) ⟨a4.heap.size,0,A0⟩ 1 1 [.int .i64 e,.int .i64 a,.int .i64 l,.int .i64 d,.int .i64 n,.string k] rfl rfl (A8 (cs:=#[.int .i64 e,.int .i64 a,.int .i64 l,.int .i64 d,.int .i64 n,.string k]) (fr:=(0,0)) (ar a4 _)) (by intro u ap;simp at ap;rcases ap with rfl|rfl|rfl|rfl|rfl|rfl<;>rfl) (by unfold B6;omega) (by omega) (by simp;omega) ?_;intro e2 bd ao J ev;obtain⟨df,dd,rfl⟩:=B0 ao;have c7:gK i bd e a l d n k:=(J.block i (by simp;omega) (fun B=>by have:=c3 i B.symm;omega)).trans ((dt _ _ _ dx).trans c5.out);obtain⟨f2,f3,f4,f5,f6,f7,f8⟩:=cJ c7)|(go_at_call 35;refine fc (a0 _) ?_));have cc:=cb.app E.out J (by decide) (by decide);have bt:A2 base w bd:=(bx.alloc (by omega) _).grown J (by simp;omega) (fun ca b2=>(E.out.lt ca b2).1);refine⟨⟨br,bs.1,cf,q++D,d,t++[⟨e,(a:Nat),l,d,n,k⟩],f,rfl,rfl,rfl,⟨_,_,_,rfl⟩,bj.2,by omega,⟨cc,bn.out.1,?_,bt,?_,?_,?_,?_,?_⟩⟩,by simp[Br];omega⟩
       ·exact b9
       ·rw[aF,C.out,Af];exact ao
       ·exact bo.out
       ·have:=b.out.cl;have:=bn.out.2;rw[aF];omega
       ·rw[aF,C.out];simp;omega
       ·have:=b.out.l0;omega
  ·rw[ab (by omega)]at c;have ey:a=s.size:=by omega
   obtain⟨ce,a6⟩:=aA t.length;have C:=eH a6 ey;have d4:=z.out.row;rw[a6]at ew d4⊢;have E:=aj d4;have bp:=aj c;have fv:¬(a:Int)<(s.size:Int):=by omega
   clear c a6 d4 ey;go_wp2_with (at_builtin;refine pH _ rfl _ _ 43 rfl base 88 d5 _ 6 56 Tryz.underlying43 d6 d7 d8 d9 rfl (by decide) _ _ _ rfl (E.out.alloc _) ⟨wr.heap.size,0,A0⟩ 1 1 [.int .i64 6,.int .i64 s.size,.int .i64 s.size,.int .i64 d,.int .i64 0,.string ⟨#[]⟩] rfl rfl (A8 (cs:=#[.int .i64 6,.int .i64 s.size,.int .i64 s.size,.int .i64 d,.int .i64 0,.string ⟨#[]⟩]) (fr:=(0,0)) (ar wr _)) (by intro u ap;simp at ap;rcases ap with rfl|rfl|rfl|rfl|rfl<;>rfl) (by unfold B6;omega) (by omega) (by simp;omega) ?_;intro e2 bd ao J ev;obtain⟨df,dd,rfl⟩:=B0 ao);go_ret3
   have cc:=z.out.m.app E.out J (by decide) (by decide);have bt:A2 base w bd:=(z.out.bl.alloc (by omega) _).grown J (by simp;omega) (fun ca b2=>(E.out.lt ca b2).1);have et:I.1.length=ce+1:=by rw[<-bp.out,aF,C.out.1];rfl
   refine⟨Q ⟨df,0,A0⟩,dd,x,q,?_,?_,cc,?_,?_,bt,z.out.cl.1,?_⟩
   ·rw[et,<-bp.out];rfl
   ·rw[et,<-bp.out,Af];exact ao
   ·rw[<-bp.out];exact z.out.sk
   ·rw[<-bp.out];exact z.out.o
   ·have:=z.out.cl.2;omega
theorem Fh:∀(c:List Tk)(q i:Nat)(T:Tk),c[q]?=Q T->i<6->(Ae c)[q*6+i]?=(cTk T)[i]?
 |[],q,i,T,h,b=>by simp at h
 |a::r,0,i,T,h,b=>by
  simp at h;subst h;show(cTk a++Ae r)[0*6+i]?=_;rw[iD (by show 0*6+i<6;omega),Nat.zero_mul,fE]
 |a::r,q+1,i,T,h,b=>by
  show(cTk a++Ae r)[(q+1)*6+i]?=_;rw[gF (by show 6<=_;omega),show(q+1)*6+i-(cTk a).length=q*6+i by show _-6=_;omega];exact Fh r q i T (by simpa using h) b
theorem alh{d:Array A3}{b:List Tk}{tk:Nat->Tk}{n:Nat}(h:d.toList.take (n*6)=Ae b)(o:b.length=n)(j:∀q T,b[q]?=Q T->{T with l:=(tk q).l}=tk q/\((tk q).k≠6->T.l=(tk q).l)):TkR d tk n:=by
 intro q p;have e:=aE (show q<b.length by omega);obtain⟨g,i⟩:=j q _ e;generalize b[q]=T at e g i;have a:∀c,c<6->d[q*6+c]?=(cTk T)[c]?:=fun c m=>by rw[<-Fh b q c T e m,<-h,mF,ab (by omega),sG]
 refine⟨T.l,?_,?_,?_,a 3 (by omega),?_,?_,i⟩;all_goals rw[<-g]
 ·exact a 0 (by omega)
 ·exact a 1 (by omega)
 ·exact a 2 (by omega)
 ·exact a 4 (by omega)
 ·exact a 5 (by omega)
def kD(s:ByteArray):List Tk×Int:=if 0<=(ou s).2.2 then([],(ou s).2.2) else if(dB (ou s).2.1 6).2=A9 then((ou s).1, -1) else([],(s.size:Nat))
def TkP(s:ByteArray)(w:Z)(e:Ending)(c:Z):Prop:=∃a b,e= A7 (B4 #[O a (kD s).1.length b,U V (kD s).2])/\c.ownsRow w.heap.size 88 6 (O a (kD s).1.length b) (kD s).1.length (Ae (kD s).1)/\A2 w.heap.size w c
theorem rv(w:Z)(s:ByteArray)(a2:s.size<=65536):B1 A6 11 #[A5 s] w (TkP s w):=by
 have z:uh (w.alloc (A1 #[O A0 0 0] 66)) w.heap.size w.heap.size []:=⟨⟨_,ar w _,bi _ _ _ _⟩,ag _⟩;have b:=J3 _ w.heap.size w.heap.size s z (by omega);have m:Ax (A2 w.heap.size w (w.alloc (A1 #[O A0 0 0] 66))):=bI w _;have e:Ax (kD s=if 0<=(ou s).2.2 then([],(ou s).2.2) else if(dB (ou s).2.1 6).2=A9 then((ou s).1, -1) else([],(s.size:Nat))):=rfl;obtain⟨⟨o,p,E⟩,r⟩:∃H,ou s=H:=⟨_,rfl⟩;rw[r]at b e;unfold Ht at b;simp only at b e;obtain⟨a3,g⟩:=aA o.length;rw[g]at b;clear r z;go_in;go_wp2_with fail;generalize w.alloc (A1 #[O A0 0 0] 66)=ap at b m⊢;refine b.mono ?_;rintro a C ⟨I,L,an,F,rfl,j,i,l,k,J,av,a0⟩;have u:A2 w.heap.size w C:=m.out.trans (J.mono (ag _));clear b;by_cases q:0<=E
 ·have a:=e.out;rw[ab q]at a;have c:=aj a;clear j i l k a g;go_wp2_with fail;go_ret2;exact(show TkP _ _ _ _ from⟨A0,0,by rw[c.out];rfl,by rw[c.out];exact bi _ _ _ _,u⟩)
 ·have a:=e.out;rw[aa q]at a;have h:=vL C w.heap.size w.heap.size F p an 6 i l k (by decide) (by decide) (by omega);unfold sr at h;obtain⟨a5,x,_⟩:=i.ex;have d:=jn j x g;obtain⟨af,v⟩:=aA ((dB p 6).2);rw[v]at h a;have c:=aj a;clear a j i l k g x v;go_wp2_with fail;refine h.mono ?_;rintro a ao ⟨a4,D,rfl,al,am,a1,y,K⟩;have t:A2 w.heap.size w ao:=u.trans (K.mono (ag _));have B:=y.row d.out.2.1 d.out.1 (by decide) (by decide);have G:=aj B;clear h al am y B;cases af with
  |true=>
   go_wp2_with fail;go_ret2;have a:=c.out;rw[ab trivial]at a;have ak:(kD s).1=o:=by rw[a]
   exact(show TkP _ _ _ _ from⟨I,L,by rw[a];simp only[d.out.2.2];rfl,by rw[ak,d.out.2.2];exact G.out,t⟩)
  |false=>
   go_wp2_with fail;go_ret2;have a:=c.out;rw[aa (by simp)]at a;exact(show TkP _ _ _ _ from⟨A0,0,by rw[a];rfl,by rw[a];exact bi _ _ _ _,t⟩)
def psV(c a:Int)(v:A3):A3:= .agg #[U V c,U V a,v]
def PsP(w:Z)(c a:Int)(ns:List Nd)(e:Ending)(d:Z):Prop:=∃b,e= A7 (psV c a b)/\co d b ns/\A2 w.heap.size w d
def okC(ns:List Nd):Int:=if(cF ns).1=0 then 0 else 2
def okN(ns:List Nd):List Nd:=if(cF ns).1=0 then ns else []
theorem aat(s:ByteArray):∀(f:Nat)(st:List Int)(p:Nat)(l:Int)(c:List Tk),p<=s.size->c.Pairwise (fun a b=>a.f<b.f)->(∀T∈c,0<=T.f/\T.f<(p:Int))->(sE s f st p l c).1.Pairwise (fun a b=>a.f<b.f)/\∀T∈(sE s f st p l c).1,0<=T.f
 |0,st,p,l,c,_,_,_=>⟨.nil,fun T hT=>by cases hT⟩
 |f+1,st,p,l,c,z,r,k=>by
  have j:∀(g:Tk)(d:Nat),g.f=(p:Int)->p<d->(c++[g]).Pairwise (fun a b=>a.f<b.f)/\∀T∈c++[g],0<=T.f/\T.f<(d:Int):=fun g d q m=>by
   refine⟨List.pairwise_append.2 ⟨r,List.pairwise_singleton _ _,fun a u b h=>?_⟩,fun T hT=>?_⟩
   ·rw[List.mem_singleton.1 h,q];exact(k a u).2
   ·rcases List.mem_append.1 hT with hT|hT
    ·have:=k T hT;omega
    ·rw[List.mem_singleton.1 hT,q];omega
  have y:∀d,p<d->∀T∈c,0<=T.f/\T.f<(d:Int):=fun d m T hT=>by have:=k T hT;omega
  have h:∀e,e<=s.size->e<=blk s (s.size+1) e/\blk s (s.size+1) e<=s.size:=fun e w=>pq s (s.size+1) e w;rw[sE];split
  ·rename_i m;have:=j ⟨6,(s.size:Nat),(s.size:Nat),l,0,⟨#[]⟩⟩ (p+1) (by show((s.size:Nat):Int)=_;omega) (by omega);exact⟨this.1,fun T hT=>(this.2 T hT).1⟩
  ·rename_i m;split
   ·rename_i t;have o:=qa s p (by omega) (aif s p t).1;have i:=h _ o.2.1;split
    ·have:=j ⟨5,(p:Nat),((eE s p).a:Nat),l,(eE s p).n,(eE s p).x⟩ (blk s (s.size+1) (eE s p).a) rfl (by omega);exact aat s f _ _ _ _ i.2 this.1 this.2
    ·exact aat s f _ _ _ _ i.2 r (y _ (by omega))
   ·split
    ·split
     ·rename_i v;have o:=qa s p (by omega) v;have i:=h _ o.2.1;have:=j ⟨rA s p,(p:Nat),((eE s p).a:Nat),l,(eE s p).n,(eE s p).x⟩ (blk s (s.size+1) (eE s p).a) rfl (by omega);exact aat s f _ _ _ _ i.2 this.1 this.2
     ·exact⟨.nil,fun T hT=>by cases hT⟩
    ·exact⟨.nil,fun T hT=>by cases hT⟩
