import Derived.Test.YtjeamjdieofoeaaGreatDoorHZk25
import Derived.Test.YtjeamjdieofoeaaGreatDoorHZk17
import Derived.Test.YtjeamjdieofoeaaGreatDoorHZk19
set_option linter.all false
set_option maxRecDepth 100000
set_option maxHeartbeats 12800000
open Option renaming some->O,none->Q
open Go.Value renaming iface->U,int->Y,ownBlock->Z,slice->Ax,string->A0,slice->A9,pointer->B0,agg->Cb,bool->C2,int->E1
open Go renaming Value->V,TypeId->B1,wp_region_held_drew->B3,World->B4,maxLen->B7,Calls->E0
open Go.IntKind renaming i64->X
open List renaming set->A2
open Go.Obj renaming cells->A5
open Bool renaming false->Br,true->Er
open Go.World renaming news_of_block->Bs
open Go.Proofs.Tryz renaming prog->B6
namespace Go.Proofs.YtjeamjdieofoeaaGreatDoor
open Go.RowKit Go.Maps Go.WideMaps
variable{E:Pe}{M:List (Value×List ByteArray)}{N:Nd}{T:Bxs}{W w:World}{b g i lo m:Nat}{q:Int}{r:Bool}{v vn:Value}{vs:List Value}
section
variable {E : Pe} {i j k k1 : Nat} {x y R Ex : Fo}
theorem xd{nk:Int}(a:de nk=3)(b:Nat):er nk b= U 166 (B0 (O ⟨b,0,Q⟩)):=by unfold er;rw[a];rfl
theorem Dr{nk:Int}(a:de nk=3)(s:Tk)(e:Int)(x:ByteArray):mz (nd nk s e 0 0 x []) (de nk)=nd nk s e 0 0 x []:=by rw[a];rfl
theorem aha(y:i+1<E.n){nk k:Int}(s:k≠6)(d:de nk=3)(a:(E.tk i).k=k):CN E 257 #[pV E,Y X nk] i (one (nd nk (E.tk i) (E.tk i).t 0 0 (E.tk i).x []) .nil) (i+1):=by
 intro A j z;have q:=Sw.start j;clear j;go_in;go_wp2_with fail;refine bv (dH q a (by omega) s) fun c r=>?_;obtain⟨u,m,e⟩:=kH r a;simp only[jr]at m;go_wp2_with fail;clear m;have g:=sB e (aw (ah _ u));have o:=mH e a;have p:=mH g a;go_region_held3 (fun b=>b.cell? ⟨c.heap.size,0,Q⟩=O (Y X k)/\b.cell? ⟨c.heap.size,1,Q⟩=O (Y X (E.tk i).f)/\b.cell? ⟨c.heap.size,2,Q⟩=O (Y X (E.tk i).t)/\b.cell? ⟨c.heap.size,3,Q⟩=O (Y X (E.tk i).l)/\b.cell? ⟨c.heap.size,4,Q⟩=O (Y X (E.tk i).n)/\b.cell? ⟨c.heap.size,5,Q⟩=O (.string (E.tk i).x)) (first|exact o|exact p|exact mH h a|go_keep) (first|(go_at_call 252;refine(fI g a (by omega) (by omega) _ _ _ _).mono ?_;rintro w v ⟨rfl,h⟩))
 go_wp2_with fail;go_ret;exact⟨_,rfl,xd d v.heap.size ▸ qI h (nd nk (E.tk i) (E.tk i).t 0 0 (E.tk i).x []) (Dr d _ _ _) rfl (by show _=(_++Kw _ _ (de nk)).toArray;rw[d];rfl) (by show _=vw (de nk);rw[d];rfl)⟩
theorem apg(v:i+1<E.n)(a:(E.tk i).k=2):CN E 282 #[pV E] i (one (nd 23 (E.tk i) (E.tk i).t 0 (E.tk i).n z0 []) .nil) (i+1):=by
 intro y h w;have p:=Sw.start h;clear h;go_in;go_wp21
 refine bv (iF p a) fun A r=>?_;go_wp21
 refine bv (dH r a (by omega)) fun c q=>?_;obtain⟨s,j,d⟩:=kH q a;simp only[jr]at j;go_wp21
 clear j;have e:=sB d (aw (ah _ s));have m:=mH d a;have o:=mH e a;go_region_held3 (fun b=>b.cell? ⟨c.heap.size,0,Q⟩=O (Y X 2)/\b.cell? ⟨c.heap.size,1,Q⟩=O (Y X (E.tk i).f)/\b.cell? ⟨c.heap.size,2,Q⟩=O (Y X (E.tk i).t)/\b.cell? ⟨c.heap.size,3,Q⟩=O (Y X (E.tk i).l)/\b.cell? ⟨c.heap.size,4,Q⟩=O (Y X (E.tk i).n)/\b.cell? ⟨c.heap.size,5,Q⟩=O (.string (E.tk i).x)) (first|exact m|exact o|exact mH g a|go_keep) (first|(go_at_call 252;refine(fI e a (by omega) (by omega) 23 _ _ _).mono ?_;rintro u z ⟨rfl,g⟩))
 go_wp21
 go_ret;exact⟨_,rfl,qI g (nd 23 (E.tk i) (E.tk i).t 0 (E.tk i).n z0 []) rfl rfl rfl rfl⟩
theorem acl{b:Int}(r:q≠6)(a:(E.tk i).k=q)(y:i<E.n)(u:CN E 282 #[pV E] (i+1) x j)(z:i+1<=j:=by omega)(A:j<=E.n:=by omega):CN E 299 #[pV E,Y X b] i (one (nd 30 (E.tk i) (E.tk (j-1)).t b 0 z0 []) x) (j):=by
 intro B e s;have l:=Sw.start e;clear e;simp only[bm,Fo.sz_app]at s;go_in;go_wp21
 refine bv (dH l a (by omega) r) fun C m=>?_;obtain⟨F,f,o⟩:=kH m a;simp only[jr]at f;go_wp21
 refine(je o u).mono ?_;rintro v G ⟨h,g,rfl,c⟩;clear f;obtain⟨J,K,L,ad,af,ak⟩:=mH c a;obtain⟨H,w,d⟩:=pA c [U h g] #[U h g] rfl 1 rfl (by decide);obtain⟨al,am,an,ao,ap,ar⟩:=mH d a;go_wp21
 refine bv (fI d a (by omega) (by omega) 30 _ _ _) fun I p=>?_;go_wp21
 go_ret;exact⟨_,rfl,qI p (nd 30 (E.tk i) (E.tk (j-1)).t b 0 z0 []) rfl rfl rfl rfl⟩
abbrev CXi(E:Pe)(p:Int)(i:Nat)(x:Fo)(j:Nat):Prop:=CN E 255 #[pV E,Y X p] i x j
theorem pE(e:CXi E 0 i R j):CN E 216 #[pV E] i (R) (j):=by
 intro h a d;have b:=Sw.start a;clear a;go_in;go_wp2_with fail;refine(je b e d).mono ?_;rintro f k ⟨g,p2,rfl,c⟩;go_wp2_with fail;go_ret;exact⟨_,rfl,c⟩
theorem sT{c:V}{a:List V}{D:Fo}{b:Nat×B1×Array V}(S:Hid (Sw E W w i c a D vs (b::T) M)):Hid (Sw E W w i c a D vs T M):=S.drop (fun e d=>dI _ d) (.inl rfl)
theorem an1{k:Int}{t:Tk}{g h:B1}{d f:V}(ad:Hid (Sw E W w j s0 [] R [U g d,U h f] T M))(a:t.k=k)(af:1<=j)(ak:j<=E.n)(al:10<=q)(am:q<=78):E0 B6 283 #[pV E,Y X q,Cb (jr k t),U g d,U h f] w fun e w'=>∃u s,e= .returned (U u s)/\Hid (Sw E W w' j s0 [] (one (wv q t (E.tk (j-1)).t) R) [U u s] T M):=by
 unfold wv;obtain⟨an,m,i⟩:=kH ad a;simp only[jr]at m⊢;by_cases o:q=10
 ·subst o;rw[ab rfl];go_in;obtain⟨y,z,A,B,C,F⟩:=mH i a;obtain⟨v,r,c⟩:=pA i [U g d,U h f] #[U g d,U h f] rfl 2 rfl (by decide);obtain⟨G,H,I,J,K,L⟩:=mH c a;go_wp21
  refine bv (fI c a (by omega) (by omega) 28 _ _ _) fun x l=>?_;clear m;go_wp21
  go_ret;refine⟨_,_,rfl,sT (b:=tkB w.heap.size t) ?_⟩;exact Am l (ig 28 t (E.tk (j-1)).t) rfl rfl rfl rfl
 by_cases p:q=26
 ·subst p;rw[aa (by decide),ab rfl];go_in;obtain⟨y,z,A,B,C,F⟩:=mH i a;obtain⟨v,r,c⟩:=pA i [U g d,U h f] #[U g d,U h f] rfl 2 rfl (by decide);obtain⟨G,H,I,J,K,L⟩:=mH c a;go_wp21
  refine bv (fI c a (by omega) (by omega) 29 _ _ _) fun x l=>?_;clear m;go_wp21
  go_ret;refine⟨_,_,rfl,sT (b:=tkB w.heap.size t) ?_⟩;exact Am l (ig 29 t (E.tk (j-1)).t) rfl rfl rfl rfl
 ·rw[aa o,aa p];go_in;obtain⟨y,z,A,B,C,F⟩:=mH i a;obtain⟨v,r,c⟩:=pA i [U g d,U h f] #[U g d,U h f] rfl 2 rfl (by decide);obtain⟨G,H,I,J,K,L⟩:=mH c a;go_wp21
  refine bv (fI c a (by omega) (by omega) 31 _ _ _) fun x l=>?_;clear m;go_wp21
  go_ret;refine⟨_,_,rfl,sT (b:=tkB w.heap.size t) ?_⟩;exact Am l (nd 31 t (E.tk (j-1)).t (q-60) 0 z0 []) rfl rfl rfl rfl
theorem an2{D:Fo}{k:Int}(S:Hid (Sw E W w i s0 [] D vs T M))(m:ip k=Er)(l:k<=78):E0 B6 195 #[Y X k] w fun e w'=>e= .returned (.tuple #[Cb #[Y X k,Y X (Iz k),Y X (rpw k)],C2 Er])/\Hid (Sw E W w' i s0 [] D vs T M):=by
 obtain⟨c,b,rfl⟩:=aln m l;obtain⟨n,j,a⟩:=S.pp.pw;obtain⟨f,g,_,h⟩:=abz c b;refine(sD w n j a c b _ rfl h).mono ?_;rintro e w' ⟨a,d⟩;rw[f,g]at a;exact⟨a,sB S d⟩
theorem an4{D:Fo}{k:Int}(S:Hid (Sw E W w i s0 [] D vs T M))(f:ip k=Br):E0 B6 195 #[Y X k] w fun e w'=>e= .returned (.tuple #[Cb #[Y X 0,Y X 0,Y X 0],C2 Br])/\Hid (Sw E W w' i s0 [] D vs T M):=by
 obtain⟨g,c,a⟩:=S.pp.pw;refine(LI w g c a k (fun i d e=>?_)).mono ?_
 ·have:=(abz i d).2.2.1;rw[e,f]at this;cases this
 rintro e w' ⟨a,b⟩;exact⟨a,sB S b⟩
theorem aks{D:Fo}(S:Hid (Sw E W w i s0 [] D vs T M))(a b c:V):∃w',w.alloc (A5 #[a,b,c] 168)=w'/\Hid (Sw E W w' i s0 [] D vs ((w.heap.size,168,#[a,b,c])::T) M):=⟨_,rfl,S.boxg _ _ (by decide) (by decide)⟩
theorem sC3{D:Fo}{d:Nat}{a b c:V}(S:Hid (Sw E W w i s0 [] D vs ((d,168,#[a,b,c])::T) M)):w.cell? ⟨d,0,Q⟩=O a/\w.cell? ⟨d,1,Q⟩=O b/\w.cell? ⟨d,2,Q⟩=O c:=by
 have e:=(S.tb _ (cE ..)).2.2;exact⟨by rw[au _ _ _ _ _ _ e];rfl,by rw[au _ _ _ _ _ _ e];rfl,by rw[au _ _ _ _ _ _ e];rfl⟩
theorem aml{p:Int}(a3:(E.tk i).k≠6)(br:i<E.n)(K:∀q,(E.tk q).k<=78)(a7:CN E 282 #[pV E] i x k)(v:Ms E (CXi E) p (E.tk i) m x k R j):CXi E p i R j:=by
 intro bh s bs;have F:=Sw.start s;have C:=aq v;have bt:=v.le;clear s v;go_in;go_wp21
 refine bv (sL F rfl (by omega) a3) fun bk G=>?_;obtain⟨bE,L,b⟩:=kH G (t:=E.tk i) rfl;simp only[jr]at L;go_wp21
 refine(je b a7).mono ?_;rintro h bF ⟨bc,ba,rfl,H⟩;clear L;have A:=aq H;go_wp21
 clear F G b H;go_loopg [6] m (fun gk bf wr=>∃(k:Nat) (o:Fo) (t:B1) (ak:V),bf= U t ak/\Hid (Ms E (CXi E) p (E.tk i) gk o k R j/\Sw E bh wr k s0 [] o [U t ak] [tkB bk.heap.size (E.tk i)] []))
 case atStart=>exact⟨k,x,bc,ba,rfl,C,A⟩
 case round=>
  clear A C;obtain⟨c,o,bD,bx,rfl,B⟩:=hrel;obtain⟨a2,J⟩:=B.out;have b:=aq J;clear J B;cases a2 with
  |stop g av=>
   cases a:ip (E.tk j).k with
   |false=>
    go_wp21
    refine bv (iF b rfl g) fun al d=>?_;go_wp21
    refine bv (an4 d a) fun am e=>?_;go_wp21
    go_ret;exact⟨_,rfl,(e.boxg _ _ (by decide) (by decide)).drop (fun p u=>by cases u) (.inr rfl)⟩
   |true=>
    go_wp21
    refine bv (iF b rfl g) fun al d=>?_;go_wp21
    refine bv (an2 d a (K _)) fun am e=>?_;obtain⟨bl,ad,f⟩:=aks e (Y X (E.tk j).k) (Y X (Iz (E.tk j).k)) (Y X (rpw (E.tk j).k));obtain⟨w,y,z⟩:=sC3 f;go_wp21
    go_ret;exact⟨_,rfl,f.drop (fun p u=>by cases u) (.inr rfl)⟩
  |@go a9 _ a8 _ _ b9 bn g a av a0 bo a1 r=>
   have a6:=r.le;rw[bm,Fo.sz_app]at a6;have a4:(E.tk c).k≠6:=fun h=>by rw[h]at a;revert a;decide
   have af:=K c;have a5:10<=(E.tk c).k:=by have s:=aH a;omega
   have ao:=aq r;clear r;go_wp21
   refine bv (iF b rfl g) fun al d=>?_;go_wp21
   refine bv (an2 d a af) fun am e=>?_;obtain⟨bl,ad,f⟩:=aks e (Y X (E.tk c).k) (Y X (Iz (E.tk c).k)) (Y X (rpw (E.tk c).k));obtain⟨w,y,z⟩:=sC3 f;go_wp21
   clear ad;refine bv (dH f rfl g a4) fun b0 I=>?_;obtain⟨w,y,z⟩:=sC3 I;go_wp21
   refine(je I a0).mono ?_;rintro h b1 ⟨bA,bw,rfl,l⟩;obtain⟨w,y,z⟩:=sC3 l;obtain⟨b3,b4,b5,b6,b7,b8⟩:=mH (sT l) rfl;go_wp21
   have ap:=aq l;refine(an1 ap (t:=E.tk i) rfl (by omega) a1 a5 af).mono ?_;rintro h b2 ⟨bd,bb,rfl,ar⟩;have an:=sT ar;go_wp21
   go_roundg a9
   case measure=>omega
   case rel=>exact⟨a8,_,bd,bb,rfl,ao,an⟩
end
section
variable {E : Pe} {i j k k1 : Nat} {x y R Ex : Fo}
def unF(E:Pe)(k:Int):FuncId×Array V:=
 if k=25 then(299,#[pV E,Y X 21])
 else if k=62 then(299,#[pV E,Y X 19])
 else if k=50 then(299,#[pV E,Y X 22])
 else if k=69 then(299,#[pV E,Y X 20])
 else if k=3 then(257,#[pV E,Y X 24])
 else if k=4 then(257,#[pV E,Y X 25])
 else if k=24 then(212,#[pV E,Y X 20])
 else if k=29 then(212,#[pV E,Y X 21])
 else if k=17 then(212,#[pV E,Y X 22])
 else if k=49 then(212,#[pV E,Y X 27])
 else if k=42 then(300,#[pV E])
 else if k=1 then(217,#[pV E])
 else(217,#[pV E])
theorem rG(g:(E.tk i).k=q)(l:i<E.n)(a:q=25\/q=62\/q=50\/q=69\/q=3\/q=4\/q=24\/q=29\/q=17\/q=49\/q=42\/q=1\/q=40)(b:CN E (unF E q).1 (unF E q).2 i R j):CN E 282 #[pV E] i R j:=by
 rcases a with rfl|rfl|rfl|rfl|rfl|rfl|rfl|rfl|rfl|rfl|rfl|rfl|rfl;all_goals
  simp only[unF]at b;simp at b;intro o c a;have d:=Sw.start c;clear c;go_in;go_wp2_with fail;refine bv (iF d g) fun p e=>?_;go_wp2_with fail;refine(je e b a).mono ?_;rintro h r ⟨m,p2,rfl,f⟩;go_wp2_with fail;go_ret;exact⟨_,rfl,f⟩
theorem aph(b:(E.tk i).k=18)(m:i<E.n)(h:CN E 253 #[pV E,Cb (jr 18 (E.tk i))] (i+1) R j):CN E 282 #[pV E] i (R) (j):=by
 intro q a g;have c:=Sw.start a;clear a;go_in;go_wp21
 refine bv (iF c b) fun r d=>?_;go_wp21
 refine bv (dH d b (by omega)) fun s e=>?_;go_wp21
 refine(je e h g).mono ?_;rintro l t ⟨p,o,rfl,f⟩;go_wp21
 go_ret;exact⟨_,rfl,f⟩
theorem api(x:(E.tk i).k=42)(bl:i<E.n)(a2:Es E (CN E 312 #[pV E]) m (i+1) Ex j)(a7:(E.tk j).k=43)(bn:j+1<E.n):CN E 300 #[pV E] i (one (ig 35 (E.tk i) (E.tk j).t) Ex) (j+1):=by
 intro bd a0 a8;have ar:=Sw.start a0;have ap:=aq a2;simp only[bm]at a8;clear a0 a2;go_in;go_wp21
 refine bv (dH ar x (by omega)) fun bf av=>?_;obtain⟨br,a1,d⟩:=kH av x;simp only[jr]at a1;have an:=aq d;go_wp21
 clear a1 ar av d;go_loopg [4] m (fun gk bc wr=>∃(k:Nat) (D z:Fo) (C:Option Addr) (n G:Nat) (us:List V),bc= A9 C n G/\Hid (Es E (CN E 312 #[pV E]) gk k z j/\Sw E bd wr k (A9 C n G) us D us [tkB bf.heap.size (E.tk i)] []/\D.app z=Ex))
 case atStart=>exact⟨i+1,.nil,Ex,Q,0,0,[],rfl,ap,an,rfl⟩
 case round=>
  clear an ap;obtain⟨bo,D,z,C,n,G,us,rfl,ao⟩:=hrel;obtain⟨a4,L,c⟩:=ao.out;have d:=aq L;have a9:=Al.len _ _ L.nn;clear L ao;cases a4 with
  |stop w o=>
   rw[Fo.app_nil]at c;go_wp21
   refine bv (ut d a7 o) fun a3 f=>?_;obtain⟨bs,bt,g,bw,bx,bA⟩:=mH f x;clear a9;go_wp21
   refine bv (fI f x (by omega) (by omega) 35 _ _ _) fun a b=>?_;subst c;go_wp21
   go_ret;exact⟨_,rfl,qI b (ig 35 (E.tk i) (E.tk j).t) rfl rfl rfl rfl⟩
  |@com al _ ak _ g l w o I J K p=>
   have ba:D.sz+(g.sz+l.sz)<=50000000:=by have e:=congrArg Fo.sz c;simp only[Fo.sz_app]at e;omega
   have a6:=D.len_le;have h:=gI c p;clear c p;go_wp21
   refine bv (vG d w o) fun a3 f=>?_;go_wp21
   refine(je f I).mono ?_;rintro e a ⟨v,u,rfl,b⟩;go_wp2_with (at_builtin;refine gC rfl _ _ rfl rfl (sB b (cK a _)).out.ro rfl (kJ (base:=a.heap.size) (e:=49) (size:=1) a #[U v u] 1 (ag _) (by unfold B7;omega) rfl) (us:=[U v u]) (by intro bb af;rw[List.mem_singleton.1 af];rfl) (by simp only[bB,dl];omega) (by rw[cD];have:=b.gr.size;omega) ?_;intro F am H bh s ad r q;have A:=(sB b (cK a _)).out.put s r q;clear s ad r q);refine bv (ut A J K) fun bk B=>?_;have y:=aq B;go_wp21
   go_roundg al
   case measure=>omega
   case rel=>exact⟨(ak+1),D.app g,l,F,am,H,_,rfl,h.2,y,by rw[Fo.app_app];exact h.1⟩
  |@last al _ ak _ g l w o I J K p=>
   have ba:D.sz+(g.sz+l.sz)<=50000000:=by have e:=congrArg Fo.sz c;simp only[Fo.sz_app]at e;omega
   have a6:=D.len_le;have h:=gI c p;clear c p;go_wp21
   refine bv (vG d w o) fun a3 f=>?_;go_wp21
   refine(je f I).mono ?_;rintro e a ⟨v,u,rfl,b⟩;go_wp2_with (at_builtin;refine gC rfl _ _ rfl rfl (sB b (cK a _)).out.ro rfl (kJ (base:=a.heap.size) (e:=49) (size:=1) a #[U v u] 1 (ag _) (by unfold B7;omega) rfl) (us:=[U v u]) (by intro bb af;rw[List.mem_singleton.1 af];rfl) (by simp only[bB,dl];omega) (by rw[cD];have:=b.gr.size;omega) ?_;intro F am H bh s ad r q;have A:=(sB b (cK a _)).out.put s r q;clear s ad r q);refine bv (vG A J K) fun bk B=>?_;have y:=aq B;go_wp21
   go_roundg al
   case measure=>omega
   case rel=>exact⟨ak,D.app g,l,F,am,H,_,rfl,h.2,y,by rw[Fo.app_app];exact h.1⟩
theorem an5(r:(E.tk i).k≠48)(q:(E.tk i).k≠44)(f:(E.tk i).k≠6)(A:i<E.n)(u:CN E 216 #[pV E] i x j)(B:i+1<=j)(C:j<=E.n):CN E 312 #[pV E] i (one (ig 40 (E.tk i) (E.tk (j-1)).t) x) (j):=by
 intro ad e s;have m:=Sw.start e;clear e;simp only[bm,Fo.sz_app]at s;have w:((E.tk i).k==48)=Br:=by simp[r]
 have v:((E.tk i).k==44)=Br:=by simp[q]
 obtain⟨F,a⟩:=az ((E.tk i).k);rw[a]at w v f;go_in;go_wp21
 refine bv (sL m a (by omega) f) fun af o=>?_;obtain⟨ak,g,b⟩:=kH o a;simp only[jr]at g;obtain⟨G,H,I,J,K,L⟩:=mH b a;go_wp21
 refine(je b u).mono ?_;rintro y al ⟨l,h,rfl,c⟩;clear g;obtain⟨ao,ap,ar,av,a0,a1⟩:=mH c a;obtain⟨am,z,d⟩:=pA c [U l h] #[U l h] rfl 1 rfl (by decide);obtain⟨a2,a3,a4,a5,a6,a7⟩:=mH d a;go_wp21
 refine bv (fI d a (by omega) (by omega) 40 _ _ _) fun an p=>?_;go_wp21
 go_ret;exact⟨_,rfl,qI p (ig 40 (E.tk i) (E.tk (j-1)).t) rfl rfl rfl rfl⟩
theorem an6(a:(E.tk i).k=44)(H:i<E.n)(C:CN E 216 #[pV E] (i+1) x k)(z:(E.tk k).k=45)(A:(E.tk (k+1)).k=47)(K:k+1<E.n)(F:CN E 216 #[pV E] (k+2) y j)(I:i+1<=j)(J:j<=E.n):CN E 312 #[pV E] i (one (ig 41 (E.tk i) (E.tk (j-1)).t) (x.app y)) (j):=by
 intro an e B;have o:=Sw.start e;clear e;simp only[bm,Fo.sz_app]at B;go_in;go_wp21
 refine bv (sL o a (by omega) (by decide)) fun ao p=>?_;obtain⟨ap,f,b⟩:=kH p a;simp only[jr]at f;obtain⟨L,ad,af,ak,al,am⟩:=mH b a;go_wp21
 refine bv (dH b a (by omega)) fun ar q=>?_;clear f;go_wp21
 refine(je q C).mono ?_;rintro w av ⟨l,g,rfl,r⟩;go_wp21
 refine bv (dH r z (by omega)) fun a0 s=>?_;go_wp21
 refine bv (dH s A (by omega)) fun a1 u=>?_;go_wp21
 refine(je u F).mono ?_;rintro w a2 ⟨m,h,rfl,c⟩;obtain⟨a5,a6,a7,a8,a9,ba⟩:=mH c a;obtain⟨a3,G,d⟩:=pA c [U l g,U m h] #[U l g,U m h] rfl 2 rfl (by decide);obtain⟨bb,bc,bd,bf,bh,bk⟩:=mH d a;go_wp21
 refine bv (fI d a (by omega) (by omega) 41 _ _ _) fun a4 v=>?_;go_wp21
 go_ret;exact⟨_,rfl,qI v (ig 41 (E.tk i) (E.tk (j-1)).t) rfl rfl rfl rfl⟩
theorem amm(a:(E.tk i).k=48)(s:(E.tk (i+1)).k=1)(u:(E.tk (i+2)).k=47)(C:i+2<E.n)(w:CN E 216 #[pV E] (i+3) x j)(F:i+3<=j)(G:j<=E.n):CN E 312 #[pV E] i (one (nd 42 (E.tk i) (E.tk (j-1)).t 0 0 (E.tk (i+1)).x []) x) (j):=by
 intro af e v;have l:=Sw.start e;clear e;simp only[bm,Fo.sz_app]at v;have A:=ajF;go_in;go_wp21
 refine bv (sL l a (by omega) (by decide)) fun ak m=>?_;obtain⟨al,f,b⟩:=kH m a;simp only[jr]at f;obtain⟨H,I,J,K,L,ad⟩:=mH b a;go_wp21
 refine bv (dH b a (by omega)) fun am o=>?_;clear f;go_wp21
 refine bv (dH o s (by omega)) fun an p=>?_;simp only[jr];go_wp21
 refine bv (dH p u (by omega)) fun ao q=>?_;go_wp21
 refine(je q w).mono ?_;rintro z ap ⟨h,g,rfl,c⟩;obtain⟨av,a0,a1,a2,a3,a4⟩:=mH c a;obtain⟨ar,B,d⟩:=pA c [U h g] #[U h g] rfl 1 rfl (by decide);obtain⟨a5,a6,a7,a8,a9,ba⟩:=mH d a;go_wp21
 refine bv (fI d a (by omega) (by omega) 42 _ _ _) fun y r=>?_;go_wp21
 go_ret;exact⟨_,rfl,xd (nk:=42) (by decide) y.heap.size ▸ qI r (nd 42 (E.tk i) (E.tk (j-1)).t 0 0 (E.tk (i+1)).x []) (Dr (by decide) _ _ _) rfl (by show _=(_++Kw _ _ (de 42)).toArray;rw[show de 42=3 by decide];rfl) (by show _=vw (de 42);rw[show de 42=3 by decide];rfl)⟩
end
section
variable {E : Pe} {i j k k1 : Nat} {x y R Ex : Fo}
theorem Al.top{e:Option Nat}{ks:Fo}{t:B1}{p:V}(h:Al w lo e (one N ks) [U t p]):∃b,t=jy (de N.k)/\p= B0 (O ⟨b,0,Q⟩)/\w.cell? ⟨b,0,Q⟩=O (Y X N.k):=by
 obtain⟨i,b,l,n,m,j,o,f,g,d,⟨_,_,c,_⟩,_⟩:=h;have a:=(pJ d.1).1;unfold er at a;cases a;exact⟨b,rfl,rfl,by unfold ft at c;rw[au _ _ _ _ _ _ c];rfl⟩
theorem an7{ks:Fo}(b:(E.tk i).k=40)(a1:i<E.n)(v:CN E 216 #[pV E] (i+1) (one N ks) k)(u:(E.tk k).k=41)(a2:i+1<=k)(a3:k+1<E.n):CN E 256 #[pV E] i (mc N ks (E.tk i) (E.tk k).t) (k+1):=by
 intro c x a4;have q:=Sw.start x;clear x;have a5:(one N ks).sz<=(mc N ks (E.tk i) (E.tk k).t).sz:=by unfold mc;split<;>simp only[bm]<;>omega
 rcases(by omega:N.k=34\/N.k=27\/(N.k≠34/\N.k≠27)) with hN|hN|hN
 ·go_in;go_wp21
  refine bv (dH q b (by omega)) fun B h=>?_;obtain⟨C,e,j⟩:=kH h b;simp only[jr]at e;go_wp21
  refine(je j v).mono ?_;rintro w F ⟨A,z,rfl,l⟩;clear e;go_wp21
  refine bv (dH l u (by omega)) fun G d=>?_;obtain⟨a,rfl,rfl,f⟩:=Al.top (N:=N) (ks:=ks) d.nn;have y:=fun c=>ru (de N.k) a c;have p:=fun c=>da a c;have s:=f;rw[hN]at s;generalize o:jy (de N.k)=g at *;clear o f;obtain⟨L,ad,af,ak,al,am⟩:=mH d b;obtain⟨J,H,m⟩:=pA d [U g (B0 (O ⟨a,0,Q⟩))] #[U g (B0 (O ⟨a,0,Q⟩))] rfl 1 rfl (by decide);obtain⟨an,ao,ap,ar,av,a0⟩:=mH m b;go_wp2_with (go_at_call 336;refine dB (p _) ?_);refine bv (fI m b (by omega) (by omega) 37 _ _ _) fun K r=>?_;go_wp21
  go_ret;refine⟨_,rfl,?_⟩;unfold mc;rw[ab (by omega)];exact qI r (ig 37 (E.tk i) (E.tk k).t) rfl rfl rfl rfl
 ·go_in;go_wp21
  refine bv (dH q b (by omega)) fun B h=>?_;obtain⟨C,e,j⟩:=kH h b;simp only[jr]at e;go_wp21
  refine(je j v).mono ?_;rintro w F ⟨A,z,rfl,l⟩;clear e;go_wp21
  refine bv (dH l u (by omega)) fun G d=>?_;obtain⟨a,rfl,rfl,f⟩:=Al.top (N:=N) (ks:=ks) d.nn;have y:=fun c=>ru (de N.k) a c;have p:=fun c=>da a c;have s:=f;rw[hN]at s;generalize o:jy (de N.k)=g at *;clear o f;obtain⟨L,ad,af,ak,al,am⟩:=mH d b;obtain⟨J,H,m⟩:=pA d [U g (B0 (O ⟨a,0,Q⟩))] #[U g (B0 (O ⟨a,0,Q⟩))] rfl 1 rfl (by decide);obtain⟨an,ao,ap,ar,av,a0⟩:=mH m b;go_wp2_with (go_at_call 336;refine dB (p _) ?_);refine bv (fI m b (by omega) (by omega) 37 _ _ _) fun K r=>?_;go_wp21
  go_ret;refine⟨_,rfl,?_⟩;unfold mc;rw[ab (by omega)];exact qI r (ig 37 (E.tk i) (E.tk k).t) rfl rfl rfl rfl
 ·go_in;go_wp21
  refine bv (dH q b (by omega)) fun B h=>?_;obtain⟨C,e,j⟩:=kH h b;simp only[jr]at e;go_wp21
  refine(je j v).mono ?_;rintro w F ⟨A,z,rfl,l⟩;clear e;go_wp21
  refine bv (dH l u (by omega)) fun G d=>?_;obtain⟨a,rfl,rfl,f⟩:=Al.top (N:=N) (ks:=ks) d.nn;have y:=fun c=>ru (de N.k) a c;have p:=fun c=>da a c;generalize o:jy (de N.k)=g at *;clear o;go_wp2_with (first|(go_at_call 336;refine dB (p _) ?_));go_ret;refine⟨_,rfl,?_⟩;unfold mc;rw[aa (by omega)];exact d.drop (fun a6 I=>by cases I) (.inr rfl)
theorem an8(f:(E.tk i).k=40)(e:(E.tk (i+1)).k=41)(g:i+1<E.n):CR E 258 #[pV E] i (.nil) (i+2):=by
 intro j a h;have b:=Sw.start a;clear a;go_in;go_wp2_with fail;refine bv (dH b f (by omega)) fun l c=>?_;go_wp2_with fail;refine bv (ut c e) fun m d=>?_;go_wp2_with fail;go_ret;exact⟨_,[],rfl,d⟩
theorem apj(j:(E.tk i).k=40)(r:i+1<E.n)(l:(E.tk (i+1)).k≠41)(h:CR E 251 #[pV E,.func (.func 216) #[pV E] #[]] (i+1) Ex k)(g:(E.tk k).k=41)(s:k<E.n):CR E 258 #[pV E] i (Ex) (k+1):=by
 intro w a t;have b:=Sw.start a;clear a;go_in;go_wp21
 refine bv (dH b j (by omega)) fun x c=>?_;go_wp21
 refine bv (vG c l) fun y d=>?_;go_wp21
 refine(yy d h).mono ?_;rintro q z ⟨o,v,p,m,rfl,e,u⟩;go_wp21
 refine bv (dH e g (by omega)) fun A f=>?_;go_wp21
 go_ret;exact⟨_,m,rfl,f⟩
theorem akt(a:(E.tk i).k=q)(cx:i<E.n)(b0:(q=1/\CN E 257 #[pV E,Y X 26] i x k)\/(q=40/\CN E 256 #[pV E] i x k))(ba:Kb E (fun i x j=>CN E 216 #[pV E] i x j) (fun i x j=>CR E 251 #[pV E,.func (.func 216) #[pV E] #[]] i x j) (E.tk i) m x k R j):CN E 217 #[pV E] i R j:=by
 intro cb bx cz;have a4:=Sw.start bx;have bo:=ba;have cB:=ba.le;rcases b0 with⟨rfl,am⟩|⟨rfl,am⟩
 case' inl=>
  go_in;go_wp2_with fail;refine bv (sL a4 a (by omega) (by decide)) fun bl L=>?_;obtain⟨cc,af,e⟩:=kH L a;simp only[jr]at af;obtain⟨b3,b4,b5,b6,b7,b8⟩:=mH e a;go_wp2_with fail;refine(je e am).mono ?_;rintro J H ⟨bh,bc,rfl,f⟩;have a3:=aq f;go_wp2_with fail
 case' inr=>
  go_in;go_wp2_with fail;refine bv (sL a4 a (by omega) (by decide)) fun bl L=>?_;obtain⟨cc,af,e⟩:=kH L a;simp only[jr]at af;obtain⟨b3,b4,b5,b6,b7,b8⟩:=mH e a;go_wp2_with fail;refine(je e am).mono ?_;rintro J H ⟨bh,bc,rfl,f⟩;have a3:=aq f;go_wp2_with fail
 all_goals
  go_loopg [4] m (fun gk ca wr=>∃(k:Nat) (I:Fo) (bf:B1) (bb:V),ca= U bf bb/\Hid (Kb E (fun i x j=>CN E 216 #[pV E] i x j) (fun i x j=>CR E 251 #[pV E,.func (.func 216) #[pV E] #[]] i x j) (E.tk i) gk I k R j/\Sw E cb wr k s0 [] I [U bf bb] [tkB bl.heap.size (E.tk i)] []))
  case atStart=>exact⟨k,x,bh,bc,rfl,bo,a3⟩
  case round=>
   obtain⟨F,I,o,l,rfl,bn⟩:=hrel;obtain⟨bA,bD⟩:=bn.out;have e:=aq bD;cases bA with
   |stop b g=>
    have ct:((E.tk j).k==48)=Br:=by have:=iz g;simp;omega
    have cs:((E.tk j).k==44)=Br:=by have:=iz g;simp;omega
    have cr:((E.tk j).k==40)=Br:=by have:=iz g;simp;omega
    go_wp2_with fail;refine bv (iF e rfl b) fun K h=>?_;go_wp2_with fail;go_ret;exact⟨_,rfl,h.drop (fun cF bF=>by cases bF) (.inr rfl)⟩
   |@dot u _ _ _ _ b g z c=>
    have cv:=ajF;have p:=c;have t:=c.le;simp only[bm,Fo.sz_app]at t;go_wp2_with fail;refine bv (iF e b) fun H f=>?_;go_wp2_with fail;refine bv (dH f b (by omega)) fun K h=>?_;go_wp2_with fail;refine bv (dH h g (by omega)) fun an d=>?_;simp only[jr];obtain⟨ap,ar,av,a0,a1,a2⟩:=mH d a;obtain⟨cf,bE,v⟩:=pA d [U o l] #[U o l] rfl 1 rfl (by decide);obtain⟨ch,ck,cl,cm,cn,cq⟩:=mH v a;go_wp2_with fail;refine bv (fI v a (by omega) (by omega) 33 _ _ _) fun ao s=>?_;go_wp2_with fail;go_roundg u
    case measure=>omega
    case rel=>
     refine⟨F+2,_,_,_,rfl,p,?_⟩;rw[<-xd (nk:=33) (by decide)];exact(Am s (nd 33 (E.tk i) (E.tk (F+1)).t 0 0 (E.tk (F+1)).x []) (Dr (by decide) _ _ _) rfl (by show _=(_++Kw _ _ (de 33)).toArray;rw[show de 33=3 by decide];rfl) (by show _=vw (de 33);rw[show de 33=3 by decide];rfl)).out
   |@sq u _ C _ _ a8 _ b g z ad a9 c=>
    have p:=c;have t:=c.le;simp only[bm,Fo.sz_app]at t;go_wp2_with fail;refine bv (iF e b) fun H f=>?_;go_wp2_with fail;refine bv (dH f b (by omega)) fun K h=>?_;go_wp2_with fail;refine(je h z).mono ?_;rintro J an ⟨bk,bd,rfl,d⟩;go_wp2_with fail;refine bv (dH d ad (by omega)) fun cI a6=>?_;obtain⟨ap,ar,av,a0,a1,a2⟩:=mH a6 a;obtain⟨cf,bE,v⟩:=pA a6 [U o l,U bk bd] #[U o l,U bk bd] rfl 2 rfl (by decide);obtain⟨ch,ck,cl,cm,cn,cq⟩:=mH v a;go_wp2_with fail;refine bv (fI v a (by omega) (by omega) 32 _ _ _) fun ao s=>?_;go_wp2_with fail;go_roundg u
    case measure=>omega
    case rel=>exact⟨C+1,_,_,_,rfl,p,(Am s (ig 32 (E.tk i) (E.tk C).t) rfl rfl rfl rfl).out⟩
   |@call0 u _ _ _ _ b g z c=>
    have p:=c;have t:=c.le;simp only[bm,Fo.sz_app]at t;clear c;go_wp2_with fail;refine bv (iF e b) fun H f=>?_;obtain⟨K,ak,h⟩:=pA f [U o l] #[U o l] rfl 1 rfl (by decide);go_wp2_with fail;clear ak;refine(ag8 h (an8 b g (by omega)) (by decide)).mono ?_;rintro J an ⟨br,b1,bt,b9,rfl,d,r⟩;go_wp2_with (at_builtin;refine gC rfl _ _ rfl rfl d.ro rfl r.1 r.2.1 (by have:=r.2.2;have:Fo.nil.len=0:=rfl;have:=(.nil:Fo).len_le;show 1+_<=_;omega) (by have:=d.gr.size;omega) ?_;intro bs b2 bw cg G al B A;have y:=d.put G B A;clear G al B A;have w:=y;clear y;obtain⟨ap,ar,av,a0,a1,a2⟩:=mH w a);refine bv (fI w a (by omega) (by omega) 34 _ _ _) fun ao s=>?_;go_wp2_with fail;go_roundg u
    case measure=>omega
    case rel=>exact⟨(F+2),_,_,_,rfl,p,(Am (Fo.app_nil I ▸ s) (ig 34 (E.tk i) (E.tk (F+1)).t) rfl rfl rfl rfl).out⟩
   |@call u _ C _ _ a8 _ b g z ad a9 cw c=>
    have p:=c;have t:=c.le;simp only[bm,Fo.sz_app]at t;clear c;go_wp2_with fail;refine bv (iF e b) fun H f=>?_;obtain⟨K,ak,h⟩:=pA f [U o l] #[U o l] rfl 1 rfl (by decide);go_wp2_with fail;clear ak;refine(ag8 h (apj b g z ad a9 (by omega)) (by omega)).mono ?_;rintro J an ⟨br,b1,bt,b9,rfl,d,r⟩;go_wp2_with (at_builtin;refine gC rfl _ _ rfl rfl d.ro rfl r.1 r.2.1 (by have:=r.2.2;have:Fo.nil.len=0:=rfl;have:=(a8:Fo).len_le;show 1+_<=_;omega) (by have:=d.gr.size;omega) ?_;intro bs b2 bw cg G al B A;have y:=d.put G B A;clear G al B A;have w:=y;clear y;obtain⟨ap,ar,av,a0,a1,a2⟩:=mH w a);refine bv (fI w a (by omega) (by omega) 34 _ _ _) fun ao s=>?_;go_wp2_with fail;go_roundg u
    case measure=>omega
    case rel=>exact⟨(C+1),_,_,_,rfl,p,(Am s (ig 34 (E.tk i) (E.tk C).t) rfl rfl rfl rfl).out⟩
end
section
variable {E : Pe} {i j k k1 : Nat} {x y R Ex : Fo}
abbrev zw(vn:V)(r:Bool):Array V:=#[Y X 0,Y X 0,Y X 0,Y X 0,Y X 0,A9 Q 0 0,vn,C2 r]
theorem Sw.setL{q:Nat}{cs:Array V}{u:V}(h:Sw E W w i s0 [] .nil [] ((b,199,cs)::T) M)(v:∀p∈T,p.2.1≠199):Sw E W (w.setCell ⟨b,q,Q⟩ u) i s0 [] .nil [] ((b,199,cs.setIfInBounds q u)::T) M:=by
 obtain⟨g,l,k⟩:=h.tb _ (cE ..);have a:∀{e:Nat}{cs:Array V}{f:B1}{c:Nat×Nat},w.heap[e]?=O (A5 cs f c)->f≠199->(w.setCell ⟨b,q,Q⟩ u).heap[e]?=O (A5 cs f c):=fun {e cs f c} d B=>by
  rw[aB _ _ _ _ (fun a=>by rw[a]at d;have:=k.symm.trans d;simp only[ee,kI]at this;exact B this.2.1.symm)];exact d
 obtain⟨n,c,H,I⟩:=h.pp.tks;obtain⟨L,r,J⟩:=h.pp.pw;have z:=h.lt;have A:=h.pp.pg;refine⟨⟨h.pp.hn,⟨n,c,a H (by decide),I⟩,a h.pp.row (by decide),A,L,r,(aB _ _ _ _ (show 3≠b from fun af=>by simp only at g;omega)).trans J⟩,?_,z,dr _ _ _ _,⟨[],⟨rfl,rfl⟩,by obtain⟨ad,F,G⟩:=h.nb;obtain⟨_,rfl⟩:=F;exact G⟩,fun p hp=>?_,fun p hp=>?_⟩
 ·exact h.gr.andThen (qi (ub w _) q u) (fun e d=> .inl (by cases d;exact g))
 ·rcases List.mem_cons.1 hp with rfl|hp
  ·exact⟨g,l,bz _ b q _ _ _ k⟩
  ·exact⟨(h.tb p (dI _ hp)).1,(h.tb p (dI _ hp)).2.1,a (h.tb p (dI _ hp)).2.2 (v p hp)⟩
 ·obtain⟨t,j⟩:=h.nm p hp;refine⟨t,?_⟩;rcases j with j|⟨s,m,o,C,y,x,K⟩
  ·exact .inl j
  ·exact .inr ⟨s,m,o,C,y,a x (by decide),K⟩
theorem ad3(h:w.heap[b]?=O (A5 (zw vn r) 199 (0,0))):w.cell? ⟨b,6,Q⟩=O vn/\w.cell? ⟨b,7,Q⟩=O (C2 r)/\∀j,w.frozen? ⟨b,j,Q⟩=Br:=⟨by rw[au _ _ _ _ _ _ h];rfl,by rw[au _ _ _ _ _ _ h];rfl,fun j=>co _ _ _ _ _ h⟩
theorem sLC(S:Hid (Sw E W w i s0 [] .nil [] ((b,199,zw vn r)::T) M)):w.cell? ⟨b,6,Q⟩=O vn/\w.cell? ⟨b,7,Q⟩=O (C2 r)/\∀j,w.frozen? ⟨b,j,Q⟩=Br:=ad3 (S.tb _ (cE ..)).2.2
end
section
variable {E : Pe} {i j k k1 : Nat} {x y R Ex : Fo}
theorem Sw.lam{o u:B4}{s:Tk}{C:V}{H:List ByteArray}(h:Sw E W w i s0 [] .nil [] ((b,199,zw vn r)::T) ((vn,H)::M))(m:Sw E w o j C [v] R [v] [] []){e:Int}(ad:u.heap[b]?=O (A5 #[Y X 36,Y X s.f,Y X e,Y X s.l,Y X 0,C,vn,C2 r] 199 (0,0)))(z:o.grownBy u (O b)):Sw E W u j s0 [] (one (nd 36 s e (opR r) 0 z0 H) R) [U 197 (B0 (O ⟨b,0,Q⟩))] [] []:=by
 obtain⟨x,ao,y⟩:=h.tb _ (cE ..);have af:=ai y;simp only at x af;have al:=h.lt;have B:∀d,d<o.heap.size->d≠b->u.heap[d]?=o.heap[d]?:=fun d p k=>z.block d p (fun e=>k (by cases e;rfl));have av:=m.gr.size;obtain⟨I,K,am⟩:=m.nb;refine⟨m.pp.other (by omega) (fun e=>?_) (by omega) z,(h.gr.trans m.gr).andThen z (fun d ak=> .inl (by cases ak;exact x)),al,dr _ _ _ _,⟨_,⟨b,0,vn,C,[v],[],I,[],⟨rfl,rfl⟩,⟨x,by simp[Z],?_,?_⟩,⟨?_,fun g _=>by simp[Z]⟩,⟨?_,fun g _=>by simp[Z]⟩,?_,rfl,rfl⟩,?_⟩,fun an A=>(by cases A),fun an A=>(by cases A)⟩
 ·obtain⟨ap,ar,F,_⟩:=h.pp.tks;rw[<-e,y]at F;simp only[ee,kI]at F;exact absurd F.2.1 (by decide)
 ·unfold ft;rw[ad];cases r<;>rfl
 ·cases r<;>rfl
 ·have t:=h.nm _ (cE ..);refine ju (w:=w) t (fun g J p k=>⟨?_,p⟩);rw[B g (by omega) (fun e=>jw t y (show 199≠9 by decide) (by rw[<-e];exact J))];exact m.gr.block g k (fun e=>by cases e;omega)
 ·exact ju (w:=o) m.ro (fun g J p k=>⟨B g k (by omega),by omega⟩)
 ·exact sJ.mono (w:=o) (fun d p k L=>⟨B d L (by omega),by omega,by simp[Z]⟩) _ _ _ K
 ·rw[show mB []=[] from rfl,dA,dA];have t:=h.nm _ (cE ..);have:=nd3 (a:=vn.ownBlock.toList) (b:=I) (c:=[]) (n:=w.heap.size) (by rw[dA];exact Ho _) (by simpa [mB] using am) (fun G q=>by rw[dA]at q;exact(t.lt G (by simpa using q)).2) (fun G q=>(K.lt _ _ _ G q).1);rw[dA]at this;exact this
theorem an9{s:Tk}{ad:List ByteArray}(bd:s.k=q)(cr:(E.tk i).k=40)(cq:i+1<E.n)(cx:Prm E.tk E.n (i+1) ad r k)(cz:CN E 218 #[pV E] k x j)(an:k+1<=j)(c1:j<=E.n):CN E 253 #[pV E,.agg (jr q s)] i (one (nd 36 s (E.tk (j-1)).t (opR r) 0 z0 ad) x) j:=by
 intro g am cs;have b7:=Sw.start am;have b6:=aq cx;have c4:=am.hn;have c0:=ajF;simp only[bm]at cs;obtain⟨c9,cm,b8⟩:=kH b7 bd;simp only[jr]at cm;go_in;go_wp2_with fail;refine bv (dH b8 cr (by omega)) fun c b9=>?_;have b2:Hid (Sw E g (c.alloc (.cells (zw s0 Br) 199)) (i+1) s0 [] .nil [] [(c.heap.size,199,zw (s0) Br),tkB g.heap.size s] [(s0,[])]):=by
  have af:=b9.boxg (zw s0 Br) 199 (by decide) (by decide);exact⟨af.pp,af.gr,af.lt,af.ro,⟨[],⟨rfl,rfl⟩,by simp[mB,Z]⟩,af.tb,fun bs al=>by obtain rfl:=List.mem_singleton.1 al;exact dr _ _ _ _⟩
 go_wp2_with fail;go_loopg [13] (E.n-(i+1)) (fun gk c8 wr=>∃(a:Nat) (D a9:List ByteArray) (w a5:Bool) (l:Option Addr) (n m:Nat),gk=E.n-a/\D.length=n/\n<=a/\a<E.n/\Hid (Prm E.tk E.n a a9 a5 k/\Sw E g wr a s0 [] .nil [] [(c.heap.size,199,zw (.slice l n m) w),tkB g.heap.size s] [(.slice l n m,D)]/\D++a9=ad/\(w||a5)=r))
 case atStart=>exact⟨i+1,[],ad,Br,r,Q,0,0,rfl,rfl,by omega,cq,b6,b2,rfl,by simp⟩
 case round=>
  obtain⟨a,D,a9,w,a5,l,n,m,rfl,ak,c3,c2,b5⟩:=hrel;obtain⟨af,ck,a2,a3⟩:=b5.out;have a6:=aq ck;cases af with
  |close u K=>
   rw[dA]at a2;rw[A3]at a3;subst a2 a3;go_wp2_with fail;refine bv (ut a6 u) fun a8 y=>?_;go_wp2_with fail;refine(cz _ y.pp (by omega)).mono ?_;rintro e F ⟨c7,rfl,o⟩;obtain⟨bw,bt,rfl⟩:=Al.form o.nn;have bx:=y.step o.gr o.pp;obtain⟨dk,cn,G⟩:=pA o [.iface bw bt] #[.iface bw bt] rfl 1 rfl (by decide);have ca:=sB bx (cK F (.cells #[.iface bw bt] 49));rw[cn]at ca;obtain⟨dn,dq,ds,dz,d0,d1⟩:=mH (sT (b:=(c.heap.size,199,zw (.slice l n m) w)) bx) bd;go_wp2_with fail;refine bv (fI G bd (by omega) (by omega) 36 _ _ _) fun h H=>?_;have cb:=y.step H.gr H.pp;have L:=(cb.tb _ (cE ..)).2.2;have d2:h.cell? ⟨c.heap.size,0,Q⟩=O (.int .i64 0):=by rw[au _ _ _ _ _ _ L];rfl
   have d3:h.cell? ⟨c.heap.size,1,Q⟩=O (.int .i64 0):=by rw[au _ _ _ _ _ _ L];rfl
   have d4:h.cell? ⟨c.heap.size,2,Q⟩=O (.int .i64 0):=by rw[au _ _ _ _ _ _ L];rfl
   have d5:h.cell? ⟨c.heap.size,3,Q⟩=O (.int .i64 0):=by rw[au _ _ _ _ _ _ L];rfl
   have d8:h.cell? ⟨c.heap.size,4,Q⟩=O (.int .i64 0):=by rw[au _ _ _ _ _ _ L];rfl
   have d9:h.cell? ⟨c.heap.size,5,Q⟩=O (.slice Q 0 0):=by rw[au _ _ _ _ _ _ L];rfl
   have ea:∀j,h.frozen? ⟨c.heap.size,j,Q⟩=Br:=fun j=>co _ _ _ _ _ L;have b4:=aq L;go_wp2_with fail;go_ret;exact⟨_,rfl,y.lam (s:=s) (e:=(E.tk (j-1)).t) H (bz _ _ 5 _ _ _ (bz _ _ 4 _ _ _ (bz _ _ 3 _ _ _ (bz _ _ 2 _ _ _ (bz _ _ 1 _ _ _ (bz _ _ 0 _ _ _ b4)))))) (qi (qi (qi (qi (qi (qi (ub h _) 0 _) 1 _) 2 _) 3 _) 4 _) 5 _)⟩
  |rest u K bA=>
   have J:Hid (D++[]=ad/\(Er||false)=r):=⟨a2,by rw[<-a3,Bool.or_true];rfl⟩;go_wp2_with fail;refine bv (vG a6 (by rw[u];decide)) fun b0 ao=>?_;go_wp2_with fail;refine bv (ut ao u) fun a8 y=>?_;obtain⟨a7,bD,bE⟩:=sLC y;have o:Hid (Sw E g (a8.setCell ⟨c.heap.size,7,Q⟩ (.bool Er)) (a+1) s0 [] .nil [] [(c.heap.size,199,zw (.slice l n m) Er),tkB g.heap.size s] [(.slice l n m,D)]):=y.setL (by intro bs al;obtain rfl:=List.mem_singleton.1 al;show 67≠199;decide);go_wp2_with fail;refine bv (vG o (by rw[K];decide)) fun b1 ar=>?_;go_wp2_with fail;go_roundg (E.n-(a+1))
   case measure=>omega
   case rel=>exact⟨a+1,D,[],Er,Br,l,n,m,rfl,ak,by omega,by omega,.close K (by omega),ar,J.1,J.2⟩
  |last u K bA=>
   have J:Hid ((D++[(E.tk a).x])++[]=ad/\(w||false)=r):=⟨by rw[dA];exact a2,a3⟩;have cw:n<=50000000:=by omega
   go_wp2_with fail;refine bv (vG a6 (by rw[u];decide)) fun b0 ao=>?_;go_wp2_with fail;refine bv (vG ao (by rw[u];decide)) fun a8 y=>?_;go_wp2_with fail;have a0:=sB y (aw (ah _ _));obtain⟨a7,bD,bE⟩:=sLC a0;refine B3 (S:=fun _=>True) (by kernel_rfl) trivial (fun hS=>?_);simp only[gj,bB,dl,Nat.reduceAdd,gD,iw,ix,dt,ej];refine bG 0 (.pointer (O ⟨c.heap.size,0,Q⟩)) rfl rfl (by kernel_rfl) (fun _ _ _=>id) hS (fun B A=>by go_simp) ?_;simp only[A2];refine bG 1 (.pointer (O ⟨c.heap.size,0,Q⟩)) rfl rfl (by kernel_rfl) (fun _ _ _=>id) hS (fun B A=>by go_simp) ?_;simp only[A2];refine bG 2 (.pointer (O ⟨c.heap.size,0,Q⟩)) rfl rfl (by kernel_rfl) (fun _ _ _=>id) hS (fun B A=>by go_simp) ?_;simp only[A2];refine bG 3 (.pointer (O ⟨c.heap.size,6,Q⟩)) rfl rfl (by kernel_rfl) (fun _ _ _=>id) hS (fun B A=>by go_simp) ?_;simp only[A2];refine bG 5 (.pointer (O ⟨E.pb,0,Q⟩)) rfl rfl (by kernel_rfl) (fun _ _ _=>id) hS (fun B A=>by go_simp) ?_;simp only[A2];refine re (S:=fun ba=>ba.cell? ⟨c.heap.size,6,Q⟩=O (.slice l n m)) (C:=fun j=>!(j==9||j==10||j==11||j==12)) (i:=4) (v:= .slice l n m) rfl (xn (by kernel_rfl)) (fun _ _ _ am=>am) ?hC _ _ _ _ (xo rfl (by kernel_rfl)) (List.contains_iff_mem.1 (by kernel_rfl)) (Or.inl ⟨by rfl,fun B A=>by go_simp⟩) hS a7 ?_
   case hC=>
    intro j cB an f;simp only[Bool.not_eq_false',xu,ja]at f;rcases f with((rfl|rfl)|rfl)|rfl
    ·obtain rfl:=bp an;exact⟨{on:=4,ground:=Ground.data},by simp,rfl,rfl⟩
    all_goals
     obtain rfl:=bp an;exact⟨{on:=4,ground:=Ground.phase},by simp,rfl,rfl⟩
   simp only[Act.put,aD,aE,aF];refine dC (i:=6) (by kernel_rfl) rfl (fun p d=>?_);go_simp;refine bv (dH a0 u (by omega)) fun F o=>?_;have a1:=(sLC o).1;refine d _ _ trivial (fun _=>a1) ?_;try simp only[aD,aE,aF]
   refine dC (i:=7) (by kernel_rfl) rfl (fun p d=>?_);simp only[jr];go_simp;refine d _ _ trivial (fun _=>a1) ?_;try simp only[aD,aE,aF]
   refine dC (i:=8) (by kernel_rfl) rfl (fun p d=>?_);go_simp;have G:=sB o (cK F (.cells #[.string (E.tk a).x] 9));have bb:=(sLC G).1;have a4:=G.nm _ (cE ..);rw[cj,ak]at a4;refine d _ _ trivial (fun _=>bb) ?_;try simp only[aD,aE,aF]
   obtain⟨bh,bk,bl,bn,bo⟩:=du Dp;refine dC (i:=9) (by kernel_rfl) rfl (fun p d=>?_);refine step_append_lies _ (by rfl) _ _ 42 (by rfl) g.heap.size 9 bh _ 1 16 Tryz.underlying42 bk bl bn bo rfl (by decide) (.slice l n m) n _ (by rfl) a4 ⟨F.heap.size,0,Q⟩ 1 1 [.string (E.tk a).x] (by rfl) rfl (Bs (aA F _)) (by intro cF bf;rw[List.mem_singleton.1 bf];rfl) (by decide) (by unfold B7;omega) (by omega) (bL o.gr.size (cK F _).size) _ rfl ?_;intro I z h br bc cl ct;have H:Hid (Sw E g h (a+1) s0 [] .nil [] [(c.heap.size,199,zw (.slice l n m) w),tkB g.heap.size s] [(.slice (O ⟨I,0,Q⟩) (n+1) z,D++[(E.tk a).x])]):=G.putN (by rw[cj,aK,ak,dF];exact br) bc;obtain⟨cc,cf,cg⟩:=sLC H;refine d _ _ trivial (fun f=>by cases f) ?_;simp only[Act.put,aD,aE,aF];refine dC (i:=10) (by kernel_rfl) rfl (fun p d=>?_);go_simp;refine d _ _ trivial (fun f=>by cases f) ?_;try simp only[aD,aE,aF]
   refine dC (i:=11) (by kernel_rfl) rfl (fun p d=>?_);go_simp;refine d _ _ trivial (fun f=>by cases f) ?_;try simp only[aD,aE,aF]
   refine dC (i:=12) (by kernel_rfl) rfl (fun p d=>?_);go_simp;have ap:Hid (Sw E g (h.setCell ⟨c.heap.size,6,Q⟩ (.slice (O ⟨I,0,Q⟩) (n+1) z)) (a+1) s0 [] .nil [] [(c.heap.size,199,zw (.slice (O ⟨I,0,Q⟩) (n+1) z) w),tkB g.heap.size s] [(.slice (O ⟨I,0,Q⟩) (n+1) z,D++[(E.tk a).x])]):=H.setL (by intro bs al;obtain rfl:=List.mem_singleton.1 al;show 67≠199;decide);refine d _ _ trivial (fun f=>by cases f) ?_;refine uc (by kernel_rfl) ?_ _;generalize h.setCell _ _=cI at ap⊢;go_wp2_with fail;refine bv (vG ap (by rw[K];decide)) fun b1 ar=>?_;go_wp2_with fail;go_roundg (E.n-(a+1))
   case measure=>omega
   case rel=>exact⟨a+1,D++[(E.tk a).x],[],w,Br,_,n+1,z,rfl,by rw[aK,ak];rfl,by omega,by omega,.close K (by omega),ar,J.1,J.2⟩
  |@go _ _ bF _ u K bA ch=>
   have J:Hid ((D++[(E.tk a).x])++bF=ad/\(w||a5)=r):=⟨by rw[dy];exact a2,a3⟩;have b3:=aq ch;have cw:n<=50000000:=by omega
   go_wp2_with fail;refine bv (vG a6 (by rw[u];decide)) fun b0 ao=>?_;go_wp2_with fail;refine bv (vG ao (by rw[u];decide)) fun a8 y=>?_;go_wp2_with fail;have a0:=sB y (aw (ah _ _));obtain⟨a7,bD,bE⟩:=sLC a0;refine B3 (S:=fun _=>True) (by kernel_rfl) trivial (fun hS=>?_);simp only[gj,bB,dl,Nat.reduceAdd,gD,iw,ix,dt,ej];refine bG 0 (.pointer (O ⟨c.heap.size,0,Q⟩)) rfl rfl (by kernel_rfl) (fun _ _ _=>id) hS (fun B A=>by go_simp) ?_;simp only[A2];refine bG 1 (.pointer (O ⟨c.heap.size,0,Q⟩)) rfl rfl (by kernel_rfl) (fun _ _ _=>id) hS (fun B A=>by go_simp) ?_;simp only[A2];refine bG 2 (.pointer (O ⟨c.heap.size,0,Q⟩)) rfl rfl (by kernel_rfl) (fun _ _ _=>id) hS (fun B A=>by go_simp) ?_;simp only[A2];refine bG 3 (.pointer (O ⟨c.heap.size,6,Q⟩)) rfl rfl (by kernel_rfl) (fun _ _ _=>id) hS (fun B A=>by go_simp) ?_;simp only[A2];refine bG 5 (.pointer (O ⟨E.pb,0,Q⟩)) rfl rfl (by kernel_rfl) (fun _ _ _=>id) hS (fun B A=>by go_simp) ?_;simp only[A2];refine re (S:=fun ba=>ba.cell? ⟨c.heap.size,6,Q⟩=O (.slice l n m)) (C:=fun j=>!(j==9||j==10||j==11||j==12)) (i:=4) (v:= .slice l n m) rfl (xn (by kernel_rfl)) (fun _ _ _ am=>am) ?hC _ _ _ _ (xo rfl (by kernel_rfl)) (List.contains_iff_mem.1 (by kernel_rfl)) (Or.inl ⟨by rfl,fun B A=>by go_simp⟩) hS a7 ?_
   case hC=>
    intro j cB an f;simp only[Bool.not_eq_false',xu,ja]at f;rcases f with((rfl|rfl)|rfl)|rfl
    ·obtain rfl:=bp an;exact⟨{on:=4,ground:=Ground.data},by simp,rfl,rfl⟩
    all_goals
     obtain rfl:=bp an;exact⟨{on:=4,ground:=Ground.phase},by simp,rfl,rfl⟩
   simp only[Act.put,aD,aE,aF];refine dC (i:=6) (by kernel_rfl) rfl (fun p d=>?_);go_simp;refine bv (dH a0 u (by omega)) fun F o=>?_;have a1:=(sLC o).1;refine d _ _ trivial (fun _=>a1) ?_;try simp only[aD,aE,aF]
   refine dC (i:=7) (by kernel_rfl) rfl (fun p d=>?_);simp only[jr];go_simp;refine d _ _ trivial (fun _=>a1) ?_;try simp only[aD,aE,aF]
   refine dC (i:=8) (by kernel_rfl) rfl (fun p d=>?_);go_simp;have G:=sB o (cK F (.cells #[.string (E.tk a).x] 9));have bb:=(sLC G).1;have a4:=G.nm _ (cE ..);rw[cj,ak]at a4;refine d _ _ trivial (fun _=>bb) ?_;try simp only[aD,aE,aF]
   obtain⟨bh,bk,bl,bn,bo⟩:=du Dp;refine dC (i:=9) (by kernel_rfl) rfl (fun p d=>?_);refine step_append_lies _ (by rfl) _ _ 42 (by rfl) g.heap.size 9 bh _ 1 16 Tryz.underlying42 bk bl bn bo rfl (by decide) (.slice l n m) n _ (by rfl) a4 ⟨F.heap.size,0,Q⟩ 1 1 [.string (E.tk a).x] (by rfl) rfl (Bs (aA F _)) (by intro cF bf;rw[List.mem_singleton.1 bf];rfl) (by decide) (by unfold B7;omega) (by omega) (bL o.gr.size (cK F _).size) _ rfl ?_;intro I z h br bc cl ct;have H:Hid (Sw E g h (a+1) s0 [] .nil [] [(c.heap.size,199,zw (.slice l n m) w),tkB g.heap.size s] [(.slice (O ⟨I,0,Q⟩) (n+1) z,D++[(E.tk a).x])]):=G.putN (by rw[cj,aK,ak,dF];exact br) bc;obtain⟨cc,cf,cg⟩:=sLC H;refine d _ _ trivial (fun f=>by cases f) ?_;simp only[Act.put,aD,aE,aF];refine dC (i:=10) (by kernel_rfl) rfl (fun p d=>?_);go_simp;refine d _ _ trivial (fun f=>by cases f) ?_;try simp only[aD,aE,aF]
   refine dC (i:=11) (by kernel_rfl) rfl (fun p d=>?_);go_simp;refine d _ _ trivial (fun f=>by cases f) ?_;try simp only[aD,aE,aF]
   refine dC (i:=12) (by kernel_rfl) rfl (fun p d=>?_);go_simp;have ap:Hid (Sw E g (h.setCell ⟨c.heap.size,6,Q⟩ (.slice (O ⟨I,0,Q⟩) (n+1) z)) (a+1) s0 [] .nil [] [(c.heap.size,199,zw (.slice (O ⟨I,0,Q⟩) (n+1) z) w),tkB g.heap.size s] [(.slice (O ⟨I,0,Q⟩) (n+1) z,D++[(E.tk a).x])]):=H.setL (by intro bs al;obtain rfl:=List.mem_singleton.1 al;show 67≠199;decide);refine d _ _ trivial (fun f=>by cases f) ?_;refine uc (by kernel_rfl) ?_ _;generalize h.setCell _ _=cI at ap⊢;go_wp2_with fail;refine bv (ut ap K) fun b1 ar=>?_;go_wp2_with fail;go_roundg (E.n-(a+2))
   case measure=>omega
   case rel=>exact⟨a+2,D++[(E.tk a).x],bF,w,a5,_,n+1,z,rfl,by rw[aK,ak];rfl,by omega,by omega,b3,ar,J.1,J.2⟩
end
abbrev CxP(E:Pe)(i:Nat)(x:Fo)(j:Nat):Prop:=CN E 216 #[pV E] i x j
abbrev ClP(E:Pe)(i:Nat)(x:Fo)(j:Nat):Prop:=CR E 251 #[pV E,.func (.func 216) #[pV E] #[]] i x j
def PI(E:Pe):xi->Nat->Fo->Nat->Prop
 | .unit,i,R,j=>CN E 282 #[pV E] i R j
 | .expr p,i,R,j=>CXi E p i R j
 | .more p s x,i,R,j=>∃m,Ms E (CXi E) p s m x i R j
 | .base,i,R,j=>CN E 217 #[pV E] i R j
 | .post s x,i,R,j=>∃m,Kb E (CxP E) (ClP E) s m x i R j
 | .exprs,i,R,j=>ClP E i R j
 | .moreE,i,R,j=>∃m,Ls E (CN E 216 #[pV E]) m i R j
 | .moreB,i,R,j=>∃m,Ls E (CN E 217 #[pV E]) m i R j
 | .stat,i,R,j=>CN E 142 #[pV E] i R j
 | .stats,i,R,j=>∃m,Ss E (CN E 142 #[pV E]) m i R j
 | .block,i,R,j=>CN E 218 #[pV E] i R j
 | .body s,i,R,j=>CN E 253 #[pV E,Cb (jr s.k s)] i R j
 | .entry,i,R,j=>CN E 312 #[pV E] i R j
 | .entries,i,R,j=>∃m,Es E (CN E 312 #[pV E]) m i R j
 | .branch,i,R,j=>CN E 209 #[pV E] i R j
theorem ajH{k:Int}(h:ma k=Er):k=25\/k=50\/k=62\/k=69:=by
 have:=aH h;omega
theorem Ds{f:FuncId}{k:Nat}{x:Fo}(b:∀(args:Array V) (w:B4),(callFunc f args).run B6 w= .ok (.enter f args) w)(d:CN E f #[pV E] i x k)(h:(E.tk k).k≠46)(c:k<E.n):CR E 251 #[pV E,.func (.func f) #[pV E] #[]] i x k:=by
 have a:=acj b d (Ls.stop h c);rw[Fo.app_nil]at a;exact a
theorem ahb(y:∀q,(E.tk q).k<=78){t:xi}{j:Nat}{R:Fo}(h:P E.tk E.n t i R j):PI E t i R j:=by
 induction h with
 |upre a b d c=>
  have:=d.pos;simp only[fi]at this;rcases ajH a with h|h|h|h
  ·rw[h];exact rG h b (by decide) (acl (by decide) h b c)
  ·rw[h];exact rG h b (by decide) (acl (by decide) h b c)
  ·rw[h];exact rG h b (by decide) (acl (by decide) h b c)
  ·rw[h];exact rG h b (by decide) (acl (by decide) h b c)
 |uint a b=>exact apg b a
 |uflt a b=>exact rG a (by omega) (by decide) (aha b (by decide) (by decide) a)
 |ustr a b=>exact rG a (by omega) (by decide) (aha b (by decide) (by decide) a)
 |unil a b=>exact rG a (by omega) (by decide) (Ff b (by decide) (by decide) a)
 |utru a b=>exact rG a (by omega) (by decide) (Ff b (by decide) (by decide) a)
 |ufls a b=>exact rG a (by omega) (by decide) (Ff b (by decide) (by decide) a)
 |urst a b=>exact rG a (by omega) (by decide) (Ff b (by decide) (by decide) a)
 |@ufn i j R a b d c=>exact aph a b (by have q:CN E 253 #[pV E,Cb (jr (E.tk i).k (E.tk i))] (i+1) R j:=c;rw[a]at q;exact q)
 |utab a b d e f c=>obtain⟨m,c⟩:=c;exact rG a b (by decide) (api a b c e f)
 |ubas a b d c=>
  rcases a with h|h
  ·exact rG h b (by decide) c
  ·exact rG h b (by decide) c
 |ex a b d e l o=>obtain⟨m,c⟩:=o;exact aml a b y l c
 |mstop a b=>exact⟨0,.stop a b⟩
 |mgo a b d e f o w=>obtain⟨m,c⟩:=w;have:=e.pos;simp only[fi]at this;exact⟨m+1,.go a b d o (by omega) (by omega) c⟩
 |bname a b d c=>obtain⟨m,c⟩:=c;have:=d.pos;simp only[fi]at this;exact akt a b (.inl ⟨rfl,aha (by omega) (by decide) (by decide) a⟩) c
 |bopen a b d e f g l r=>obtain⟨m,c⟩:=r;have:=d.pos;have:=g.pos;simp only[fi]at *;exact akt a b (.inr ⟨rfl,an7 a b (pE l) e (by omega) (by omega)⟩) c
 |pstop a b=>exact⟨0,.stop a b⟩
 |pdot a b d e c=>obtain⟨m,c⟩:=c;have:=e.pos;exact⟨m+1,.dot a b (by omega) c⟩
 |psq a b d e f g l r=>obtain⟨m,c⟩:=r;have:=g.pos;exact⟨m+1,.sq a b (pE l) e (by omega) c⟩
 |pcall0 a b d e c=>obtain⟨m,c⟩:=c;have:=e.pos;exact⟨m+1,.call0 a b (by omega) c⟩
 |pcall a b d e f g p o s=>obtain⟨m,c⟩:=s;have:=p.pos;exact⟨m+1,.call a b d o f (by omega) c⟩
 |es a b A B=>obtain⟨m,c⟩:=B;exact acj cfE (pE A) c
 |estop a b=>exact⟨0,.stop a b⟩
 |ego a b d e l o=>obtain⟨m,c⟩:=o;exact⟨m+1,.go a b (pE l) c⟩
 |bstop a b=>exact⟨0,.stop a b⟩
 |bgo a b d e l o=>obtain⟨m,c⟩:=o;exact⟨m+1,.go a b l c⟩
 |body a b d e c=>have:=d.pos;have:=e.pos;simp only[fi]at *;exact an9 rfl a (by omega) d c (by omega) (by omega)
 |block a b d e f c=>obtain⟨m,c⟩:=c;exact ame a b (ag7 (.inl e) c) e f
 |sstop a b=>exact⟨0,.stop b⟩
 |ssep a b d c=>obtain⟨m,c⟩:=c;exact⟨m+1,.sep a b c⟩
 |sgo a b d e f g w r=>obtain⟨m,c⟩:=r;exact⟨m+1,.go a b d e w c⟩
 |nstop a b=>exact⟨0,.stop a b⟩
 |ncom a b d e f g l r=>obtain⟨m,c⟩:=r;exact⟨m+1,.com a b l e f c⟩
 |nlast a b d e f g l r=>obtain⟨m,c⟩:=r;exact⟨m+1,.last a b l e f c⟩
 |item a b d e f c=>have:=f.pos;simp only[fi]at this;exact an5 a b d e (pE c) (by omega) (by omega)
 |pair a b d e f g p l s=>have:=d.pos;have:=p.pos;simp only[fi]at *;exact an6 a b (pE l) e f g (pE s) (by omega) (by omega)
 |named a b d e f c=>have:=f.pos;simp only[fi]at this;exact amm a b d e (pE c) (by omega) (by omega)
 |belif a b d e f g p l o s=>have:=d.pos;have:=e.pos;have:=p.pos;simp only[fi]at *;exact ape a rfl b (pE l) o g f s (by omega) (by omega)
 |belse a b d e f g p l o s=>have:=d.pos;have:=e.pos;have:=p.pos;simp only[fi]at *;exact apf a rfl b (pE l) o g f s (by omega) (by omega)
 |bno a b d e f g p l o=>have:=d.pos;have:=e.pos;simp only[fi]at *;exact apd a rfl b (pE l) o p f g (by omega)
 |tlet0 a b d e f=>have:=e.pos;exact lB a (by omega) (by decide) (anF a (by omega) (xc d b e) (by omega) (by omega) f)
 |tlet a b d e f g c=>have:=e.pos;have:=g.pos;simp only[fi]at *;exact lB a (by omega) (by decide) (ao9 a (by omega) (xc d b e) (by omega) (by omega) f c (by omega) (by omega))
 |tcon a b d e f c=>have:=f.pos;simp only[fi]at *;exact lB a (by omega) (by decide) (amf a (by omega) (xc b (by omega) (.stop (by rw[d];decide) (by omega))) (by omega) (by omega) d (pE c) (by omega) (by omega))
 |@tfn i j x a b d e f c=>have:=f.pos;simp only[fi]at *;exact lB a (by omega) (by decide) (fnP a (by omega) (xc b (by omega) (.stop (by rw[d];decide) (by omega))) (by omega) (by omega) (kb:=40) (by decide) d (by have q:CN E 253 #[pV E,Cb (jr (E.tk (i+2)).k (E.tk (i+2)))] (i+2) x j:=c;rw[d]at q;exact q) (by omega) (by omega))
 |tif a b d c=>exact lB a b (by decide) c
 |twhile a b d e l o=>have:=d.pos;have:=e.pos;simp only[fi]at *;exact lB a b (by decide) (amd a b (pE l) o (by omega) (by omega))
 |tfor a b d e f g p r s=>have:=e.pos;have:=g.pos;have:=p.pos;simp only[fi]at *;exact lB a (by omega) (by decide) (apc a (by omega) (xc d b e) (by omega) (by omega) f r s (by omega) (by omega))
 |teach a b d e f g p v z r F=>have:=e.pos;have:=g.pos;have:=z.pos;simp only[fi]at *;exact lB a (by omega) (by decide) (anJ a (by omega) (xc d b e) (by omega) (by omega) f (Ds cfE (pE r) (by rw[p];decide) v) F (by omega) (by omega))
 |tbreak a b=>exact lB a (by omega) (by decide) (Ff b (by decide) (by decide) a)
 |tnext a b=>exact lB a (by omega) (by decide) (Ff b (by decide) (by decide) a)
 |tret0 a b d=>exact lB a (by omega) (by decide) (anI a b d)
 |tret a b d e c=>have:=e.pos;simp only[fi]at *;exact lB a (by omega) (by decide) (apa a b (fun u=>by rw[u]at d;revert d;decide) (fun u=>by rw[u]at d;revert d;decide) (fun u=>by rw[u]at d;revert d;decide) c (by omega) (by omega))
 |ttry a b d e f g p v l C=>have:=d.pos;have:=p.pos;have:=v.pos;simp only[fi]at *;exact lB a b (by decide) (apb a b l e f (xc g f p) C (by omega) (by omega))
 |tthrow a b d c=>have:=d.pos;simp only[fi]at *;exact lB a b (by decide) (akr cfE b (by decide) (by decide) a (pE c) (by omega) (by omega))
 |tdefer a b d c=>have:=d.pos;simp only[fi]at *;exact lB a b (by decide) (akr cfB b (by decide) (by decide) a c (by omega) (by omega))
 |tblock a b d c=>exact lB a b (by decide) c
 |tdo a b d e f g c=>
  have:=d.pos;simp only[fi]at *;rcases a with h|h
  ·exact lB h b (by decide) (doP (.inl rfl) h b (Ds cfB c e g) f g (by omega))
  ·exact lB h b (by decide) (doP (.inr rfl) h b (Ds cfB c e g) f g (by omega))
 |tset a b d e f g p l o s=>
  obtain⟨m,o⟩:=o;have:=d.pos;have:=e.pos;have:=p.pos;simp only[fi]at *;rcases a with h|h
  ·exact lB h b (by decide) (setP (.inl rfl) h b (acj cfB l o) f g s (by omega) (by omega))
  ·exact lB h b (by decide) (setP (.inr rfl) h b (acj cfB l o) f g s (by omega) (by omega))
theorem apk(b c a d e f:V)(w:B4):(Instr.field 67 (Cb #[b,c,a,d,e,f]) 2).run B6 w= .ok a w:=by kernel_rfl
theorem aoa{j:Nat}{R:Fo}(hS:CR E 83 #[pV E] i R j)(g:j<E.n):CN E 23 #[pV E] i (one ⟨1,0,(E.tk j).t,1,0,0,z0,[],[]⟩ R) j:=by
 intro s b h;have c:=Sw.start b;have m:=apk;simp only[bm]at h;clear b;go_in;go_wp21
 refine(yy c hS).mono ?_;rintro f u ⟨k,q,l,r,rfl,a,o⟩;go_wp21
 refine(ag6 a.pp g).mono ?_;rintro f v ⟨⟨p,_,rfl⟩,e⟩;have d:=sB a e;go_wp21
 go_ret;exact⟨_,rfl,qI d ⟨1,0,(E.tk j).t,1,0,0,z0,[],[]⟩ rfl rfl rfl rfl⟩
structure Fm (lo:Nat) (lb:Option Nat) (w w':B4):Prop where
 bl:Below lo w w'
 at_:∀k cs t fr,w.heap[k]?=O (.cells cs t fr)->lb≠O k->w'.heap[k]?=O (.cells cs t fr)\/∃c u,t=vw c/\w'.heap[k]?=O (.cells (cs.setIfInBounds 4 (.int .i64 u)) t fr)
theorem apl(cs:Array V)(u v:V):(cs.setIfInBounds 4 u).setIfInBounds 4 v=cs.setIfInBounds 4 v:=by simp
theorem Fm.trans{lb c:Option Nat}{x m z:B4}(h:Fm lo lb x m)(k:Fm lo c m z)(p:∀g,c=O g->lb=O g\/x.heap.size<=g):Fm lo lb x z:=by
 refine⟨h.bl.trans k.bl,fun a n q o f i=>?_⟩;have j:c≠O a:=fun e=>by
  rcases p a e with e|e
  ·exact i e
  ·have:=ai f;omega
 rcases h.at_ a n q o f i with g|⟨d,r,l,g⟩
 ·exact k.at_ a _ _ _ g j
 ·rcases k.at_ a _ _ _ g j with b|⟨t,s,u,b⟩
  ·exact .inr ⟨d,r,l,b⟩
  ·rw[apl]at b;exact .inr ⟨d,s,l,b⟩
theorem Fm.of_below{w':B4}(b:Below w.heap.size w w')(c:lo<=w.heap.size)(lb:Option Nat):Fm lo lb w w':=⟨b.mono c,fun f d g e a _=> .inl ((b.block _ (ai a)).trans a)⟩
theorem fJ{c:Nat}:vw c≠9/\vw c≠49/\vw c≠3/\vw c≠45:=by
 match c with
 |0=>decide
 |1=>decide
 |2=>decide
 |3=>decide
 |4=>decide
 |5=>decide
 |n+6=>exact⟨show 127≠9 by decide,show 127≠49 by decide,show 127≠3 by decide,show 127≠45 by decide⟩
section
variable {lo : Nat} {lb : Option Nat} {w w' : World}
theorem Fm.blk(h:Fm lo lb w w'){k:Nat}{cs:Array V}{t:B1}{fr:Nat×Nat}(d:w.heap[k]?=O (A5 cs t fr))(e:lb≠O k)(f:∀c,t≠vw c):w'.heap[k]?=O (A5 cs t fr):=by
 rcases h.at_ k cs t fr d e with a|⟨c,g,b,_⟩
 ·exact a
 ·exact absurd b (f c)
theorem Fm.row(h:Fm lo lb w w'){b e size n:Nat}{xs:List V}(o:w.ownsRow b e size v n xs)(l:∀g,v.ownBlock=O g->lb≠O g)(m:∀c,e≠vw c):w'.ownsRow b e size v n xs:=by
 obtain⟨i,a⟩:=o;refine⟨i,?_⟩;rcases a with a|⟨g,d,f,rfl,k,j,p⟩
 ·exact .inl a
 ·exact .inr ⟨g,d,f,rfl,k,h.blk j (l g rfl) m,p⟩
theorem Fm.box(h:Fm lo lb w w'){vk:V}{d:Int}(c:ft w b N vn d vk)(e:lb≠O b):∃f,ft w' b N vn f vk:=by
 unfold ft at c;rcases h.at_ b _ _ _ c e with a|⟨i,g,_,a⟩
 ·exact⟨d,a⟩
 ·exact⟨g,a⟩
theorem Fm.nodes(h:Fm lo lb w w')(j:∀g,lb=O g->∃cs t fr,w.heap[g]?=O (A5 cs t fr)/\t≠9/\t≠49/\∀c,t≠vw c):∀(R:Fo)(vs:List V)(f:List Nat){d:Nat}{a:Option Nat},sJ w d a R vs f->sJ w' d a R vs f
 | .nil,vs,f,d,a,q=>q
 | .cons N k r,vs,f,d,a,⟨b,af,vn,vk,kv,vs',bk,br,e,⟨s,u,m,v⟩,F,k1,H,I⟩=>by
  have nb:∀{g:Nat}{cs:Array V}{t:B1}{fr:Nat×Nat},w.heap[g]?=O (A5 cs t fr)->(t=9\/t=49\/∃c,t=vw c)->lb≠O g:=fun {g cs t fr} i ht e=>by
   obtain⟨K,ak,ad,q,z,A,B⟩:=j _ e;rw[i]at q;simp only[ee,kI]at q;obtain⟨_,rfl,_⟩:=q;rcases ht with ht|ht|⟨c,ht⟩
   ·exact z ht
   ·exact A ht
   ·exact B c ht
  have n:∀{t:B1}{o:V}{p:List V},Rv w d a t o p->(t=9\/t=49)->(∀c,t≠vw c)->Rv w' d a t o p:=fun l ht E=>⟨h.row l.1 (fun g i=>by
   rcases l.1.2 with⟨rfl,_⟩|⟨y,J,L,rfl,_,C,_⟩
   ·simp[Z]at i
   ·obtain rfl:y=g:=by simpa [Z] using i
    exact nb C (by rcases ht with ht|ht;exact .inl ht;exact .inr (.inl ht))) E,l.2⟩
  obtain⟨G,x⟩:=h.box m (nb m (.inr (.inr ⟨_,rfl⟩)));exact⟨b,G,vn,vk,kv,vs',bk,br,e,⟨s,u,x,v⟩,n F (.inl rfl) (fun c=>fJ.1.symm),n k1 (.inr rfl) (fun c=>fJ.2.1.symm),Fm.nodes h j k kv bk H,Fm.nodes h j r vs' br I⟩
theorem Fm.num{vk:V}{g:Int}(a:ft w b N vn g vk)(h:lo<=b)(u:Int)(lb:Option Nat):Fm lo lb w (w.setCell ⟨b,4,Q⟩ (Y X u))/\ft (w.setCell ⟨b,4,Q⟩ (Y X u)) b N vn u vk:=by
 unfold ft at a⊢;have d:(w.setCell ⟨b,4,Q⟩ (Y X u)).heap[b]?=O (A5 (([Y X N.k,Y X N.f,Y X N.t,Y X N.l,Y X g,vk]++Kw N vn (de N.k)).toArray.setIfInBounds 4 (Y X u)) (vw (de N.k)) (0,0)):=bz _ b 4 _ _ _ a;refine⟨⟨(ah _ w).setCell h _,fun i j m k c _=>?_⟩,d⟩;by_cases e:i=b
 ·subst e;rw[a]at c;cases c;exact .inr ⟨_,u,rfl,d⟩
 ·exact .inl ((aB _ _ _ _ e).trans c)
end
def Fr(s:Nat)(v:V):Prop:=∀g,v.ownBlock=O g->s<=g
theorem Fr.le{s t:Nat}(h:Fr s v)(c:t<=s):Fr t v:=fun a b=>bL c (h a b)
def LP(lo:Nat)(N:Nd)(ks:Fo)(w:B4)(v:V)(f:List Nat)(a:List Mb)(d:V)(e:Ending)(w':B4):Prop:=∃c M,e= .returned c/\Lw w' lo c (a++M)/\M.map Mb.N=(one N ks).flat a.length/\(∀y,(M.flatMap fun x=>x.vn.ownBlock.toList).count y<=f.count y)/\((∀x∈M,Fr w.heap.size x.vk)/\(M.flatMap fun x=>x.vk.ownBlock.toList).Nodup)/\Fm lo d.ownBlock w w'/\(∀g,c.ownBlock=O g->d.ownBlock=O g\/w.heap.size<=g)/\∃b h,v= U h (B0 (O ⟨b,0,Q⟩))/\w'.cell? ⟨b,4,Q⟩=O (Y X ((a.length+ks.sz:Nat):Int))
def LC(lo:Nat)(N:Nd)(ks:Fo):Prop:=∀(w:B4)(v:V)(a:List Nat)(L:List Mb)(lv:V),sJ w lo Q (one N ks) [v] a->Lw w lo lv L->lo<=w.heap.size->L.length+(one N ks).sz<=50000000->
 E0 B6 22 #[v,lv] w (LP lo N ks w v a L lv)
def LCs(lo:Nat):Fo->Prop
 | .nil=>True
 | .cons N k r=>LC lo N k/\LCs lo r
def kB(a:List Mb):List Nat:=a.flatMap fun x=>x.vk.ownBlock.toList
def nB'(a:List Mb):List Nat:=a.flatMap fun x=>x.vn.ownBlock.toList
structure Lj (lo:Nat) (w wr:B4) (N:Nd) (b rb:Nat) (vn vk lv lv1:V) (L M:List Mb) (ks D R':Fo) (kv us vs':List V) (bk bd br:List Nat) (tp:List Int) (ac:Option Addr) (nc cc:Nat):Prop where
 e1:D.app R'=ks
 e2:us++vs'=kv
 ln:us.length=D.len
 lc:LCs lo R'
 nr:sJ wr lo Q R' vs' br
 pb:(bd++br).Perm bk
 lw:Lw wr lo lv1 (L++M)
 mf:M.map Mb.N=D.flat L.length
 mp:∀y,(nB' M).count y<=bd.count y
 mr:∀x∈M,Fr w.heap.size x.vk
 fm:Fm lo lv.ownBlock w wr
 lb:∀g,lv1.ownBlock=O g->lv.ownBlock=O g\/w.heap.size<=g
 rb:w.heap.size<=rb/\lv1.ownBlock≠O rb/\wr.heap[rb]?=O (.cells (LD N (tq vn (de N.k)) (.slice ac nc cc)) 45 (0,0))
 kr:wr.ownsRow w.heap.size 3 1 (.slice ac nc cc) nc (tp.map (E1 .i64))
 kd:(kB M++(Ax ac nc cc).ownBlock.toList).Nodup
 bx:∃num,ft wr b N vn num vk
 vr:wr.ownsRow lo 49 1 vk kv.length kv
 lq:∀x∈L,∀g,x.vk.ownBlock=O g->g<w.heap.size
 nw:wr.ownsRow lo 9 1 vn (N.nm.map A0).length (N.nm.map A0)
section
variable {lo : Nat} {w wr w4 : World} {N N' : Nd} {b rb : Nat} {vn vk lv lv1 lv2 v : Value} {L M M2 : List Mb} {ks D k' r : Fo} {kv us vs' : List Value} {bk bd br : List Nat} {tp : List Int} {ac : Option Addr} {nc cc : Nat}
theorem amn(a b:List Mb):kB (a++b)=kB a++kB b:=xq
theorem amo(a b:List Mb):nB' (a++b)=nB' a++nB' b:=xq
theorem oC{w:B4}{base e size n:Nat}{v:V}{xs:List V}(o:w.ownsRow base e size v n xs)(a:v.ownBlock=O g):∃cs fr,w.heap[g]?=O (A5 cs e fr):=by
 rcases o.2 with⟨rfl,_⟩|⟨b,d,f,rfl,_,c,_⟩
 ·simp[Z]at a
 ·obtain rfl:b=g:=by simpa [Z] using a
  exact⟨_,_,c⟩
theorem Lj.kid(h:Lj lo w wr N b rb vn vk lv lv1 L M ks D (.cons N' k' r) kv us (v::vs') bk bd br tp ac nc cc)(k:Fm lo lv1.ownBlock wr w4)(af:Lw w4 lo lv2 ((L++M)++M2))(ak:M2.map Mb.N=(one N' k').flat (L++M).length){l:List Nat}(J:∃d,br=l++d/\sJ wr lo Q r vs' d)(am:∀y,(nB' M2).count y<=l.count y)(q:∀x∈M2,Fr wr.heap.size x.vk)(F:(kB M2).Nodup)(p:∀g,lv2.ownBlock=O g->lv1.ownBlock=O g\/wr.heap.size<=g):∃d,Lj lo w w4 N b rb vn vk lv lv2 L (M++M2) ks (D.app (one N' k')) r kv (us++[v]) vs' bk (bd++l) d tp ac nc cc:=by
 obtain⟨d,rfl,al⟩:=J;have ad:=h.fm.bl.size;have t:∀g,lv1.ownBlock=O g->∃i j,wr.heap[g]?=O (A5 i 45 j):=fun g a=>oC h.lw.row a;have z:∀{g:Nat}{i:Array V}{B:B1}{j:Nat×Nat},wr.heap[g]?=O (A5 i B j)->B≠45->lv1.ownBlock≠O g:=fun a K e=>by
  obtain⟨an,ao,c⟩:=t _ e;rw[a]at c;simp only[ee,kI]at c;exact K c.2.1
 have o:∀{u e size n:Nat}{C:V}{E:List V},wr.ownsRow u e size C n E->e≠45->(∀f,e≠vw f)->w4.ownsRow u e size C n E:=fun A G H=>k.row A (fun g a=>by obtain⟨i,j,c⟩:=oC A a;exact z c G) H;have I:(L++M).length=L.length+D.sz:=by
  have e:=congrArg List.length h.mf;rw[cj,Fo.flat_len]at e;rw[aK,e]
 obtain⟨ar,s⟩:=h.bx;have ap:=ai h.rb.2.2;refine⟨d,?_,?_,?_,h.lc.2,k.nodes (fun g a=>by obtain⟨i,j,c⟩:=t g a;exact⟨i,_,j,c,by decide,by decide,fun f=>fJ.2.2.2.symm⟩) _ _ _ al,?_,by rw[<-dy];exact af,?_,?_,?_,h.fm.trans k h.lb,?_,⟨h.rb.1,?_,k.blk h.rb.2.2 h.rb.2.1 (fun f=>fJ.2.2.2.symm)⟩,o h.kr (by decide) (fun f=>fJ.2.2.1.symm),?_,k.box s (z s fJ.2.2.2),o h.vr (by decide) (fun f=>fJ.2.1.symm),h.lq,o h.nw (by decide) (fun f=>fJ.1.symm)⟩
 ·rw[Fo.app_app];exact h.e1
 ·rw[dy];exact h.e2
 ·rw[aK,Fo.len_app,h.ln];rfl
 ·rw[dy];exact h.pb
 ·rw[dF,h.mf,ak,Fo.flat_app,I]
 ·intro y;have av:=h.mp y;have a0:=am y;rw[amo,Ft,Ft];omega
 ·intro x hx;rcases List.mem_append.1 hx with hx|hx
  ·exact h.mr x hx
  ·exact(q x hx).le ad
 ·intro g a;rcases p g a with e|e
  ·exact h.lb g e
  ·exact .inr (by omega)
 ·intro e;rcases p rb e with e|e
  ·exact h.rb.2.1 e
  ·omega
 ·rw[amn];refine nd3 (n:=wr.heap.size) h.kd F (fun x hx=>?_) (fun x hx=>?_)
  ·rcases List.mem_append.1 hx with hx|hx
   ·obtain⟨y,m,hx⟩:=List.mem_flatMap.1 hx;exact((h.lw.each y (Fu _ m)).2.lt x (by simpa using hx)).2
   ·exact(h.kr.lt x (by simpa using hx)).2
  ·obtain⟨y,m,hx⟩:=List.mem_flatMap.1 hx;exact q y m x (by simpa using hx)
theorem Lj.put{ad:Fo}{z:Int}{o:Obj}{s:Nat}{m:B4}(h:Lj lo w wr N b rb vn vk lv lv1 L M ks D ad kv us vs' bk bd br tp ac nc cc)(am:m.ownsRow w.heap.size 3 1 (A9 (O ⟨g,0,Q⟩) (nc+1) s) (nc+1) ((tp++[z]).map (E1 X)))(n:(wr.alloc o).grownBy m (Ax ac nc cc).ownBlock)(ao:(Ax ac nc cc).ownBlock=O g\/g=(wr.alloc o).heap.size)(C:lo<=w.heap.size):Lj lo w (m.setCell ⟨rb,8,Q⟩ (A9 (O ⟨g,0,Q⟩) (nc+1) s)) N b rb vn vk lv lv1 L M ks D ad kv us vs' bk bd br (tp++[z]) (O ⟨g,0,Q⟩) (nc+1) s:=by
 have al:=h.fm.bl.size;have ar:=(cK wr o).size;have H:∀c,(Ax ac nc cc).ownBlock=O c->w.heap.size<=c:=fun c a=>(h.kr.lt c a).1;have x:Fm lo (Ax ac nc cc).ownBlock wr m:=⟨((cK wr o).mono (bL C al)).trans ((ah lo (wr.alloc o)).grown n (bL C (bL al ar)) (fun c a=>bL C (H c a))),fun c j t k a F=> .inl ((n.block c (by have:=ai a;omega) (fun e=>F e.symm)).trans (((cK wr o).block c (ai a)).trans a))⟩;have E:∀{c:Nat}{j:Array V}{t:B1}{k:Nat×Nat},wr.heap[c]?=O (A5 j t k)->t≠3->(Ax ac nc cc).ownBlock≠O c:=fun a G e=>jw h.kr a G e;have I:=x.blk h.rb.2.2 (E h.rb.2.2 (by decide)) (fun i=>fJ.2.2.2.symm);have y:Fm lo (O rb) m (m.setCell ⟨rb,8,Q⟩ (A9 (O ⟨g,0,Q⟩) (nc+1) s)):=⟨(ah lo m).setCell (show lo<=(⟨rb,8,Q⟩:Addr).block from bL C h.rb.1) _,fun c j t k a F=> .inl ((aB _ _ _ _ (fun e=>F (by rw[e]))).trans a)⟩;have an:∀{c:Nat}{j:Array V}{t:B1}{k:Nat×Nat},m.heap[c]?=O (A5 j t k)->t≠45->O rb≠O c:=fun a G e=>by
  cases e;rw[I]at a;simp only[ee,kI]at a;exact G a.2.1.symm
 have J:∀{p e size q:Nat}{l:V}{r:List V},wr.ownsRow p e size l q r->(∀g,l.ownBlock=O g->(Ax ac nc cc).ownBlock≠O g)->(∀g,l.ownBlock=O g->g≠rb)->(∀i,e≠vw i)->(m.setCell ⟨rb,8,Q⟩ (A9 (O ⟨g,0,Q⟩) (nc+1) s)).ownsRow p e size l q r:=fun f u A B=>y.row (x.row f u B) (fun g n e=>A g n (by cases e;rfl)) B;have K:∀{p e size q:Nat}{l:V}{r:List V},wr.ownsRow p e size l q r->e≠3->e≠45->(∀i,e≠vw i)->(m.setCell ⟨rb,8,Q⟩ (A9 (O ⟨g,0,Q⟩) (nc+1) s)).ownsRow p e size l q r:=fun f u A B=>J f (fun g n=>by obtain⟨j,k,d⟩:=oC f n;exact E d u) (fun g n e=>by obtain⟨j,k,d⟩:=oC f n;rw[e,h.rb.2.2]at d;simp only[ee,kI]at d;exact A d.2.1.symm) B;have a0:∀{p q:Nat}{l:V}{r:List V},wr.ownsRow p 3 1 l q r->(∀g,l.ownBlock=O g->(Ax ac nc cc).ownBlock≠O g)->(m.setCell ⟨rb,8,Q⟩ (A9 (O ⟨g,0,Q⟩) (nc+1) s)).ownsRow p 3 1 l q r:=fun f u=>J f u (fun g n e=>by obtain⟨j,k,d⟩:=oC f n;rw[e,h.rb.2.2]at d;simp only[ee,kI]at d;exact absurd d.2.1 (by decide)) (fun i=>fJ.2.2.1.symm);obtain⟨a3,af⟩:=h.bx;obtain⟨a4,ak⟩:=x.box af (E af fJ.2.2.1);refine⟨h.e1,h.e2,h.ln,h.lc,y.nodes (fun c a=>by cases a;exact⟨_,_,_,I,by decide,by decide,fun i=>fJ.2.2.2.symm⟩) _ _ _ (x.nodes (fun c a=>by obtain⟨j,k,d⟩:=oC h.kr a;exact⟨_,_,_,d,by decide,by decide,fun i=>fJ.2.2.1.symm⟩) _ _ _ h.nr),h.pb,⟨J h.lw.row (fun c a=>by obtain⟨j,k,d⟩:=oC h.lw.row a;exact E d (by decide)) (fun c a e=>h.rb.2.1 (by rw[<-e];exact a)) (fun i=>fJ.2.2.2.symm),fun v hx=>⟨K (h.lw.each v hx).1 (by decide) (by decide) (fun i=>fJ.1.symm),a0 (h.lw.each v hx).2 (fun c a e=>?_)⟩⟩,h.mf,h.mp,h.mr,(h.fm.trans x (fun c a=> .inr (H c a))).trans y (fun c a=> .inr (by cases a;exact h.rb.1)),h.lb,⟨h.rb.1,h.rb.2.1,bz _ rb 8 _ _ _ I⟩,?_,?_,y.box ak (an ak fJ.2.2.2),K h.vr (by decide) (by decide) (fun i=>fJ.2.1.symm),h.lq,K h.nw (by decide) (by decide) (fun i=>fJ.1.symm)⟩
 ·rcases List.mem_append.1 hx with hx|hx
  ·have:=h.lq v hx c a;have:=H c e;omega
  ·have f:=List.nodup_append.1 h.kd;exact f.2.2 c (List.mem_flatMap.2 ⟨v,hx,by simp[a]⟩) c (by simp[e]) rfl
 ·exact y.row am (fun c a=>by obtain⟨j,k,d⟩:=oC am a;exact an d (by decide)) (fun i=>fJ.2.2.1.symm)
 ·rcases ao with e|e
  ·have f:=h.kd;rw[e]at f;exact f
  ·have f:=(List.nodup_append.1 h.kd).1;rw[uz];refine⟨f,Ho _,fun v hx a2 av=>?_⟩;obtain⟨a1,ap,hx⟩:=List.mem_flatMap.1 hx;have u:=((h.lw.each a1 (Fu _ ap)).2.lt v (by simpa using hx)).2;have A:a2=g:=by simpa [Z] using av
   omega
theorem apm:∀(c:Nat),mz N c=N->w.ownsRow lo 9 1 vn (N.nm.map A0).length (N.nm.map A0)->w.ownsRow lo 9 1 (tq vn c) N.nm.length (N.nm.map A0)/\∀y,(tq vn c).ownBlock.toList.count y<=vn.ownBlock.toList.count y
 |0,_,o=>⟨by rw[cj]at o;exact o,fun y=>ag _⟩
 |5,_,o=>⟨by rw[cj]at o;exact o,fun y=>ag _⟩
 |1,e,_|2,e,_|3,e,_|4,e,_|n+6,e,_=>by
  have h:[]=N.nm:=congrArg Nd.nm e;rw[<-h];exact⟨dr _ _ _ _,fun y=>by simp[tq,Z]⟩
theorem Lj.fin{u:Int}{o:Obj}{n:Nat}{f:B4}(h:Lj lo w wr N b rb vn vk lv lv1 L M ks ks .nil kv us [] bk bd [] (ks.tops L.length) ac nc cc)(af:lo<=b)(ad:mz N (de N.k)=N)(am:lo<=w.heap.size)(ao:nc=ks.len)(ar:u=((L.length+ks.sz:Nat):Int))(av:f.ownsRow lo 45 9 (A9 (O ⟨g,0,Q⟩) ((L++M).length+1) n) ((L++M).length+1) (sv ((L++M)++[⟨{N with ks:=ks.tops L.length},tq vn (de N.k),A9 ac nc cc⟩])))(d:((wr.setCell ⟨b,4,Q⟩ (Y X u)).alloc o).grownBy f lv1.ownBlock)(B:lv1.ownBlock=O g\/g=((wr.setCell ⟨b,4,Q⟩ (Y X u)).alloc o).heap.size)(t:B1):
  ∃M',Lw f lo (A9 (O ⟨g,0,Q⟩) ((L++M).length+1) n) (L++M')/\M'.map Mb.N=(one N ks).flat L.length/\(∀y,(M'.flatMap fun x=>x.vn.ownBlock.toList).count y<=(vn.ownBlock.toList++(bk++[])).count y)/\((∀x∈M',Fr w.heap.size x.vk)/\(M'.flatMap fun x=>x.vk.ownBlock.toList).Nodup)/\Fm lo lv.ownBlock w f/\(∀k,(Ax (O ⟨g,0,Q⟩) ((L++M).length+1) n).ownBlock=O k->lv.ownBlock=O k\/w.heap.size<=k)/\∃z a4,Value.iface t (B0 (O ⟨b,0,Q⟩))= U a4 (B0 (O ⟨z,0,Q⟩))/\f.cell? ⟨z,4,Q⟩=O (Y X ((L.length+ks.sz:Nat):Int)):=by
 have a7:=h.fm.bl.size;obtain⟨a9,ak⟩:=h.bx;obtain⟨j,l⟩:=Fm.num (lo:=lo) ak af u Q;generalize a8:wr.setCell ⟨b,4,Q⟩ (Y X u)=e at j l d B;have a5:=(cK e o).size;have a6:=j.bl.size;have I:=j.row h.lw.row (fun _ _=>by simp) (fun i=>fJ.2.2.2.symm);have F:∀{k:Nat}{p:Array V}{t:B1}{r:Nat×Nat},e.heap[k]?=O (A5 p t r)->t≠45->lv1.ownBlock≠O k:=fun c ap a=>jw I c ap a;have al:∀k,lv1.ownBlock=O k->lo<=k:=fun k c=>(h.lw.row.lt k c).1;have v:Fm lo lv1.ownBlock e f:=⟨((cK e o).mono (by omega)).trans ((ah lo (e.alloc o)).grown d (by omega) al),fun k p t r c an=> .inl ((d.block k (by have:=ai c;omega) (fun a=>an a.symm)).trans (((cK e o).block k (ai c)).trans c))⟩;have m:∀{C a size E:Nat}{u:V}{H:List V},wr.ownsRow C a size u E H->a≠45->(∀i,a≠vw i)->f.ownsRow C a size u E H:=fun q K A=>by
  have G:=j.row q (fun _ _=>by simp) A;exact v.row G (fun g d=>by obtain⟨p,r,a0⟩:=oC G d;exact F a0 K) A
 have J:=(d.block b (by have:=ai l;omega) (fun a=>F l fJ.2.2.2 a.symm)).trans (((cK e o).block b (ai l)).trans l);obtain⟨a2,a3⟩:=apm (de N.k) ad (m h.nw (by decide) (fun i=>fJ.1.symm));refine⟨M++[⟨{N with ks:=ks.tops L.length},tq vn (de N.k),A9 ac nc cc⟩],⟨?_,fun x hx=>?_⟩,?_,fun y=>?_,⟨fun x hx=>?_,?_⟩,(h.fm.trans (j:Fm lo Q wr e) (fun k c=>by cases c)).trans v h.lb,fun k c=>?_,b,t,rfl,?_⟩
 ·rw[<-dy];have a:∀(s:List Mb)(x:Mb),(s++[x]).length=s.length+1:=fun s x=>by simp
  rw[a (L++M)];exact av
 ·rw[<-dy]at hx;rcases List.mem_append.1 hx with hx|hx
  ·exact⟨m (h.lw.each x hx).1 (by decide) (fun i=>fJ.1.symm),m (h.lw.each x hx).2 (by decide) (fun i=>fJ.2.2.1.symm)⟩
  ·obtain rfl:=List.mem_singleton.1 hx;refine⟨a2,?_⟩;have q:=nI (m h.kr (by decide) (fun i=>fJ.2.2.1.symm)) am;show f.ownsRow lo 3 1 _ (ks.tops L.length).length _;rw[Fo.tops_len,<-ao];exact q
 ·rw[dF,h.mf,BG];rfl
 ·have ba:=h.mp y;have a1:=h.pb.count_eq y;have bb:=a3 y;have a:(List.flatMap (fun x=>x.vn.ownBlock.toList) (M++[(⟨{N with ks:=ks.tops L.length},tq vn (de N.k),A9 ac nc cc⟩:Mb)]))=nB' M++((tq vn (de N.k)).ownBlock.toList++[]):=xq;rw[a];simp only[dA,Ft]at a1⊢;omega
 ·rcases List.mem_append.1 hx with hx|hx
  ·exact h.mr x hx
  ·obtain rfl:=List.mem_singleton.1 hx;exact fun g d=>(h.kr.lt g d).1
 ·have q:=h.kd;have a:(List.flatMap (fun x=>x.vk.ownBlock.toList) (M++[(⟨{N with ks:=ks.tops L.length},tq vn (de N.k),A9 ac nc cc⟩:Mb)]))=kB M++((Ax ac nc cc).ownBlock.toList++[]):=xq;rw[a,dA];exact q
 ·obtain rfl:g=k:=by simpa [Z] using c
  rcases B with q|q
  ·exact h.lb g q
  ·exact .inr (by omega)
 ·rw[au _ _ _ _ _ _ J,ar];rfl
end
theorem Ao{ks:Fo}(f3:LCs lo ks):LC lo N ks:=by
 intro n v hs f ii cv K a7 c0;obtain⟨p,e0,i2,i1,a8,F,a3,bw,⟨fn,bF⟩,⟨d1,hp,d2,d3⟩,ev,es,e4,hf⟩:=cv;obtain⟨rfl,rfl⟩:=hf;obtain rfl:=(pJ fn).1;obtain⟨bt,bE,rfl⟩:=bI ev.1;obtain⟨bo,bD,rfl⟩:=bI K.row;obtain⟨bn,cs,rfl⟩:=bI es.1;have f5:=Al.len _ _ ⟨a3,e4⟩;have b7:=fun n=>ru (de N.k) p n;have gv:=fun n=>da p n;obtain⟨H,am,J,b8⟩:∃fd d d7,tq (.slice bt (N.nm.map A0).length bE) (de N.k)= .slice fd d d7:=by unfold tq;split<;>exact⟨_,_,_,rfl⟩
 have af:=EK n p N _ _ e0 ⟨_,_,_,rfl⟩ d2;rw[d3,b8]at af;unfold jf at af;unfold er at af⊢;generalize hI:jy (de N.k)=hd at af b7⊢;have y:=aq d2;obtain⟨d,L⟩:=az a8.length;obtain⟨E,a6⟩:=az f.length;have hH:d<=50000000:=by have:=ks.len_le;rw[bm]at c0;omega
 rw[L]at y;rw[a6];go_in;go_wp2_with (go_at_call 336;refine dB (gv _) ?_);refine af.mono ?_;rintro e k ⟨rfl,I⟩;have fF:∀o,(k.alloc o).cell? ⟨p,5,Q⟩=O (.slice bn d cs):=fun o=>by
  have a:=((cK k o).block _ (fD (ai y) I.size)).trans ((I.block _ (ai y)).trans y);rw[au _ _ _ _ _ _ a];rfl
 have ek:=cK k (.cells (LD N (.slice H am J) (.slice Q 0 0)) 45);have t:=I.trans (ek.mono I.size);have dq:Hid (Lj lo n (k.alloc (.cells (LD N (.slice H am J) (.slice Q 0 0)) 45)) N p k.heap.size (.slice bt (N.nm.map A0).length bE) (.slice bn d cs) (.slice bo E bD) (.slice bo E bD) f [] ks .nil ks a8 [] a8 a3 [] a3 [] Q 0 0):=by
  refine⟨rfl,rfl,rfl,f3,sJ.mono (fun gu fq fr fu=>⟨t.block gu fu,fq,fr⟩) _ _ _ e4,List.Perm.refl _,?_,rfl,fun i3=>ag _,fun bf ad=>(by cases ad),Fm.of_below t a7 _,fun g cB=> .inl cB,⟨I.size,fun e=>?_,by rw[b8];exact aA k _⟩,dr _ _ _ _,by simp[kB,Z],⟨e0,(t.block _ (ai y)).trans y⟩,by have:=cJ es.1 t;rw[L]at this⊢;exact this,fun bf ad g cB=>((K.each bf ad).2.lt g cB).2,cJ ev.1 t⟩
  ·rw[dA];exact⟨by have:=cJ K.row t;rw[a6]at this⊢;exact this,fun bf ad=>⟨cJ (K.each bf ad).1 t,cJ (K.each bf ad).2 t⟩⟩
  ·have:=(K.row.lt _ (by rw[a6];exact e)).2;have:=I.size;omega
 go_wp2_with fail;clear af t ek fF;go_loopw [1,18] (fun hi dn wr=>∃(a:Nat) (D av:Fo) (ba F:List V) (ch bw:List Nat) (j:List Mb) (cg:Option Addr) (x cm:Nat) (ac:Option Addr) (l:Nat),hi= .slice cg x cm/\dn= .int .i64 a/\a<=d/\ba.length=a/\Hid (Lj lo n wr N p k.heap.size (.slice bt (N.nm.map A0).length bE) (.slice bn d cs) (.slice bo E bD) (.slice cg x cm) f j ks D av a8 ba F a3 ch bw (D.tops E) ac a l)) (fun _ dn _=>d-(intOf dn).toNat)
 case atStart=>exact⟨0,.nil,ks,[],a8,[],a3,[],bo,E,bD,Q,0,rfl,rfl,aL _,rfl,dq⟩
 case round=>
  clear dq;obtain⟨a,D,av,ba,F,ch,bw,j,cg,x,cm,ac,l,rfl,rfl,hK,c3,b⟩:=hrel;by_cases hB:a<d
  ·have f8:ba.length+F.length=d:=by rw[<-L,<-b.out.e2,aK]
   obtain⟨v,ap,rfl⟩:∃v ap,F=v::ap:=by
    cases F with
    |nil=>simp at f8;omega
    |cons v ap=>exact⟨v,ap,rfl⟩
   cases av with
   |nil=>have:=b.nr.1;cases this
   |cons r B ca=>
    obtain⟨s,e3,bc,e6,et,hl,a4,d6,⟨b0,d9⟩,eb,ec,ef,eg,eh⟩:=b.nr;obtain⟨rfl,rfl⟩:=pJ b0;obtain⟨g,rfl⟩:∃g,bn=O ⟨g,0,Q⟩:=by
     have o:=b.vr;rw[L]at o;rcases bu o with⟨hz,_⟩|⟨g,hy,c5⟩
     ·omega
     ·exact⟨g,(aa1 c5).1⟩
    have d8:wr.cell? ⟨g,a,Q⟩=O (er r.k s):=by
     have:=b.vr.cells (g:=g) rfl a (er r.k s) (by rw[<-b.out.e2,fL (by omega),c3,eC];rfl);have fB:(⟨g,0,Q⟩:Addr).add a=⟨g,a,Q⟩:=by unfold Addr.add;split<;>simp_all
     rw[fB]at this;exact this
    have fz:Hid (sJ wr lo Q (one r B) [er r.k s] (bc.ownBlock.toList++(a4++[]))):=⟨s,e3,bc,e6,et,[],a4,[],⟨rfl,rfl⟩,eb,ec,ef,eg,rfl,rfl⟩;have fv:Hid (∃bA,bw=(bc.ownBlock.toList++(a4++[]))++bA/\sJ wr lo Q ca ap bA):=⟨d6,by rw[d9];simp,eh⟩;have gb:=fun n=>ru (de r.k) s n;have gz:=fun n=>da s n;have b5:(f++j).length=f.length+D.sz:=by
     have e:=congrArg List.length b.mf;rw[cj,Fo.flat_len]at e;rw[aK,e]
    have h6:D.sz+(B.sz+1+ca.sz)=ks.sz:=by have e:=congrArg Fo.sz b.e1;rw[Fo.sz_app]at e;exact e
    have e9:=aq b.lc.1;have f9:=bL a7 b.fm.bl.size;clear eb ec ef eg eh b0 d9;have cw:=fz;unfold er at d8 cw;generalize hJ:jy (de r.k)=he at d8 cw gb;have h4:(0:Int)<=(a:Int):=by omega
    have h5:(a:Int)<(d:Int):=by omega
    go_wp2_with fail;refine(e9 wr _ _ (f++j) _ cw b.lw f9 (by rw[b5,bm];rw[bm]at c0;omega)).mono ?_;rintro e q ⟨ik,d0,rfl,dk,g8,hb,⟨ea,fk⟩,f0,d5,hr,ir,c5,gm⟩;obtain⟨ff,fg,rfl⟩:=bI dk.row;cases c5;generalize gd:((f++j)++d0).length=g6 at dk d5⊢;clear gd;obtain⟨bA,ds⟩:=b.kid f0 dk g8 fv hb ea fk d5;have G:=aq ds;clear ds;have a9:q.drew.cell? ⟨k.heap.size,8,Q⟩=O (.slice ac a l):=by have m:=G.rb.2.2;show q.cell? _=_;rw[au _ _ _ _ _ _ m];rfl
    have gf:q.drew.cell? ⟨s,4,Q⟩=O (.int .i64 (((f++j).length+B.sz:Nat):Int)):=gm;generalize gt:((((f++j).length+B.sz:Nat)):Int)=z at gf;go_wp2_with fail;refine B3 (S:=fun _=>True) (by kernel_rfl) trivial (fun hS=>?_);simp only[gj,bB,dl,Nat.reduceAdd,gD,iw,ix,dt,ej];refine bG 0 (.pointer (O ⟨k.heap.size,8,Q⟩)) rfl rfl (by kernel_rfl) (fun _ _ _=>id) hS (fun e7 eq=>by go_simp) ?_;simp only[A2];refine bG 2 (.iface he (.pointer (O ⟨s,0,Q⟩))) rfl rfl (by kernel_rfl) (fun _ _ _=>id) hS (fun e7 eq=>by go_simp) ?_;simp only[A2];refine re (S:=fun fc=>fc.cell? ⟨k.heap.size,8,Q⟩=O (.slice ac a l)) (C:=fun A=>!(A==8||A==9||A==10)) (i:=1) (v:= .slice ac a l) rfl (xn (by kernel_rfl)) (fun _ _ _ cv=>cv) ?hC _ _ _ _ (xo rfl (by kernel_rfl)) (List.contains_iff_mem.1 (by kernel_rfl)) (Or.inl ⟨by rfl,fun e7 eq=>by go_simp⟩) hS a9 ?_
    case hC=>
     intro A il el w;simp only[Bool.not_eq_false',xu,ja]at w;rcases w with(rfl|rfl)|rfl
     ·obtain rfl:=bp el;exact⟨{on:=1,ground:=Ground.data},by simp,rfl,rfl⟩
     all_goals
      obtain rfl:=bp el;exact⟨{on:=1,ground:=Ground.phase},by simp,rfl,rfl⟩
    simp only[Act.put,aD,aE,aF];refine dC (i:=3) (by kernel_rfl) rfl (fun h c=>?_);go_simp;refine dB (gz _) ?_;refine c _ _ trivial (fun _=>a9) ?_;clear c h;try simp only[aD,aE,aF]
    refine dC (i:=4) (by kernel_rfl) rfl (fun h c=>?_);go_simp;refine c _ _ trivial (fun _=>a9) ?_;clear c h;try simp only[aD,aE,aF]
    refine dC (i:=5) (by kernel_rfl) rfl (fun h c=>?_);go_simp;refine c _ _ trivial (fun _=>a9) ?_;clear c h;try simp only[aD,aE,aF]
    refine dC (i:=6) (by kernel_rfl) rfl (fun h c=>?_);go_simp;refine c _ _ trivial (fun _=>a9) ?_;clear c h;try simp only[aD,aE,aF]
    refine dC (i:=7) (by kernel_rfl) rfl (fun h c=>?_);go_simp;have m:=G.rb.2.2;have g0:∀o,(q.alloc o).cell? ⟨k.heap.size,8,Q⟩=O (.slice ac a l):=fun o=>by rw[au _ _ _ _ _ _ (((cK q o).block _ (ai m)).trans m)];rfl
    refine c _ _ trivial (fun _=>g0 _) ?_;clear c h;try simp only[aD,aE,aF]
    obtain⟨c6,c7,c8,c9,df⟩:=du ag3;have gs:=G.fm.bl.size;refine dC (i:=8) (by kernel_rfl) rfl (fun h c=>?_);refine step_append_lies _ (by rfl) _ _ 43 (by rfl) n.heap.size 3 c6 _ 1 8 Tryz.underlying43 c7 c8 c9 df rfl (by decide) (.slice ac a l) a _ (by rfl) (cJ G.kr (aw (cK q (.cells #[.int .i64 z] 3)))) ⟨q.heap.size,0,Q⟩ 1 1 [.int .i64 z] (by rfl) rfl (Bs (aA q _)) (by intro hh b9;rw[List.mem_singleton.1 b9];rfl) (by decide) (by unfold B7;omega) (by omega) (bL gs (cK q (.cells #[.int .i64 z] 3)).size) _ rfl ?_;intro ct cq cb ao u a5 f7;have cF:(q.alloc (.cells #[.int .i64 z] 3)).grownBy cb (Ax ac a l).ownBlock:=⟨u.os,u.tape,u.output,u.size,u.block⟩;have dz:=G.put (z:=z) (o:= .cells #[.int .i64 z] 3) (by rw[dF];exact ao) cF a5 a7;have e5:=(cF.block _ (by have:=ai m;rw[cD];omega) (fun e=>jw G.kr m (by decide) e.symm)).trans (((cK q (.cells #[.int .i64 z] 3)).block _ (ai m)).trans m);have h9:cb.cell? ⟨k.heap.size,8,Q⟩=O (.slice ac a l):=by rw[au _ _ _ _ _ _ e5];rfl
    have ih:∀A,cb.frozen? ⟨k.heap.size,A,Q⟩=Br:=fun A=>co _ _ _ _ _ e5;have fa:=aq dz;clear dz ao u cF a5 f7;refine c _ _ trivial (fun w=>by cases w) ?_;clear c h;simp only[Act.put,aD,aE,aF];refine dC (i:=9) (by kernel_rfl) rfl (fun h c=>?_);go_simp;refine c _ _ trivial (fun w=>by cases w) ?_;clear c h;try simp only[aD,aE,aF]
    refine dC (i:=10) (by kernel_rfl) rfl (fun h c=>?_);go_simp;refine c _ _ trivial (fun w=>by cases w) ?_;clear c h;refine uc (by kernel_rfl) ?_ _;go_wp2_with fail;refine⟨⟨a+1,D.app (one r B),ca,ba++[er r.k s],ap,ch++(bc.ownBlock.toList++(a4++[])),bA,j++d0,ff,g6,fg,O ⟨ct,0,Q⟩,cq,rfl,by go_num,by omega,by rw[aK,c3];rfl,?_⟩,by simp[intOf];omega⟩;have e:(D.app (one r B)).tops E=D.tops E++[z]:=by rw[Fo.tops_app,<-gt,b5,a6];rfl
    rw[e];exact fa
  ·have gn:d=a:=by omega
   subst gn;have b5:(f++j).length=f.length+D.sz:=by
    have e:=congrArg List.length b.mf;rw[cj,Fo.flat_len]at e;rw[aK,e]
   have gr:F=[]:=by
    have e:=congrArg List.length b.e2;rw[aK,c3,L]at e;exact ia (by omega)
   subst gr;have fA:av= .nil:=by
    cases av with
    |nil=>rfl
    |cons r B ca=>obtain⟨s,e3,bc,e6,et,hl,a4,d6,⟨b0,_⟩,_⟩:=b.nr;cases b0
   subst fA;obtain⟨_,rfl⟩:=b.nr;have fx:D=ks:=by have e:=b.e1;rw[Fo.app_nil]at e;exact e
   subst fx;obtain⟨ho,ht,em⟩:=bI b.lw.row;have cI:Hid (x=(f++j).length):=(aa1 em).2.1;clear em;have ge:Hid (d=D.len):=by show d=_;rw[<-L];exact f5
   subst a6;have e8:=aq bF;clear bF;have hG:x<=50000000:=by have:=cI.out;rw[bm]at c0;omega
   obtain⟨g9,b6⟩:=b.bx;have hA:=ai y.out;have m:=b.rb.2.2;have h7:=b.rb.1;rw[b8]at m;have hw:wr.cell? ⟨p,4,Q⟩=O (.int .i64 g9):=by rw[au _ _ _ _ _ _ b6];rfl
   have ea:wr.frozen? ⟨p,4,Q⟩=Br:=co _ _ _ _ _ b6;have ei:(wr.setCell ⟨p,4,Q⟩ (.int .i64 (x:Int))).heap[k.heap.size]?=_:=(aB _ _ _ _ (by show k.heap.size≠p;omega)).trans m;obtain⟨a0,cz⟩:=az (wr.setCell ⟨p,4,Q⟩ (.int .i64 (x:Int)));rw[cz]at ei;obtain⟨i4,i5,i6,i7,i8,i9,jn,j0,j1,j2⟩:=cd ei;have hE:¬(d:Int)<(d:Int):=by omega
   have bh:=(Fm.num (lo:=lo) b6 d1 (x:Int) Q).1;rw[cz]at bh;have cf:=bh.row b.lw.row (fun _ _=>by simp) (fun d7=>fJ.2.2.2.symm);have f6:lo<=a0.heap.size:=bL a7 (bL b.fm.bl.size bh.bl.size);rw[<-cI.out]at cf;have ha:=cJ cf (cK a0 (.cells (LD N (.slice H am J) (.slice ac d l)) 45));have gp:=(cK a0 (.cells (LD N (.slice H am J) (.slice ac d l)) 45)).size;obtain⟨c6,c7,c8,c9,df⟩:=du Gn;clear b7 b6 m bh cf;go_wp2_with (at_builtin;refine wpList_append_own_at _ rfl _ _ 24 rfl lo 45 c6 _ 9 112 Tryz.underlying24 c7 c8 c9 df rfl (by decide) _ _ _ rfl ha ⟨a0.heap.size,0,Q⟩ 1 1 (LD N (.slice H am J) (.slice ac d l)).toList rfl rfl (Bs (aA a0 _)) (by intro hh b9;simp at b9;rcases b9 with rfl|rfl|rfl|rfl|rfl|rfl|rfl|rfl|rfl<;>rfl) (by unfold B7;omega) (by omega) (bL f6 gp) ?_;intro iy cb ao u _ a5;obtain⟨ct,cq,rfl⟩:=ownsRow_succ ao);go_ret;have fo:sv (f++j)++(LD N (.slice H am J) (.slice ac d l)).toList=sv ((f++j)++[⟨{N with ks:=D.tops f.length},tq (.slice bt (N.nm.map A0).length bE) (de N.k),.slice ac d l⟩]):=by rw[Cc (f++j),b8];show _=sv (f++j)++(cMb _++[]);rw[dA];rfl
   rw[fo]at ao;have b7:=cI.out;subst b7;rw[<-cz]at u a5;obtain⟨fb,a⟩:=b.fin d1 d3 a7 ge (by rw[b5]) ao u (by rcases a5 with e|e;exact .inl e.symm;exact .inr (by simpa [Z] using e)) hd;have bF:=e8.out;subst bF;exact(show LP _ _ _ _ _ _ _ _ _ _ from⟨.slice (O ⟨ct,0,Q⟩) ((f++j).length+1) cq,fb,rfl,a⟩)
