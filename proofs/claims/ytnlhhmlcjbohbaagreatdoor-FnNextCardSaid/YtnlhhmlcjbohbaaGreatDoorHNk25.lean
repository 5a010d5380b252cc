import Derived.Test.YtnlhhmlcjbohbaaGreatDoorHNk24
set_option linter.all false
set_option maxRecDepth 100000
set_option maxHeartbeats 12800000
open Option renaming some->O,none->Q
open Go.Value renaming iface->U,int->Y,ownBlock->Z,slice->Ax,string->A0,slice->A9,pointer->B1,agg->Ck,bool->Cr,int->C5
open Go renaming Value->V,TypeId->B3,wp_region_held_drew->B4,World->B6,maxLen->Ce,Calls->C4
open Go.IntKind renaming i64->X
open List renaming set->A2
open Go.Obj renaming cells->A5
open Bool renaming false->Br,true->C2
open Go.World renaming news_of_block->B0
open Go.Proofs.Tryz renaming prog->B7
namespace Go.Proofs.YtnlhhmlcjbohbaaGreatDoor
open Go.RowKit Go.Maps Go.WideMaps
variable{E:Pe}{M:List (Value×List ByteArray)}{N:Nd}{T:Bxs}{W w:World}{b g i lo m:Nat}{r:Bool}{vn:Value}{vs:List Value}
section
variable {E : Pe} {i j k k1 : Nat} {x y R Ex : Fo}
theorem yd{nk:Int}(a:ez nk=3)(b:Nat):fl nk b= U 168 (B1 (O ⟨b,0,Q⟩)):=by unfold fl;rw[a];rfl
theorem Er{nk:Int}(a:ez nk=3)(s:Tk)(e:Int)(x:ByteArray):ny (nd nk s e 0 0 x []) (ez nk)=nd nk s e 0 0 x []:=by rw[a];rfl
theorem ail(w:i+1<E.n){nk k:Int}(r:k≠6)(c:ez nk=3)(a:(E.tk i).k=k):CN E 184 #[pV E,Y X nk] i (one (nd nk (E.tk i) (E.tk i).t 0 0 (E.tk i).x []) .nil) (i+1):=by
 intro z h y;have p:=Sw.start h;clear h;go_in;go_wp2_with fail;refine cJ (er p a (by omega) r) fun w1 q=>?_;obtain⟨s,j,d⟩:=lB q a;simp only[mj]at j;go_wp2_with fail;clear j;have e:=sB d (dJ (ah _ s));have m:=nF d a;have o:=nF e a;go_region_held3 (fun b=>b.cell? ⟨w1.heap.size,0,Q⟩=O (Y X k)/\b.cell? ⟨w1.heap.size,1,Q⟩=O (Y X (E.tk i).f)/\b.cell? ⟨w1.heap.size,2,Q⟩=O (Y X (E.tk i).t)/\b.cell? ⟨w1.heap.size,3,Q⟩=O (Y X (E.tk i).l)/\b.cell? ⟨w1.heap.size,4,Q⟩=O (Y X (E.tk i).n)/\b.cell? ⟨w1.heap.size,5,Q⟩=O (.string (E.tk i).x)) (first|exact m|exact o|exact nF g a|go_keep) (first|(go_at_call 179;refine(gB e a (by omega) (by omega) _ _ _ _).mono ?_;rintro v u ⟨rfl,g⟩))
 go_wp2_with fail;go_ret;exact⟨_,rfl,yd c u.heap.size ▸ rG g (nd nk (E.tk i) (E.tk i).t 0 0 (E.tk i).x []) (Er c _ _ _) rfl (by show _=(_++exT _ _ (ez nk)).toArray;rw[c];rfl) (by show _=wu (ez nk);rw[c];rfl)⟩
theorem arK(u:i+1<E.n)(a:(E.tk i).k=2):CN E 209 #[pV E] i (one (nd 23 (E.tk i) (E.tk i).t 0 (E.tk i).n z0 []) .nil) (i+1):=by
 intro w g v;have o:=Sw.start g;clear g;go_in;go_wp21
 refine cJ (jd o a) fun z q=>?_;go_wp21
 refine cJ (er q a (by omega)) fun w1 p=>?_;obtain⟨r,h,c⟩:=lB p a;simp only[mj]at h;go_wp21
 clear h;have d:=sB c (dJ (ah _ r));have j:=nF c a;have m:=nF d a;go_region_held3 (fun b=>b.cell? ⟨w1.heap.size,0,Q⟩=O (Y X 2)/\b.cell? ⟨w1.heap.size,1,Q⟩=O (Y X (E.tk i).f)/\b.cell? ⟨w1.heap.size,2,Q⟩=O (Y X (E.tk i).t)/\b.cell? ⟨w1.heap.size,3,Q⟩=O (Y X (E.tk i).l)/\b.cell? ⟨w1.heap.size,4,Q⟩=O (Y X (E.tk i).n)/\b.cell? ⟨w1.heap.size,5,Q⟩=O (.string (E.tk i).x)) (first|exact j|exact m|exact nF e a|go_keep) (first|(go_at_call 179;refine(gB d a (by omega) (by omega) 23 _ _ _).mono ?_;rintro s y ⟨rfl,e⟩))
 go_wp21
 go_ret;exact⟨_,rfl,rG e (nd 23 (E.tk i) (E.tk i).t 0 (E.tk i).n z0 []) rfl rfl rfl rfl⟩
theorem adm{q op:Int}(p:q≠6)(a:(E.tk i).k=q)(w:i<E.n)(s:CN E 209 #[pV E] (i+1) x j)(y:i+1<=j:=by omega)(z:j<=E.n:=by omega):CN E 229 #[pV E,Y X op] i (one (nd 30 (E.tk i) (E.tk (j-1)).t op 0 z0 []) x) (j):=by
 intro A d r;have h:=Sw.start d;clear d;simp only[de,Fo.sz_app]at r;go_in;go_wp21
 refine cJ (er h a (by omega) p) fun w1 l=>?_;obtain⟨B,e,m⟩:=lB l a;simp only[mj]at e;go_wp21
 refine(jn m s).mono ?_;rintro u C ⟨g,f,rfl,b⟩;clear e;obtain⟨H,I,J,K,L,ad⟩:=nF b a;obtain⟨F,v,c⟩:=qu b [U g f] #[U g f] rfl 1 rfl (by decide);obtain⟨af,ag,ak,al,am,an⟩:=nF c a;go_wp21
 refine cJ (gB c a (by omega) (by omega) 30 _ _ _) fun G o=>?_;go_wp21
 go_ret;exact⟨_,rfl,rG o (nd 30 (E.tk i) (E.tk (j-1)).t op 0 z0 []) rfl rfl rfl rfl⟩
abbrev CXi(a:Pe)(p:Int)(i:Nat)(x:Fo)(j:Nat):Prop:=CN a 182 #[pV a,Y X p] i x j
theorem qw(e:CXi E 0 i R j):CN E 142 #[pV E] i (R) (j):=by
 intro h a d;have b:=Sw.start a;clear a;go_in;go_wp2_with fail;refine(jn b e d).mono ?_;rintro f k ⟨g,p2,rfl,c⟩;go_wp2_with fail;go_ret;exact⟨_,rfl,c⟩
theorem sT{c:V}{a:List V}{D:Fo}{b:Nat×B3×Array V}(S:Hid (Sw E W w i c a D vs (b::T) M)):Hid (Sw E W w i c a D vs T M):=S.drop (fun e d=>cL _ d) (.inl rfl)
theorem aqB{k q:Int}{t:Tk}{g h:B3}{d f:V}(ad:Hid (Sw E W w j s0 [] R [U g d,U h f] T M))(a:t.k=k)(af:1<=j)(ag:j<=E.n)(ak:10<=q)(al:q<=78):C4 B7 211 #[pV E,Y X q,Ck (mj k t),U g d,U h f] w fun e w'=>∃u s,e= .returned (U u s)/\Hid (Sw E W w' j s0 [] (one (He q t (E.tk (j-1)).t) R) [U u s] T M):=by
 unfold He;obtain⟨am,m,i⟩:=lB ad a;simp only[mj]at m⊢;by_cases o:q=10
 ·subst o;rw[ab rfl];go_in;obtain⟨y,z,A,B,C,F⟩:=nF i a;obtain⟨v,r,c⟩:=qu i [U g d,U h f] #[U g d,U h f] rfl 2 rfl (by decide);obtain⟨G,H,I,J,K,L⟩:=nF c a;go_wp21
  refine cJ (gB c a (by omega) (by omega) 28 _ _ _) fun x l=>?_;clear m;go_wp21
  go_ret;refine⟨_,_,rfl,sT (b:=tkB w.heap.size t) ?_⟩;exact Bp l (lg 28 t (E.tk (j-1)).t) rfl rfl rfl rfl
 by_cases p:q=26
 ·subst p;rw[aa (by decide),ab rfl];go_in;obtain⟨y,z,A,B,C,F⟩:=nF i a;obtain⟨v,r,c⟩:=qu i [U g d,U h f] #[U g d,U h f] rfl 2 rfl (by decide);obtain⟨G,H,I,J,K,L⟩:=nF c a;go_wp21
  refine cJ (gB c a (by omega) (by omega) 29 _ _ _) fun x l=>?_;clear m;go_wp21
  go_ret;refine⟨_,_,rfl,sT (b:=tkB w.heap.size t) ?_⟩;exact Bp l (lg 29 t (E.tk (j-1)).t) rfl rfl rfl rfl
 ·rw[aa o,aa p];go_in;obtain⟨y,z,A,B,C,F⟩:=nF i a;obtain⟨v,r,c⟩:=qu i [U g d,U h f] #[U g d,U h f] rfl 2 rfl (by decide);obtain⟨G,H,I,J,K,L⟩:=nF c a;go_wp21
  refine cJ (gB c a (by omega) (by omega) 31 _ _ _) fun x l=>?_;clear m;go_wp21
  go_ret;refine⟨_,_,rfl,sT (b:=tkB w.heap.size t) ?_⟩;exact Bp l (nd 31 t (E.tk (j-1)).t (q-60) 0 z0 []) rfl rfl rfl rfl
theorem aqC{D:Fo}{k:Int}(S:Hid (Sw E W w i s0 [] D vs T M))(m:jr k=C2)(l:k<=78):C4 B7 210 #[Y X k] w fun e w'=>e= .returned (.tuple #[Ck #[Y X k,Y X (lpw k),Y X (rpw k)],Cr C2])/\Hid (Sw E W w' i s0 [] D vs T M):=by
 obtain⟨c,b,rfl⟩:=anp m l;obtain⟨n,j,a⟩:=S.pp.pw;obtain⟨f,g,_,h⟩:=acD c b;refine(aaK w n j a c b _ rfl h).mono ?_;rintro e w' ⟨a,d⟩;rw[f,g]at a;exact⟨a,sB S d⟩
theorem aqD{D:Fo}{k:Int}(S:Hid (Sw E W w i s0 [] D vs T M))(f:jr k=Br):C4 B7 210 #[Y X k] w fun e w'=>e= .returned (.tuple #[Ck #[Y X 0,Y X 0,Y X 0],Cr Br])/\Hid (Sw E W w' i s0 [] D vs T M):=by
 obtain⟨g,c,a⟩:=S.pp.pw;refine(aaL w g c a k (fun i d e=>?_)).mono ?_
 ·have:=(acD i d).2.2.1;rw[e,f]at this;cases this
 rintro e w' ⟨a,b⟩;exact⟨a,sB S b⟩
theorem amw{D:Fo}(S:Hid (Sw E W w i s0 [] D vs T M))(a b c:V):∃w',w.alloc (A5 #[a,b,c] 196)=w'/\Hid (Sw E W w' i s0 [] D vs ((w.heap.size,196,#[a,b,c])::T) M):=⟨_,rfl,S.boxg _ _ (by decide) (by decide)⟩
theorem sC3{D:Fo}{d:Nat}{a b c:V}(S:Hid (Sw E W w i s0 [] D vs ((d,196,#[a,b,c])::T) M)):w.cell? ⟨d,0,Q⟩=O a/\w.cell? ⟨d,1,Q⟩=O b/\w.cell? ⟨d,2,Q⟩=O c:=by
 have e:=(S.tb _ (bB ..)).2.2;exact⟨by rw[au _ _ _ _ _ _ e];rfl,by rw[au _ _ _ _ _ _ e];rfl,by rw[au _ _ _ _ _ _ e];rfl⟩
theorem aoG{p:Int}(a2:(E.tk i).k≠6)(bn:i<E.n)(K:∀q,(E.tk q).k<=78)(a6:CN E 209 #[pV E] i x k)(v:Ms E (CXi E) p (E.tk i) m x k R j):CXi E p i R j:=by
 intro bh s bo;have F:=Sw.start s;have C:=aw v;have br:=v.le;clear s v;go_in;go_wp21
 refine cJ (ud F rfl (by omega) a2) fun w1 G=>?_;obtain⟨bA,L,b⟩:=lB G (t:=E.tk i) rfl;simp only[mj]at L;go_wp21
 refine(jn b a6).mono ?_;rintro h bD ⟨bd,a9,rfl,H⟩;clear L;have A:=aw H;go_wp21
 clear F G b H;go_loopg [6] m (fun gk bf wr=>∃(k:Nat) (o:Fo) (t:B3) (ag:V),bf= U t ag/\Hid (Ms E (CXi E) p (E.tk i) gk o k R j/\Sw E bh wr k s0 [] o [U t ag] [tkB w1.heap.size (E.tk i)] []))
 case atStart=>exact⟨k,x,bd,a9,rfl,C,A⟩
 case round=>
  clear A C;obtain⟨c,o,bx,bt,rfl,B⟩:=hrel;obtain⟨a1,J⟩:=B.out;have b:=aw J;clear J B;cases a1 with
  |stop g ar=>
   cases a:jr (E.tk j).k with
   |false=>
    go_wp21
    refine cJ (jd b rfl g) fun ak d=>?_;go_wp21
    refine cJ (aqD d a) fun al e=>?_;go_wp21
    go_ret;exact⟨_,rfl,(e.boxg _ _ (by decide) (by decide)).drop (fun p u=>by cases u) (.inr rfl)⟩
   |true=>
    go_wp21
    refine cJ (jd b rfl g) fun ak d=>?_;go_wp21
    refine cJ (aqC d a (K _)) fun al e=>?_;obtain⟨bj,ad,f⟩:=amw e (Y X (E.tk j).k) (Y X (lpw (E.tk j).k)) (Y X (rpw (E.tk j).k));obtain⟨w,y,z⟩:=sC3 f;go_wp21
    go_ret;exact⟨_,rfl,f.drop (fun p u=>by cases u) (.inr rfl)⟩
  |@go a8 _ a7 _ _ b8 bk g a ar av bl a0 r=>
   have a5:=r.le;rw[de,Fo.sz_app]at a5;have a3:(E.tk c).k≠6:=fun h=>by rw[h]at a;revert a;decide
   have af:=K c;have a4:10<=(E.tk c).k:=by have s:=aG a;omega
   have an:=aw r;clear r;go_wp21
   refine cJ (jd b rfl g) fun ak d=>?_;go_wp21
   refine cJ (aqC d a af) fun al e=>?_;obtain⟨bj,ad,f⟩:=amw e (Y X (E.tk c).k) (Y X (lpw (E.tk c).k)) (Y X (rpw (E.tk c).k));obtain⟨w,y,z⟩:=sC3 f;go_wp21
   clear ad;refine cJ (er f rfl g a3) fun bE I=>?_;obtain⟨w,y,z⟩:=sC3 I;go_wp21
   refine(jn I av).mono ?_;rintro h b0 ⟨bw,bs,rfl,l⟩;obtain⟨w,y,z⟩:=sC3 l;obtain⟨b2,b3,b4,b5,b6,b7⟩:=nF (sT l) rfl;go_wp21
   have ao:=aw l;refine(aqB ao (t:=E.tk i) rfl (by omega) a0 a4 af).mono ?_;rintro h b1 ⟨be,bb,rfl,ap⟩;have am:=sT ap;go_wp21
   go_roundg a8
   case measure=>omega
   case rel=>exact⟨a7,_,be,bb,rfl,an,am⟩
end
section
variable {E : Pe} {i j k k1 : Nat} {x y R Ex : Fo}
def unF(a:Pe)(k:Int):FuncId×Array V:=
 if k=25 then(229,#[pV a,Y X 21])
 else if k=62 then(229,#[pV a,Y X 19])
 else if k=50 then(229,#[pV a,Y X 22])
 else if k=69 then(229,#[pV a,Y X 20])
 else if k=3 then(184,#[pV a,Y X 24])
 else if k=4 then(184,#[pV a,Y X 25])
 else if k=24 then(138,#[pV a,Y X 20])
 else if k=29 then(138,#[pV a,Y X 21])
 else if k=17 then(138,#[pV a,Y X 22])
 else if k=49 then(138,#[pV a,Y X 27])
 else if k=42 then(230,#[pV a])
 else if k=1 then(143,#[pV a])
 else(143,#[pV a])
theorem sG{q:Int}(g:(E.tk i).k=q)(l:i<E.n)(a:q=25\/q=62\/q=50\/q=69\/q=3\/q=4\/q=24\/q=29\/q=17\/q=49\/q=42\/q=1\/q=40)(b:CN E (unF E q).1 (unF E q).2 i R j):CN E 209 #[pV E] i R j:=by
 rcases a with rfl|rfl|rfl|rfl|rfl|rfl|rfl|rfl|rfl|rfl|rfl|rfl|rfl;all_goals
  simp only[unF]at b;simp at b;intro o c a;have d:=Sw.start c;clear c;go_in;go_wp2_with fail;refine cJ (jd d g) fun w1 e=>?_;go_wp2_with fail;refine(jn e b a).mono ?_;rintro h p ⟨m,p2,rfl,f⟩;go_wp2_with fail;go_ret;exact⟨_,rfl,f⟩
theorem arL(b:(E.tk i).k=18)(m:i<E.n)(h:CN E 180 #[pV E,Ck (mj 18 (E.tk i))] (i+1) R j):CN E 209 #[pV E] i (R) (j):=by
 intro q a g;have c:=Sw.start a;clear a;go_in;go_wp21
 refine cJ (jd c b) fun w1 d=>?_;go_wp21
 refine cJ (er d b (by omega)) fun r e=>?_;go_wp21
 refine(jn e h g).mono ?_;rintro l s ⟨p,o,rfl,f⟩;go_wp21
 go_ret;exact⟨_,rfl,f⟩
theorem ar0(x:(E.tk i).k=42)(bj:i<E.n)(a1:Es E (CN E 247 #[pV E]) m (i+1) Ex j)(a6:(E.tk j).k=43)(bk:j+1<E.n):CN E 230 #[pV E] i (one (lg 35 (E.tk i) (E.tk j).t) Ex) (j+1):=by
 intro be av a7;have ap:=Sw.start av;have ao:=aw a1;simp only[de]at a7;clear av a1;go_in;go_wp21
 refine cJ (er ap x (by omega)) fun w1 ar=>?_;obtain⟨bn,a0,d⟩:=lB ar x;simp only[mj]at a0;have am:=aw d;go_wp21
 clear a0 ap ar d;go_loopg [4] m (fun gk bd wr=>∃(k:Nat) (D z:Fo) (C:Option Addr) (n G:Nat) (us:List V),bd= A9 C n G/\Hid (Es E (CN E 247 #[pV E]) gk k z j/\Sw E be wr k (A9 C n G) us D us [tkB w1.heap.size (E.tk i)] []/\D.app z=Ex))
 case atStart=>exact⟨i+1,.nil,Ex,Q,0,0,[],rfl,ao,am,rfl⟩
 case round=>
  clear am ao;obtain⟨bl,D,z,C,n,G,us,rfl,an⟩:=hrel;obtain⟨a3,L,c⟩:=an.out;have d:=aw L;have a8:=Bk.len _ _ L.nn;clear L an;cases a3 with
  |stop w o=>
   rw[Fo.app_nil]at c;go_wp21
   refine cJ (vy d a6 o) fun a2 f=>?_;obtain⟨bo,br,g,bs,bt,bw⟩:=nF f x;clear a8;go_wp21
   refine cJ (gB f x (by omega) (by omega) 35 _ _ _) fun a b=>?_;subst c;go_wp21
   go_ret;exact⟨_,rfl,rG b (lg 35 (E.tk i) (E.tk j).t) rfl rfl rfl rfl⟩
  |@com ak _ ag _ g l w o I J K p=>
   have a9:D.sz+(g.sz+l.sz)<=50000000:=by have e:=congrArg Fo.sz c;simp only[Fo.sz_app]at e;omega
   have a4:=D.len_le;have h:=dC c p;clear c p;go_wp21
   refine cJ (wG d w o) fun a2 f=>?_;go_wp21
   refine(jn f I).mono ?_;rintro e a ⟨v,u,rfl,b⟩;go_wp2_with (at_builtin;refine ig rfl _ _ rfl rfl (sB b (bG a _)).out.ro rfl (lC (base:=a.heap.size) (e:=72) (size:=1) a #[U v u] 1 (ae _) (by unfold Ce;omega) rfl) (us:=[U v u]) (by intro bb af;rw[List.mem_singleton.1 af];rfl) (by simp only[bi,dH];omega) (by rw[dr];have:=b.gr.size;omega) ?_;intro F al H bf s ad r q;have A:=(sB b (bG a _)).out.put s r q;clear s ad r q);refine cJ (vy A J K) fun bh B=>?_;have y:=aw B;go_wp21
   go_roundg ak
   case measure=>omega
   case rel=>exact⟨(ag+1),D.app g,l,F,al,H,_,rfl,h.2,y,by rw[Fo.app_app];exact h.1⟩
  |@last ak _ ag _ g l w o I J K p=>
   have a9:D.sz+(g.sz+l.sz)<=50000000:=by have e:=congrArg Fo.sz c;simp only[Fo.sz_app]at e;omega
   have a4:=D.len_le;have h:=dC c p;clear c p;go_wp21
   refine cJ (wG d w o) fun a2 f=>?_;go_wp21
   refine(jn f I).mono ?_;rintro e a ⟨v,u,rfl,b⟩;go_wp2_with (at_builtin;refine ig rfl _ _ rfl rfl (sB b (bG a _)).out.ro rfl (lC (base:=a.heap.size) (e:=72) (size:=1) a #[U v u] 1 (ae _) (by unfold Ce;omega) rfl) (us:=[U v u]) (by intro bb af;rw[List.mem_singleton.1 af];rfl) (by simp only[bi,dH];omega) (by rw[dr];have:=b.gr.size;omega) ?_;intro F al H bf s ad r q;have A:=(sB b (bG a _)).out.put s r q;clear s ad r q);refine cJ (wG A J K) fun bh B=>?_;have y:=aw B;go_wp21
   go_roundg ak
   case measure=>omega
   case rel=>exact⟨ag,D.app g,l,F,al,H,_,rfl,h.2,y,by rw[Fo.app_app];exact h.1⟩
theorem aqE(r:(E.tk i).k≠48)(q:(E.tk i).k≠44)(f:(E.tk i).k≠6)(A:i<E.n)(u:CN E 142 #[pV E] i x j)(B:i+1<=j)(C:j<=E.n):CN E 247 #[pV E] i (one (lg 40 (E.tk i) (E.tk (j-1)).t) x) (j):=by
 intro ad e s;have m:=Sw.start e;clear e;simp only[de,Fo.sz_app]at s;have w:((E.tk i).k==48)=Br:=by simp[r]
 have v:((E.tk i).k==44)=Br:=by simp[q]
 obtain⟨F,a⟩:=aA ((E.tk i).k);rw[a]at w v f;go_in;go_wp21
 refine cJ (ud m a (by omega) f) fun w1 o=>?_;obtain⟨af,g,b⟩:=lB o a;simp only[mj]at g;obtain⟨G,H,I,J,K,L⟩:=nF b a;go_wp21
 refine(jn b u).mono ?_;rintro y ag ⟨l,h,rfl,c⟩;clear g;obtain⟨am,an,ao,ap,ar,av⟩:=nF c a;obtain⟨ak,z,d⟩:=qu c [U l h] #[U l h] rfl 1 rfl (by decide);obtain⟨a0,a1,a2,a3,a4,a5⟩:=nF d a;go_wp21
 refine cJ (gB d a (by omega) (by omega) 40 _ _ _) fun al p=>?_;go_wp21
 go_ret;exact⟨_,rfl,rG p (lg 40 (E.tk i) (E.tk (j-1)).t) rfl rfl rfl rfl⟩
theorem aqF(a:(E.tk i).k=44)(H:i<E.n)(C:CN E 142 #[pV E] (i+1) x k)(z:(E.tk k).k=45)(A:(E.tk (k+1)).k=47)(K:k+1<E.n)(F:CN E 142 #[pV E] (k+2) y j)(I:i+1<=j)(J:j<=E.n):CN E 247 #[pV E] i (one (lg 41 (E.tk i) (E.tk (j-1)).t) (x.app y)) (j):=by
 intro am e B;have o:=Sw.start e;clear e;simp only[de,Fo.sz_app]at B;go_in;go_wp21
 refine cJ (ud o a (by omega) (by decide)) fun w1 p=>?_;obtain⟨an,f,b⟩:=lB p a;simp only[mj]at f;obtain⟨L,ad,af,ag,ak,al⟩:=nF b a;go_wp21
 refine cJ (er b a (by omega)) fun ao q=>?_;clear f;go_wp21
 refine(jn q C).mono ?_;rintro w ap ⟨l,g,rfl,r⟩;go_wp21
 refine cJ (er r z (by omega)) fun ar s=>?_;go_wp21
 refine cJ (er s A (by omega)) fun av u=>?_;go_wp21
 refine(jn u F).mono ?_;rintro w a0 ⟨m,h,rfl,c⟩;obtain⟨a3,a4,a5,a6,a7,a8⟩:=nF c a;obtain⟨a1,G,d⟩:=qu c [U l g,U m h] #[U l g,U m h] rfl 2 rfl (by decide);obtain⟨a9,bb,bd,be,bf,bh⟩:=nF d a;go_wp21
 refine cJ (gB d a (by omega) (by omega) 41 _ _ _) fun a2 v=>?_;go_wp21
 go_ret;exact⟨_,rfl,rG v (lg 41 (E.tk i) (E.tk (j-1)).t) rfl rfl rfl rfl⟩
theorem aoH(a:(E.tk i).k=48)(s:(E.tk (i+1)).k=1)(u:(E.tk (i+2)).k=47)(C:i+2<E.n)(w:CN E 142 #[pV E] (i+3) x j)(F:i+3<=j)(G:j<=E.n):CN E 247 #[pV E] i (one (nd 42 (E.tk i) (E.tk (j-1)).t 0 0 (E.tk (i+1)).x []) x) (j):=by
 intro af e v;have l:=Sw.start e;clear e;simp only[de,Fo.sz_app]at v;have A:=alb;go_in;go_wp21
 refine cJ (ud l a (by omega) (by decide)) fun w1 m=>?_;obtain⟨ag,f,b⟩:=lB m a;simp only[mj]at f;obtain⟨H,I,J,K,L,ad⟩:=nF b a;go_wp21
 refine cJ (er b a (by omega)) fun ak o=>?_;clear f;go_wp21
 refine cJ (er o s (by omega)) fun al p=>?_;simp only[mj];go_wp21
 refine cJ (er p u (by omega)) fun am q=>?_;go_wp21
 refine(jn q w).mono ?_;rintro z an ⟨h,g,rfl,c⟩;obtain⟨ap,ar,av,a0,a1,a2⟩:=nF c a;obtain⟨ao,B,d⟩:=qu c [U h g] #[U h g] rfl 1 rfl (by decide);obtain⟨a3,a4,a5,a6,a7,a8⟩:=nF d a;go_wp21
 refine cJ (gB d a (by omega) (by omega) 42 _ _ _) fun y r=>?_;go_wp21
 go_ret;exact⟨_,rfl,yd (nk:=42) (by decide) y.heap.size ▸ rG r (nd 42 (E.tk i) (E.tk (j-1)).t 0 0 (E.tk (i+1)).x []) (Er (by decide) _ _ _) rfl (by show _=(_++exT _ _ (ez 42)).toArray;rw[show ez 42=3 by decide];rfl) (by show _=wu (ez 42);rw[show ez 42=3 by decide];rfl)⟩
end
section
variable {E : Pe} {i j k k1 : Nat} {x y R Ex : Fo}
theorem Bk.top{e:Option Nat}{ks:Fo}{t:B3}{p:V}(h:Bk w lo e (one N ks) [U t p]):∃b,t=pv (ez N.k)/\p= B1 (O ⟨b,0,Q⟩)/\w.cell? ⟨b,0,Q⟩=O (Y X N.k):=by
 obtain⟨i,b,l,n,m,j,o,f,g,d,⟨_,_,c,_⟩,_⟩:=h;have a:=(th d.1).1;unfold fl at a;cases a;exact⟨b,rfl,rfl,by unfold gy at c;rw[au _ _ _ _ _ _ c];rfl⟩
theorem aqG{ks:Fo}(b:(E.tk i).k=40)(av:i<E.n)(v:CN E 142 #[pV E] (i+1) (one N ks) k)(u:(E.tk k).k=41)(a0:i+1<=k)(a1:k+1<E.n):CN E 183 #[pV E] i (qi N ks (E.tk i) (E.tk k).t) (k+1):=by
 intro c x a2;have q:=Sw.start x;clear x;have a3:(one N ks).sz<=(qi N ks (E.tk i) (E.tk k).t).sz:=by unfold qi;split<;>simp only[de]<;>omega
 rcases(by omega:N.k=34\/N.k=27\/(N.k≠34/\N.k≠27)) with hN|hN|hN
 ·go_in;go_wp21
  refine cJ (er q b (by omega)) fun w1 h=>?_;obtain⟨B,e,j⟩:=lB h b;simp only[mj]at e;go_wp21
  refine(jn j v).mono ?_;rintro w C ⟨A,z,rfl,l⟩;clear e;go_wp21
  refine cJ (er l u (by omega)) fun F d=>?_;obtain⟨a,rfl,rfl,f⟩:=Bk.top (N:=N) (ks:=ks) d.nn;have y:=fun c=>FI (ez N.k) a c;have p:=fun c=>fx a c;have s:=f;rw[hN]at s;generalize o:pv (ez N.k)=g at *;clear o f;obtain⟨K,L,ad,af,ag,ak⟩:=nF d b;obtain⟨I,G,m⟩:=qu d [U g (B1 (O ⟨a,0,Q⟩))] #[U g (B1 (O ⟨a,0,Q⟩))] rfl 1 rfl (by decide);obtain⟨al,am,an,ao,ap,ar⟩:=nF m b;go_wp2_with (go_at_call 285;refine eH (p _) ?_);refine cJ (gB m b (by omega) (by omega) 37 _ _ _) fun J r=>?_;go_wp21
  go_ret;refine⟨_,rfl,?_⟩;unfold qi;rw[ab (by omega)];exact rG r (lg 37 (E.tk i) (E.tk k).t) rfl rfl rfl rfl
 ·go_in;go_wp21
  refine cJ (er q b (by omega)) fun w1 h=>?_;obtain⟨B,e,j⟩:=lB h b;simp only[mj]at e;go_wp21
  refine(jn j v).mono ?_;rintro w C ⟨A,z,rfl,l⟩;clear e;go_wp21
  refine cJ (er l u (by omega)) fun F d=>?_;obtain⟨a,rfl,rfl,f⟩:=Bk.top (N:=N) (ks:=ks) d.nn;have y:=fun c=>FI (ez N.k) a c;have p:=fun c=>fx a c;have s:=f;rw[hN]at s;generalize o:pv (ez N.k)=g at *;clear o f;obtain⟨K,L,ad,af,ag,ak⟩:=nF d b;obtain⟨I,G,m⟩:=qu d [U g (B1 (O ⟨a,0,Q⟩))] #[U g (B1 (O ⟨a,0,Q⟩))] rfl 1 rfl (by decide);obtain⟨al,am,an,ao,ap,ar⟩:=nF m b;go_wp2_with (go_at_call 285;refine eH (p _) ?_);refine cJ (gB m b (by omega) (by omega) 37 _ _ _) fun J r=>?_;go_wp21
  go_ret;refine⟨_,rfl,?_⟩;unfold qi;rw[ab (by omega)];exact rG r (lg 37 (E.tk i) (E.tk k).t) rfl rfl rfl rfl
 ·go_in;go_wp21
  refine cJ (er q b (by omega)) fun w1 h=>?_;obtain⟨B,e,j⟩:=lB h b;simp only[mj]at e;go_wp21
  refine(jn j v).mono ?_;rintro w C ⟨A,z,rfl,l⟩;clear e;go_wp21
  refine cJ (er l u (by omega)) fun F d=>?_;obtain⟨a,rfl,rfl,f⟩:=Bk.top (N:=N) (ks:=ks) d.nn;have y:=fun c=>FI (ez N.k) a c;have p:=fun c=>fx a c;generalize o:pv (ez N.k)=g at *;clear o;go_wp2_with (first|(go_at_call 285;refine eH (p _) ?_));go_ret;refine⟨_,rfl,?_⟩;unfold qi;rw[aa (by omega)];exact d.drop (fun a4 H=>by cases H) (.inr rfl)
theorem aqH(f:(E.tk i).k=40)(e:(E.tk (i+1)).k=41)(g:i+1<E.n):CR E 185 #[pV E] i (.nil) (i+2):=by
 intro j a h;have b:=Sw.start a;clear a;go_in;go_wp2_with fail;refine cJ (er b f (by omega)) fun w1 c=>?_;go_wp2_with fail;refine cJ (vy c e) fun l d=>?_;go_wp2_with fail;go_ret;exact⟨_,[],rfl,d⟩
theorem ar1(j:(E.tk i).k=40)(r:i+1<E.n)(l:(E.tk (i+1)).k≠41)(h:CR E 178 #[pV E,.func (.func 142) #[pV E] #[]] (i+1) Ex k)(g:(E.tk k).k=41)(s:k<E.n):CR E 185 #[pV E] i (Ex) (k+1):=by
 intro w a t;have b:=Sw.start a;clear a;go_in;go_wp21
 refine cJ (er b j (by omega)) fun w1 c=>?_;go_wp21
 refine cJ (wG c l) fun x d=>?_;go_wp21
 refine(zA d h).mono ?_;rintro q y ⟨o,v,p,m,rfl,e,u⟩;go_wp21
 refine cJ (er e g (by omega)) fun z f=>?_;go_wp21
 go_ret;exact⟨_,m,rfl,f⟩
theorem amx{q:Int}(a:(E.tk i).k=q)(ct:i<E.n)(bE:(q=1/\CN E 184 #[pV E,Y X 26] i x k)\/(q=40/\CN E 183 #[pV E] i x k))(a9:Ps E (fun i x j=>CN E 142 #[pV E] i x j) (fun i x j=>CR E 178 #[pV E,.func (.func 142) #[pV E] #[]] i x j) (E.tk i) m x k R j):CN E 143 #[pV E] i R j:=by
 intro ca bt cu;have a3:=Sw.start bt;have bl:=a9;have cv:=a9.le;rcases bE with⟨rfl,al⟩|⟨rfl,al⟩
 case' inl=>
  go_in;go_wp2_with fail;refine cJ (ud a3 a (by omega) (by decide)) fun w1 L=>?_;obtain⟨cb,af,e⟩:=lB L a;simp only[mj]at af;obtain⟨b2,b3,b4,b5,b6,b7⟩:=nF e a;go_wp2_with fail;refine(jn e al).mono ?_;rintro J H ⟨bh,bd,rfl,f⟩;have a2:=aw f;go_wp2_with fail
 case' inr=>
  go_in;go_wp2_with fail;refine cJ (ud a3 a (by omega) (by decide)) fun w1 L=>?_;obtain⟨cb,af,e⟩:=lB L a;simp only[mj]at af;obtain⟨b2,b3,b4,b5,b6,b7⟩:=nF e a;go_wp2_with fail;refine(jn e al).mono ?_;rintro J H ⟨bh,bd,rfl,f⟩;have a2:=aw f;go_wp2_with fail
 all_goals
  go_loopg [4] m (fun gk b9 wr=>∃(k:Nat) (I:Fo) (bf:B3) (bb:V),b9= U bf bb/\Hid (Ps E (fun i x j=>CN E 142 #[pV E] i x j) (fun i x j=>CR E 178 #[pV E,.func (.func 142) #[pV E] #[]] i x j) (E.tk i) gk I k R j/\Sw E ca wr k s0 [] I [U bf bb] [tkB w1.heap.size (E.tk i)] []))
  case atStart=>exact⟨k,x,bh,bd,rfl,bl,a2⟩
  case round=>
   obtain⟨F,I,o,l,rfl,bk⟩:=hrel;obtain⟨bw,bx⟩:=bk.out;have e:=aw bx;cases bw with
   |stop b g=>
    have cq:((E.tk j).k==48)=Br:=by have:=jg g;simp;omega
    have cp:((E.tk j).k==44)=Br:=by have:=jg g;simp;omega
    have cn:((E.tk j).k==40)=Br:=by have:=jg g;simp;omega
    go_wp2_with fail;refine cJ (jd e rfl b) fun K h=>?_;go_wp2_with fail;go_ret;exact⟨_,rfl,h.drop (fun cw bD=>by cases bD) (.inr rfl)⟩
   |@dot u _ _ _ _ b g z c=>
    have cr:=alb;have p:=c;have t:=c.le;simp only[de,Fo.sz_app]at t;go_wp2_with fail;refine cJ (jd e b) fun H f=>?_;go_wp2_with fail;refine cJ (er f b (by omega)) fun K h=>?_;go_wp2_with fail;refine cJ (er h g (by omega)) fun am d=>?_;simp only[mj];obtain⟨ao,ap,ar,av,a0,a1⟩:=nF d a;obtain⟨cc,bA,v⟩:=qu d [U o l] #[U o l] rfl 1 rfl (by decide);obtain⟨cf,cg,ch,ck,cl,cm⟩:=nF v a;go_wp2_with fail;refine cJ (gB v a (by omega) (by omega) 33 _ _ _) fun an s=>?_;go_wp2_with fail;go_roundg u
    case measure=>omega
    case rel=>
     refine⟨F+2,_,_,_,rfl,p,?_⟩;rw[<-yd (nk:=33) (by decide)];exact(Bp s (nd 33 (E.tk i) (E.tk (F+1)).t 0 0 (E.tk (F+1)).x []) (Er (by decide) _ _ _) rfl (by show _=(_++exT _ _ (ez 33)).toArray;rw[show ez 33=3 by decide];rfl) (by show _=wu (ez 33);rw[show ez 33=3 by decide];rfl)).out
   |@sq u _ C _ _ a6 _ b g z ad a8 c=>
    have p:=c;have t:=c.le;simp only[de,Fo.sz_app]at t;go_wp2_with fail;refine cJ (jd e b) fun H f=>?_;go_wp2_with fail;refine cJ (er f b (by omega)) fun K h=>?_;go_wp2_with fail;refine(jn h z).mono ?_;rintro J am ⟨bj,be,rfl,d⟩;go_wp2_with fail;refine cJ (er d ad (by omega)) fun cx a4=>?_;obtain⟨ao,ap,ar,av,a0,a1⟩:=nF a4 a;obtain⟨cc,bA,v⟩:=qu a4 [U o l,U bj be] #[U o l,U bj be] rfl 2 rfl (by decide);obtain⟨cf,cg,ch,ck,cl,cm⟩:=nF v a;go_wp2_with fail;refine cJ (gB v a (by omega) (by omega) 32 _ _ _) fun an s=>?_;go_wp2_with fail;go_roundg u
    case measure=>omega
    case rel=>exact⟨C+1,_,_,_,rfl,p,(Bp s (lg 32 (E.tk i) (E.tk C).t) rfl rfl rfl rfl).out⟩
   |@call0 u _ _ _ _ b g z c=>
    have p:=c;have t:=c.le;simp only[de,Fo.sz_app]at t;clear c;go_wp2_with fail;refine cJ (jd e b) fun H f=>?_;obtain⟨K,ag,h⟩:=qu f [U o l] #[U o l] rfl 1 rfl (by decide);go_wp2_with fail;clear ag;refine(ahJ h (aqH b g (by omega)) (by decide)).mono ?_;rintro J am ⟨bn,b0,br,b8,rfl,d,r⟩;go_wp2_with (at_builtin;refine ig rfl _ _ rfl rfl d.ro rfl r.1 r.2.1 (by have:=r.2.2;have:Fo.nil.len=0:=rfl;have:=(.nil:Fo).len_le;show 1+_<=_;omega) (by have:=d.gr.size;omega) ?_;intro bo b1 bs ce G ak B A;have y:=d.put G B A;clear G ak B A;have w:=y;clear y;obtain⟨ao,ap,ar,av,a0,a1⟩:=nF w a);refine cJ (gB w a (by omega) (by omega) 34 _ _ _) fun an s=>?_;go_wp2_with fail;go_roundg u
    case measure=>omega
    case rel=>exact⟨(F+2),_,_,_,rfl,p,(Bp (Fo.app_nil I ▸ s) (lg 34 (E.tk i) (E.tk (F+1)).t) rfl rfl rfl rfl).out⟩
   |@call u _ C _ _ a6 _ b g z ad a8 cs c=>
    have p:=c;have t:=c.le;simp only[de,Fo.sz_app]at t;clear c;go_wp2_with fail;refine cJ (jd e b) fun H f=>?_;obtain⟨K,ag,h⟩:=qu f [U o l] #[U o l] rfl 1 rfl (by decide);go_wp2_with fail;clear ag;refine(ahJ h (ar1 b g z ad a8 (by omega)) (by omega)).mono ?_;rintro J am ⟨bn,b0,br,b8,rfl,d,r⟩;go_wp2_with (at_builtin;refine ig rfl _ _ rfl rfl d.ro rfl r.1 r.2.1 (by have:=r.2.2;have:Fo.nil.len=0:=rfl;have:=(a6:Fo).len_le;show 1+_<=_;omega) (by have:=d.gr.size;omega) ?_;intro bo b1 bs ce G ak B A;have y:=d.put G B A;clear G ak B A;have w:=y;clear y;obtain⟨ao,ap,ar,av,a0,a1⟩:=nF w a);refine cJ (gB w a (by omega) (by omega) 34 _ _ _) fun an s=>?_;go_wp2_with fail;go_roundg u
    case measure=>omega
    case rel=>exact⟨(C+1),_,_,_,rfl,p,(Bp s (lg 34 (E.tk i) (E.tk C).t) rfl rfl rfl rfl).out⟩
end
section
variable {E : Pe} {i j k k1 : Nat} {x y R Ex : Fo}
abbrev AJ(vn:V)(r:Bool):Array V:=#[Y X 0,Y X 0,Y X 0,Y X 0,Y X 0,A9 Q 0 0,vn,Cr r]
theorem Sw.setL{q:Nat}{cs:Array V}{u:V}(h:Sw E W w i s0 [] .nil [] ((b,176,cs)::T) M)(v:∀p∈T,p.2.1≠176):Sw E W (w.setCell ⟨b,q,Q⟩ u) i s0 [] .nil [] ((b,176,cs.setIfInBounds q u)::T) M:=by
 obtain⟨g,l,k⟩:=h.tb _ (bB ..);have a:∀{e:Nat}{cs:Array V}{f:B3}{c:Nat×Nat},w.heap[e]?=O (A5 cs f c)->f≠176->(w.setCell ⟨b,q,Q⟩ u).heap[e]?=O (A5 cs f c):=fun {e cs f c} d B=>by
  rw[aC _ _ _ _ (fun a=>by rw[a]at d;have:=k.symm.trans d;simp only[eA,jw]at this;exact B this.2.1.symm)];exact d
 obtain⟨n,c,H,I⟩:=h.pp.tks;obtain⟨L,r,J⟩:=h.pp.pw;have z:=h.lt;have A:=h.pp.pg;refine⟨⟨h.pp.hn,⟨n,c,a H (by decide),I⟩,a h.pp.row (by decide),A,L,r,(aC _ _ _ _ (show 1≠b from fun af=>by simp only at g;omega)).trans J⟩,?_,z,cE _ _ _ _,⟨[],⟨rfl,rfl⟩,by obtain⟨ad,F,G⟩:=h.nb;obtain⟨_,rfl⟩:=F;exact G⟩,fun p hp=>?_,fun p hp=>?_⟩
 ·exact h.gr.andThen (rm (uB w _) q u) (fun e d=> .inl (by cases d;exact g))
 ·rcases List.mem_cons.1 hp with rfl|hp
  ·exact⟨g,l,aL _ b q _ _ _ k⟩
  ·exact⟨(h.tb p (cL _ hp)).1,(h.tb p (cL _ hp)).2.1,a (h.tb p (cL _ hp)).2.2 (v p hp)⟩
 ·obtain⟨t,j⟩:=h.nm p hp;refine⟨t,?_⟩;rcases j with j|⟨s,m,o,C,y,x,K⟩
  ·exact .inl j
  ·exact .inr ⟨s,m,o,C,y,a x (by decide),K⟩
theorem ae1(h:w.heap[b]?=O (A5 (AJ vn r) 176 (0,0))):w.cell? ⟨b,6,Q⟩=O vn/\w.cell? ⟨b,7,Q⟩=O (Cr r)/\∀j,w.frozen? ⟨b,j,Q⟩=Br:=⟨by rw[au _ _ _ _ _ _ h];rfl,by rw[au _ _ _ _ _ _ h];rfl,fun j=>bI _ _ _ _ _ h⟩
theorem sLC(S:Hid (Sw E W w i s0 [] .nil [] ((b,176,AJ vn r)::T) M)):w.cell? ⟨b,6,Q⟩=O vn/\w.cell? ⟨b,7,Q⟩=O (Cr r)/\∀j,w.frozen? ⟨b,j,Q⟩=Br:=ae1 (S.tb _ (bB ..)).2.2
end
section
variable {E : Pe} {i j k k1 : Nat} {x y R Ex : Fo}
theorem Sw.lam{o u:B6}{s:Tk}{v C:V}{H:List ByteArray}(h:Sw E W w i s0 [] .nil [] ((b,176,AJ vn r)::T) ((vn,H)::M))(m:Sw E w o j C [v] R [v] [] []){e:Int}(ad:u.heap[b]?=O (A5 #[Y X 36,Y X s.f,Y X e,Y X s.l,Y X 0,C,vn,Cr r] 176 (0,0)))(z:o.grownBy u (O b)):Sw E W u j s0 [] (one (nd 36 s e (opR r) 0 z0 H) R) [U 174 (B1 (O ⟨b,0,Q⟩))] [] []:=by
 obtain⟨x,an,y⟩:=h.tb _ (bB ..);have af:=ai y;simp only at x af;have ak:=h.lt;have B:∀d,d<o.heap.size->d≠b->u.heap[d]?=o.heap[d]?:=fun d p k=>z.block d p (fun e=>k (by cases e;rfl));have ar:=m.gr.size;obtain⟨I,K,al⟩:=m.nb;refine⟨m.pp.other (by omega) (fun e=>?_) (by omega) z,(h.gr.trans m.gr).andThen z (fun d ag=> .inl (by cases ag;exact x)),ak,cE _ _ _ _,⟨_,⟨b,0,vn,C,[v],[],I,[],⟨rfl,rfl⟩,⟨x,by simp[Z],?_,?_⟩,⟨?_,fun g _=>by simp[Z]⟩,⟨?_,fun g _=>by simp[Z]⟩,?_,rfl,rfl⟩,?_⟩,fun am A=>(by cases A),fun am A=>(by cases A)⟩
 ·obtain⟨ao,ap,F,_⟩:=h.pp.tks;rw[<-e,y]at F;simp only[eA,jw]at F;exact absurd F.2.1 (by decide)
 ·unfold gy;rw[ad];cases r<;>rfl
 ·cases r<;>rfl
 ·have t:=h.nm _ (bB ..);refine lA (w:=w) t (fun g J p k=>⟨?_,p⟩);rw[B g (by omega) (fun e=>ll t y (show 176≠9 by decide) (by rw[<-e];exact J))];exact m.gr.block g k (fun e=>by cases e;omega)
 ·exact lA (w:=o) m.ro (fun g J p k=>⟨B g k (by omega),by omega⟩)
 ·exact tK.mono (w:=o) (fun d p k L=>⟨B d L (by omega),by omega,by simp[Z]⟩) _ _ _ K
 ·rw[show mB []=[] from rfl,eo,eo];have t:=h.nm _ (bB ..);have:=nd3 (a:=vn.ownBlock.toList) (b:=I) (c:=[]) (n:=w.heap.size) (by rw[eo];exact Id _) (by simpa [mB] using al) (fun G q=>by rw[eo]at q;exact(t.lt G (by simpa using q)).2) (fun G q=>(K.lt _ _ _ G q).1);rw[eo]at this;exact this
theorem aqI{s:Tk}{q:Int}{ad:List ByteArray}(be:s.k=q)(cp:(E.tk i).k=40)(cn:i+1<E.n)(ct:Prm E.tk E.n (i+1) ad r k)(cu:CN E 144 #[pV E] k x j)(am:k+1<=j)(cB:j<=E.n):CN E 180 #[pV E,.agg (mj q s)] i (one (nd 36 s (E.tk (j-1)).t (opR r) 0 z0 ad) x) j:=by
 intro g al cq;have b7:=Sw.start al;have b6:=aw ct;have c0:=al.hn;have cz:=alb;simp only[de]at cq;obtain⟨w1,cl,b8⟩:=lB b7 be;simp only[mj]at cl;go_in;go_wp2_with fail;refine cJ (er b8 cp (by omega)) fun c b9=>?_;have b2:Hid (Sw E g (c.alloc (.cells (AJ s0 Br) 176)) (i+1) s0 [] .nil [] [(c.heap.size,176,AJ (s0) Br),tkB g.heap.size s] [(s0,[])]):=by
  have af:=b9.boxg (AJ s0 Br) 176 (by decide) (by decide);exact⟨af.pp,af.gr,af.lt,af.ro,⟨[],⟨rfl,rfl⟩,by simp[mB,Z]⟩,af.tb,fun br ak=>by obtain rfl:=List.mem_singleton.1 ak;exact cE _ _ _ _⟩
 go_wp2_with fail;go_loopg [13] (E.n-(i+1)) (fun gk c2 wr=>∃(a:Nat) (D a8:List ByteArray) (w a4:Bool) (l:Option Addr) (n m:Nat),gk=E.n-a/\D.length=n/\n<=a/\a<E.n/\Hid (Prm E.tk E.n a a8 a4 k/\Sw E g wr a s0 [] .nil [] [(c.heap.size,176,AJ (.slice l n m) w),tkB g.heap.size s] [(.slice l n m,D)]/\D++a8=ad/\(w||a4)=r))
 case atStart=>exact⟨i+1,[],ad,Br,r,Q,0,0,rfl,rfl,by omega,cn,b6,b2,rfl,by simp⟩
 case round=>
  obtain⟨a,D,a8,w,a4,l,n,m,rfl,ag,cI,cF,b5⟩:=hrel;obtain⟨af,ch,a1,a2⟩:=b5.out;have a5:=aw ch;cases af with
  |close u K=>
   rw[eo]at a1;rw[Cc]at a2;subst a1 a2;go_wp2_with fail;refine cJ (vy a5 u) fun a7 y=>?_;go_wp2_with fail;refine(cu _ y.pp (by omega)).mono ?_;rintro e F ⟨c1,rfl,o⟩;obtain⟨bt,bs,rfl⟩:=Bk.form o.nn;have bw:=y.step o.gr o.pp;obtain⟨c3,cm,G⟩:=qu o [.iface bt bs] #[.iface bt bs] rfl 1 rfl (by decide);have ca:=sB bw (bG F (.cells #[.iface bt bs] 72));rw[cm]at ca;obtain⟨c4,c7,c8,c9,da,dc⟩:=nF (sT (b:=(c.heap.size,176,AJ (.slice l n m) w)) bw) be;go_wp2_with fail;refine cJ (gB G be (by omega) (by omega) 36 _ _ _) fun h H=>?_;have cb:=y.step H.gr H.pp;have L:=(cb.tb _ (bB ..)).2.2;have dd:h.cell? ⟨c.heap.size,0,Q⟩=O (.int .i64 0):=by rw[au _ _ _ _ _ _ L];rfl
   have dg:h.cell? ⟨c.heap.size,1,Q⟩=O (.int .i64 0):=by rw[au _ _ _ _ _ _ L];rfl
   have dk:h.cell? ⟨c.heap.size,2,Q⟩=O (.int .i64 0):=by rw[au _ _ _ _ _ _ L];rfl
   have dn:h.cell? ⟨c.heap.size,3,Q⟩=O (.int .i64 0):=by rw[au _ _ _ _ _ _ L];rfl
   have dq:h.cell? ⟨c.heap.size,4,Q⟩=O (.int .i64 0):=by rw[au _ _ _ _ _ _ L];rfl
   have ds:h.cell? ⟨c.heap.size,5,Q⟩=O (.slice Q 0 0):=by rw[au _ _ _ _ _ _ L];rfl
   have dx:∀j,h.frozen? ⟨c.heap.size,j,Q⟩=Br:=fun j=>bI _ _ _ _ _ L;have b4:=aw L;go_wp2_with fail;go_ret;exact⟨_,rfl,y.lam (s:=s) (e:=(E.tk (j-1)).t) H (aL _ _ 5 _ _ _ (aL _ _ 4 _ _ _ (aL _ _ 3 _ _ _ (aL _ _ 2 _ _ _ (aL _ _ 1 _ _ _ (aL _ _ 0 _ _ _ b4)))))) (rm (rm (rm (rm (rm (rm (uB h _) 0 _) 1 _) 2 _) 3 _) 4 _) 5 _)⟩
  |rest u K bx=>
   have J:Hid (D++[]=ad/\(C2||false)=r):=⟨a1,by rw[<-a2,Bool.or_true];rfl⟩;go_wp2_with fail;refine cJ (wG a5 (by rw[u];decide)) fun b0 an=>?_;go_wp2_with fail;refine cJ (vy an u) fun a7 y=>?_;obtain⟨a6,bA,bD⟩:=sLC y;have o:Hid (Sw E g (a7.setCell ⟨c.heap.size,7,Q⟩ (.bool C2)) (a+1) s0 [] .nil [] [(c.heap.size,176,AJ (.slice l n m) C2),tkB g.heap.size s] [(.slice l n m,D)]):=y.setL (by intro br ak;obtain rfl:=List.mem_singleton.1 ak;show 49≠176;decide);go_wp2_with fail;refine cJ (wG o (by rw[K];decide)) fun b1 ap=>?_;go_wp2_with fail;go_roundg (E.n-(a+1))
   case measure=>omega
   case rel=>exact⟨a+1,D,[],C2,Br,l,n,m,rfl,ag,by omega,by omega,.close K (by omega),ap,J.1,J.2⟩
  |last u K bx=>
   have J:Hid ((D++[(E.tk a).x])++[]=ad/\(w||false)=r):=⟨by rw[eo];exact a1,a2⟩;have cs:n<=50000000:=by omega
   go_wp2_with fail;refine cJ (wG a5 (by rw[u];decide)) fun b0 an=>?_;go_wp2_with fail;refine cJ (wG an (by rw[u];decide)) fun a7 y=>?_;go_wp2_with fail;have ar:=sB y (dJ (ah _ _));obtain⟨a6,bA,bD⟩:=sLC ar;refine B4 (S:=fun _=>True) (by kernel_rfl) trivial (fun hS=>?_);simp only[iI,bi,dH,Nat.reduceAdd,iu,kF,kG,ep,eC];refine dh 0 (.pointer (O ⟨c.heap.size,0,Q⟩)) rfl rfl (by kernel_rfl) (fun _ _ _=>id) hS (fun B A=>by go_simp) ?_;simp only[A2];refine dh 1 (.pointer (O ⟨c.heap.size,0,Q⟩)) rfl rfl (by kernel_rfl) (fun _ _ _=>id) hS (fun B A=>by go_simp) ?_;simp only[A2];refine dh 2 (.pointer (O ⟨c.heap.size,0,Q⟩)) rfl rfl (by kernel_rfl) (fun _ _ _=>id) hS (fun B A=>by go_simp) ?_;simp only[A2];refine dh 3 (.pointer (O ⟨c.heap.size,6,Q⟩)) rfl rfl (by kernel_rfl) (fun _ _ _=>id) hS (fun B A=>by go_simp) ?_;simp only[A2];refine dh 5 (.pointer (O ⟨E.pb,0,Q⟩)) rfl rfl (by kernel_rfl) (fun _ _ _=>id) hS (fun B A=>by go_simp) ?_;simp only[A2];refine wj (S:=fun a9=>a9.cell? ⟨c.heap.size,6,Q⟩=O (.slice l n m)) (C:=fun j=>!(j==9||j==10||j==11||j==12)) (i:=4) (v:= .slice l n m) rfl (BL (by kernel_rfl)) (fun _ _ _ al=>al) ?hC _ _ _ _ (B2 rfl (by kernel_rfl)) (List.contains_iff_mem.1 (by kernel_rfl)) (Or.inl ⟨by rfl,fun B A=>by go_simp⟩) hS a6 ?_
   case hC=>
    intro j cw am f;simp only[Bool.not_eq_false',B5,jk]at f;rcases f with((rfl|rfl)|rfl)|rfl
    ·obtain rfl:=bu am;exact⟨{on:=4,ground:=Ground.data},by simp,rfl,rfl⟩
    all_goals
     obtain rfl:=bu am;exact⟨{on:=4,ground:=Ground.phase},by simp,rfl,rfl⟩
   simp only[Act.put,dv,dw,dy];refine eJ (i:=6) (by kernel_rfl) rfl (fun p d=>?_);go_simp;refine cJ (er ar u (by omega)) fun F o=>?_;have a0:=(sLC o).1;refine d _ _ trivial (fun _=>a0) ?_;try simp only[dv,dw,dy]
   refine eJ (i:=7) (by kernel_rfl) rfl (fun p d=>?_);simp only[mj];go_simp;refine d _ _ trivial (fun _=>a0) ?_;try simp only[dv,dw,dy]
   refine eJ (i:=8) (by kernel_rfl) rfl (fun p d=>?_);go_simp;have G:=sB o (bG F (.cells #[.string (E.tk a).x] 9));have bb:=(sLC G).1;have a3:=G.nm _ (bB ..);rw[cA,ag]at a3;refine d _ _ trivial (fun _=>bb) ?_;try simp only[dv,dw,dy]
   obtain⟨bh,bj,bk,bl,bn⟩:=dD Df;refine eJ (i:=9) (by kernel_rfl) rfl (fun p d=>?_);refine step_append_lies _ (by rfl) _ _ 86 (by rfl) g.heap.size 9 bh _ 1 16 Tryz.underlying86 bj bk bl bn rfl (by decide) (.slice l n m) n _ (by rfl) a3 ⟨F.heap.size,0,Q⟩ 1 1 [.string (E.tk a).x] (by rfl) rfl (B0 (ay F _)) (by intro cx bf;rw[List.mem_singleton.1 bf];rfl) (by decide) (by unfold Ce;omega) (by omega) (bg o.gr.size (bG F _).size) _ rfl ?_;intro I z h bo bd ck cr;have H:Hid (Sw E g h (a+1) s0 [] .nil [] [(c.heap.size,176,AJ (.slice l n m) w),tkB g.heap.size s] [(.slice (O ⟨I,0,Q⟩) (n+1) z,D++[(E.tk a).x])]):=G.putN (by rw[cA,aB,ag,eB];exact bo) bd;obtain⟨cc,ce,cf⟩:=sLC H;refine d _ _ trivial (fun f=>by cases f) ?_;simp only[Act.put,dv,dw,dy];refine eJ (i:=10) (by kernel_rfl) rfl (fun p d=>?_);go_simp;refine d _ _ trivial (fun f=>by cases f) ?_;try simp only[dv,dw,dy]
   refine eJ (i:=11) (by kernel_rfl) rfl (fun p d=>?_);go_simp;refine d _ _ trivial (fun f=>by cases f) ?_;try simp only[dv,dw,dy]
   refine eJ (i:=12) (by kernel_rfl) rfl (fun p d=>?_);go_simp;have ao:Hid (Sw E g (h.setCell ⟨c.heap.size,6,Q⟩ (.slice (O ⟨I,0,Q⟩) (n+1) z)) (a+1) s0 [] .nil [] [(c.heap.size,176,AJ (.slice (O ⟨I,0,Q⟩) (n+1) z) w),tkB g.heap.size s] [(.slice (O ⟨I,0,Q⟩) (n+1) z,D++[(E.tk a).x])]):=H.setL (by intro br ak;obtain rfl:=List.mem_singleton.1 ak;show 49≠176;decide);refine d _ _ trivial (fun f=>by cases f) ?_;refine yJ (by kernel_rfl) ?_ _;generalize h.setCell _ _=cy at ao⊢;go_wp2_with fail;refine cJ (wG ao (by rw[K];decide)) fun b1 ap=>?_;go_wp2_with fail;go_roundg (E.n-(a+1))
   case measure=>omega
   case rel=>exact⟨a+1,D++[(E.tk a).x],[],w,Br,_,n+1,z,rfl,by rw[aB,ag];rfl,by omega,by omega,.close K (by omega),ap,J.1,J.2⟩
  |@go _ _ bE _ u K bx cg=>
   have J:Hid ((D++[(E.tk a).x])++bE=ad/\(w||a4)=r):=⟨by rw[cH];exact a1,a2⟩;have b3:=aw cg;have cs:n<=50000000:=by omega
   go_wp2_with fail;refine cJ (wG a5 (by rw[u];decide)) fun b0 an=>?_;go_wp2_with fail;refine cJ (wG an (by rw[u];decide)) fun a7 y=>?_;go_wp2_with fail;have ar:=sB y (dJ (ah _ _));obtain⟨a6,bA,bD⟩:=sLC ar;refine B4 (S:=fun _=>True) (by kernel_rfl) trivial (fun hS=>?_);simp only[iI,bi,dH,Nat.reduceAdd,iu,kF,kG,ep,eC];refine dh 0 (.pointer (O ⟨c.heap.size,0,Q⟩)) rfl rfl (by kernel_rfl) (fun _ _ _=>id) hS (fun B A=>by go_simp) ?_;simp only[A2];refine dh 1 (.pointer (O ⟨c.heap.size,0,Q⟩)) rfl rfl (by kernel_rfl) (fun _ _ _=>id) hS (fun B A=>by go_simp) ?_;simp only[A2];refine dh 2 (.pointer (O ⟨c.heap.size,0,Q⟩)) rfl rfl (by kernel_rfl) (fun _ _ _=>id) hS (fun B A=>by go_simp) ?_;simp only[A2];refine dh 3 (.pointer (O ⟨c.heap.size,6,Q⟩)) rfl rfl (by kernel_rfl) (fun _ _ _=>id) hS (fun B A=>by go_simp) ?_;simp only[A2];refine dh 5 (.pointer (O ⟨E.pb,0,Q⟩)) rfl rfl (by kernel_rfl) (fun _ _ _=>id) hS (fun B A=>by go_simp) ?_;simp only[A2];refine wj (S:=fun a9=>a9.cell? ⟨c.heap.size,6,Q⟩=O (.slice l n m)) (C:=fun j=>!(j==9||j==10||j==11||j==12)) (i:=4) (v:= .slice l n m) rfl (BL (by kernel_rfl)) (fun _ _ _ al=>al) ?hC _ _ _ _ (B2 rfl (by kernel_rfl)) (List.contains_iff_mem.1 (by kernel_rfl)) (Or.inl ⟨by rfl,fun B A=>by go_simp⟩) hS a6 ?_
   case hC=>
    intro j cw am f;simp only[Bool.not_eq_false',B5,jk]at f;rcases f with((rfl|rfl)|rfl)|rfl
    ·obtain rfl:=bu am;exact⟨{on:=4,ground:=Ground.data},by simp,rfl,rfl⟩
    all_goals
     obtain rfl:=bu am;exact⟨{on:=4,ground:=Ground.phase},by simp,rfl,rfl⟩
   simp only[Act.put,dv,dw,dy];refine eJ (i:=6) (by kernel_rfl) rfl (fun p d=>?_);go_simp;refine cJ (er ar u (by omega)) fun F o=>?_;have a0:=(sLC o).1;refine d _ _ trivial (fun _=>a0) ?_;try simp only[dv,dw,dy]
   refine eJ (i:=7) (by kernel_rfl) rfl (fun p d=>?_);simp only[mj];go_simp;refine d _ _ trivial (fun _=>a0) ?_;try simp only[dv,dw,dy]
   refine eJ (i:=8) (by kernel_rfl) rfl (fun p d=>?_);go_simp;have G:=sB o (bG F (.cells #[.string (E.tk a).x] 9));have bb:=(sLC G).1;have a3:=G.nm _ (bB ..);rw[cA,ag]at a3;refine d _ _ trivial (fun _=>bb) ?_;try simp only[dv,dw,dy]
   obtain⟨bh,bj,bk,bl,bn⟩:=dD Df;refine eJ (i:=9) (by kernel_rfl) rfl (fun p d=>?_);refine step_append_lies _ (by rfl) _ _ 86 (by rfl) g.heap.size 9 bh _ 1 16 Tryz.underlying86 bj bk bl bn rfl (by decide) (.slice l n m) n _ (by rfl) a3 ⟨F.heap.size,0,Q⟩ 1 1 [.string (E.tk a).x] (by rfl) rfl (B0 (ay F _)) (by intro cx bf;rw[List.mem_singleton.1 bf];rfl) (by decide) (by unfold Ce;omega) (by omega) (bg o.gr.size (bG F _).size) _ rfl ?_;intro I z h bo bd ck cr;have H:Hid (Sw E g h (a+1) s0 [] .nil [] [(c.heap.size,176,AJ (.slice l n m) w),tkB g.heap.size s] [(.slice (O ⟨I,0,Q⟩) (n+1) z,D++[(E.tk a).x])]):=G.putN (by rw[cA,aB,ag,eB];exact bo) bd;obtain⟨cc,ce,cf⟩:=sLC H;refine d _ _ trivial (fun f=>by cases f) ?_;simp only[Act.put,dv,dw,dy];refine eJ (i:=10) (by kernel_rfl) rfl (fun p d=>?_);go_simp;refine d _ _ trivial (fun f=>by cases f) ?_;try simp only[dv,dw,dy]
   refine eJ (i:=11) (by kernel_rfl) rfl (fun p d=>?_);go_simp;refine d _ _ trivial (fun f=>by cases f) ?_;try simp only[dv,dw,dy]
   refine eJ (i:=12) (by kernel_rfl) rfl (fun p d=>?_);go_simp;have ao:Hid (Sw E g (h.setCell ⟨c.heap.size,6,Q⟩ (.slice (O ⟨I,0,Q⟩) (n+1) z)) (a+1) s0 [] .nil [] [(c.heap.size,176,AJ (.slice (O ⟨I,0,Q⟩) (n+1) z) w),tkB g.heap.size s] [(.slice (O ⟨I,0,Q⟩) (n+1) z,D++[(E.tk a).x])]):=H.setL (by intro br ak;obtain rfl:=List.mem_singleton.1 ak;show 49≠176;decide);refine d _ _ trivial (fun f=>by cases f) ?_;refine yJ (by kernel_rfl) ?_ _;generalize h.setCell _ _=cy at ao⊢;go_wp2_with fail;refine cJ (vy ao K) fun b1 ap=>?_;go_wp2_with fail;go_roundg (E.n-(a+2))
   case measure=>omega
   case rel=>exact⟨a+2,D++[(E.tk a).x],bE,w,a4,_,n+1,z,rfl,by rw[aB,ag];rfl,by omega,by omega,b3,ap,J.1,J.2⟩
end
abbrev CxP(a:Pe)(i:Nat)(x:Fo)(j:Nat):Prop:=CN a 142 #[pV a] i x j
abbrev ClP(a:Pe)(i:Nat)(x:Fo)(j:Nat):Prop:=CR a 178 #[pV a,.func (.func 142) #[pV a] #[]] i x j
def PI(a:Pe):A8->Nat->Fo->Nat->Prop
 | .unit,i,R,j=>CN a 209 #[pV a] i R j
 | .expr p,i,R,j=>CXi a p i R j
 | .more p s x,i,R,j=>∃m,Ms a (CXi a) p s m x i R j
 | .base,i,R,j=>CN a 143 #[pV a] i R j
 | .post s x,i,R,j=>∃m,Ps a (CxP a) (ClP a) s m x i R j
 | .exprs,i,R,j=>ClP a i R j
 | .moreE,i,R,j=>∃m,Ls a (CN a 142 #[pV a]) m i R j
 | .moreB,i,R,j=>∃m,Ls a (CN a 143 #[pV a]) m i R j
 | .stat,i,R,j=>CN a 94 #[pV a] i R j
 | .stats,i,R,j=>∃m,Ss a (CN a 94 #[pV a]) m i R j
 | .block,i,R,j=>CN a 144 #[pV a] i R j
 | .body s,i,R,j=>CN a 180 #[pV a,Ck (mj s.k s)] i R j
 | .entry,i,R,j=>CN a 247 #[pV a] i R j
 | .entries,i,R,j=>∃m,Es a (CN a 247 #[pV a]) m i R j
 | .branch,i,R,j=>CN a 135 #[pV a] i R j
theorem alj{k:Int}(h:po k=C2):k=25\/k=50\/k=62\/k=69:=by
 have:=aG h;omega
theorem Et{f:FuncId}{k:Nat}{x:Fo}(b:∀(args:Array V) (w:B6),(callFunc f args).run B7 w= .ok (.enter f args) w)(d:CN E f #[pV E] i x k)(h:(E.tk k).k≠46)(c:k<E.n):CR E 178 #[pV E,.func (.func f) #[pV E] #[]] i x k:=by
 have a:=adb b d (Ls.stop h c);rw[Fo.app_nil]at a;exact a
theorem aim(z:∀q,(E.tk q).k<=78){t:A8}{j:Nat}{v:Fo}(h:P E.tk E.n t i v j):PI E t i v j:=by
 induction h with
 |upre a b d c=>
  have:=d.pos;simp only[lj]at this;rcases alj a with h|h|h|h
  ·rw[h];exact sG h b (by decide) (adm (by decide) h b c)
  ·rw[h];exact sG h b (by decide) (adm (by decide) h b c)
  ·rw[h];exact sG h b (by decide) (adm (by decide) h b c)
  ·rw[h];exact sG h b (by decide) (adm (by decide) h b c)
 |uint a b=>exact arK b a
 |uflt a b=>exact sG a (by omega) (by decide) (ail b (by decide) (by decide) a)
 |ustr a b=>exact sG a (by omega) (by decide) (ail b (by decide) (by decide) a)
 |unil a b=>exact sG a (by omega) (by decide) (Gf b (by decide) (by decide) a)
 |utru a b=>exact sG a (by omega) (by decide) (Gf b (by decide) (by decide) a)
 |ufls a b=>exact sG a (by omega) (by decide) (Gf b (by decide) (by decide) a)
 |urst a b=>exact sG a (by omega) (by decide) (Gf b (by decide) (by decide) a)
 |@ufn i j v a b d c=>exact arL a b (by have q:CN E 180 #[pV E,Ck (mj (E.tk i).k (E.tk i))] (i+1) v j:=c;rw[a]at q;exact q)
 |utab a b d e f c=>obtain⟨m,c⟩:=c;exact sG a b (by decide) (ar0 a b c e f)
 |ubas a b d c=>
  rcases a with h|h
  ·exact sG h b (by decide) c
  ·exact sG h b (by decide) c
 |ex a b d e l o=>obtain⟨m,c⟩:=o;exact aoG a b z l c
 |mstop a b=>exact⟨0,.stop a b⟩
 |mgo a b d e f o x=>obtain⟨m,c⟩:=x;have:=e.pos;simp only[lj]at this;exact⟨m+1,.go a b d o (by omega) (by omega) c⟩
 |bname a b d c=>obtain⟨m,c⟩:=c;have:=d.pos;simp only[lj]at this;exact amx a b (.inl ⟨rfl,ail (by omega) (by decide) (by decide) a⟩) c
 |bopen a b d e f g l r=>obtain⟨m,c⟩:=r;have:=d.pos;have:=g.pos;simp only[lj]at *;exact amx a b (.inr ⟨rfl,aqG a b (qw l) e (by omega) (by omega)⟩) c
 |pstop a b=>exact⟨0,.stop a b⟩
 |pdot a b d e c=>obtain⟨m,c⟩:=c;have:=e.pos;exact⟨m+1,.dot a b (by omega) c⟩
 |psq a b d e f g l r=>obtain⟨m,c⟩:=r;have:=g.pos;exact⟨m+1,.sq a b (qw l) e (by omega) c⟩
 |pcall0 a b d e c=>obtain⟨m,c⟩:=c;have:=e.pos;exact⟨m+1,.call0 a b (by omega) c⟩
 |pcall a b d e f g p o s=>obtain⟨m,c⟩:=s;have:=p.pos;exact⟨m+1,.call a b d o f (by omega) c⟩
 |es a b B C=>obtain⟨m,c⟩:=C;exact adb cfE (qw B) c
 |estop a b=>exact⟨0,.stop a b⟩
 |ego a b d e l o=>obtain⟨m,c⟩:=o;exact⟨m+1,.go a b (qw l) c⟩
 |bstop a b=>exact⟨0,.stop a b⟩
 |bgo a b d e l o=>obtain⟨m,c⟩:=o;exact⟨m+1,.go a b l c⟩
 |body a b d e c=>have:=d.pos;have:=e.pos;simp only[lj]at *;exact aqI rfl a (by omega) d c (by omega) (by omega)
 |block a b d e f c=>obtain⟨m,c⟩:=c;exact aoq a b (ahI (.inl e) c) e f
 |sstop a b=>exact⟨0,.stop b⟩
 |ssep a b d c=>obtain⟨m,c⟩:=c;exact⟨m+1,.sep a b c⟩
 |sgo a b d e f g x r=>obtain⟨m,c⟩:=r;exact⟨m+1,.go a b d e x c⟩
 |nstop a b=>exact⟨0,.stop a b⟩
 |ncom a b d e f g l r=>obtain⟨m,c⟩:=r;exact⟨m+1,.com a b l e f c⟩
 |nlast a b d e f g l r=>obtain⟨m,c⟩:=r;exact⟨m+1,.last a b l e f c⟩
 |item a b d e f c=>have:=f.pos;simp only[lj]at this;exact aqE a b d e (qw c) (by omega) (by omega)
 |pair a b d e f g p l s=>have:=d.pos;have:=p.pos;simp only[lj]at *;exact aqF a b (qw l) e f g (qw s) (by omega) (by omega)
 |named a b d e f c=>have:=f.pos;simp only[lj]at this;exact aoH a b d e (qw c) (by omega) (by omega)
 |belif a b d e f g p l o s=>have:=d.pos;have:=e.pos;have:=p.pos;simp only[lj]at *;exact arI a rfl b (qw l) o g f s (by omega) (by omega)
 |belse a b d e f g p l o s=>have:=d.pos;have:=e.pos;have:=p.pos;simp only[lj]at *;exact arJ a rfl b (qw l) o g f s (by omega) (by omega)
 |bno a b d e f g p l o=>have:=d.pos;have:=e.pos;simp only[lj]at *;exact arH a rfl b (qw l) o p f g (by omega)
 |tlet0 a b d e f=>have:=e.pos;exact lL a (by omega) (by decide) (aqp a (by omega) (yc d b e) (by omega) (by omega) f)
 |tlet a b d e f g c=>have:=e.pos;have:=g.pos;simp only[lj]at *;exact lL a (by omega) (by decide) (arD a (by omega) (yc d b e) (by omega) (by omega) f c (by omega) (by omega))
 |tcon a b d e f c=>have:=f.pos;simp only[lj]at *;exact lL a (by omega) (by decide) (aor a (by omega) (yc b (by omega) (.stop (by rw[d];decide) (by omega))) (by omega) (by omega) d (qw c) (by omega) (by omega))
 |@tfn i j y a b d e f c=>have:=f.pos;simp only[lj]at *;exact lL a (by omega) (by decide) (fnP a (by omega) (yc b (by omega) (.stop (by rw[d];decide) (by omega))) (by omega) (by omega) (kb:=40) (by decide) d (by have q:CN E 180 #[pV E,Ck (mj (E.tk (i+2)).k (E.tk (i+2)))] (i+2) y j:=c;rw[d]at q;exact q) (by omega) (by omega))
 |tif a b d c=>exact lL a b (by decide) c
 |twhile a b d e l o=>have:=d.pos;have:=e.pos;simp only[lj]at *;exact lL a b (by decide) (aop a b (qw l) o (by omega) (by omega))
 |tfor a b d e f g p r s=>have:=e.pos;have:=g.pos;have:=p.pos;simp only[lj]at *;exact lL a (by omega) (by decide) (arG a (by omega) (yc d b e) (by omega) (by omega) f r s (by omega) (by omega))
 |teach a b d e f g p w A r G=>have:=e.pos;have:=g.pos;have:=A.pos;simp only[lj]at *;exact lL a (by omega) (by decide) (aqt a (by omega) (yc d b e) (by omega) (by omega) f (Et cfE (qw r) (by rw[p];decide) w) G (by omega) (by omega))
 |tbreak a b=>exact lL a (by omega) (by decide) (Gf b (by decide) (by decide) a)
 |tnext a b=>exact lL a (by omega) (by decide) (Gf b (by decide) (by decide) a)
 |tret0 a b d=>exact lL a (by omega) (by decide) (aqs a b d)
 |tret a b d e c=>have:=e.pos;simp only[lj]at *;exact lL a (by omega) (by decide) (arE a b (fun u=>by rw[u]at d;revert d;decide) (fun u=>by rw[u]at d;revert d;decide) (fun u=>by rw[u]at d;revert d;decide) c (by omega) (by omega))
 |ttry a b d e f g p w l F=>have:=d.pos;have:=p.pos;have:=w.pos;simp only[lj]at *;exact lL a b (by decide) (arF a b l e f (yc g f p) F (by omega) (by omega))
 |tthrow a b d c=>have:=d.pos;simp only[lj]at *;exact lL a b (by decide) (amt cfE b (by decide) (by decide) a (qw c) (by omega) (by omega))
 |tdefer a b d c=>have:=d.pos;simp only[lj]at *;exact lL a b (by decide) (amt cfB b (by decide) (by decide) a c (by omega) (by omega))
 |tblock a b d c=>exact lL a b (by decide) c
 |tdo a b d e f g c=>
  have:=d.pos;simp only[lj]at *;rcases a with h|h
  ·exact lL h b (by decide) (doP (.inl rfl) h b (Et cfB c e g) f g (by omega))
  ·exact lL h b (by decide) (doP (.inr rfl) h b (Et cfB c e g) f g (by omega))
 |tset a b d e f g p l o s=>
  obtain⟨m,o⟩:=o;have:=d.pos;have:=e.pos;have:=p.pos;simp only[lj]at *;rcases a with h|h
  ·exact lL h b (by decide) (setP (.inl rfl) h b (adb cfB l o) f g s (by omega) (by omega))
  ·exact lL h b (by decide) (setP (.inr rfl) h b (adb cfB l o) f g s (by omega) (by omega))
theorem ar2(b c a d e f:V)(w:B6):(Instr.field 49 (Ck #[b,c,a,d,e,f]) 2).run B7 w= .ok a w:=by kernel_rfl
theorem aqJ{j:Nat}{a:Fo}(hS:CR E 60 #[pV E] i a j)(h:j<E.n):CN E 26 #[pV E] i (one ⟨1,0,(E.tk j).t,1,0,0,z0,[],[]⟩ a) j:=by
 intro u c k;have d:=Sw.start c;have o:=ar2;simp only[de]at k;clear c;go_in;go_wp21
 refine(zA d hS).mono ?_;rintro g v ⟨l,r,m,s,rfl,b,p⟩;go_wp21
 refine(ahH b.pp h).mono ?_;rintro g w ⟨⟨q,_,rfl⟩,f⟩;have e:=sB b f;go_wp21
 go_ret;exact⟨_,rfl,rG e ⟨1,0,(E.tk j).t,1,0,0,z0,[],[]⟩ rfl rfl rfl rfl⟩
structure Fm (lo:Nat) (lb:Option Nat) (w w':B6):Prop where
 bl:Below lo w w'
 at_:∀k cs t fr,w.heap[k]?=O (.cells cs t fr)->lb≠O k->w'.heap[k]?=O (.cells cs t fr)\/∃c u,t=wu c/\w'.heap[k]?=O (.cells (cs.setIfInBounds 4 (.int .i64 u)) t fr)
theorem ar3(cs:Array V)(u v:V):(cs.setIfInBounds 4 u).setIfInBounds 4 v=cs.setIfInBounds 4 v:=by simp
theorem Fm.trans{lb c:Option Nat}{x y z:B6}(h:Fm lo lb x y)(k:Fm lo c y z)(o:∀g,c=O g->lb=O g\/x.heap.size<=g):Fm lo lb x z:=by
 refine⟨h.bl.trans k.bl,fun a m p n f i=>?_⟩;have j:c≠O a:=fun e=>by
  rcases o a e with e|e
  ·exact i e
  ·have:=ai f;omega
 rcases h.at_ a m p n f i with g|⟨d,q,l,g⟩
 ·exact k.at_ a _ _ _ g j
 ·rcases k.at_ a _ _ _ g j with b|⟨s,r,t,b⟩
  ·exact .inr ⟨d,q,l,b⟩
  ·rw[ar3]at b;exact .inr ⟨d,r,l,b⟩
theorem Fm.of_below{c:B6}(b:Below w.heap.size w c)(d:lo<=w.heap.size)(lb:Option Nat):Fm lo lb w c:=⟨b.mono d,fun g e h f a _=> .inl ((b.block _ (ai a)).trans a)⟩
theorem gC{c:Nat}:wu c≠9/\wu c≠72/\wu c≠3/\wu c≠111:=by
 match c with
 |0=>decide
 |1=>decide
 |2=>decide
 |3=>decide
 |4=>decide
 |5=>decide
 |n+6=>exact⟨show 121≠9 by decide,show 121≠72 by decide,show 121≠3 by decide,show 121≠111 by decide⟩
section
variable {lo : Nat} {lb : Option Nat} {w w' : World}
theorem Fm.blk(h:Fm lo lb w w'){k:Nat}{cs:Array V}{t:B3}{fr:Nat×Nat}(d:w.heap[k]?=O (A5 cs t fr))(e:lb≠O k)(f:∀c,t≠wu c):w'.heap[k]?=O (A5 cs t fr):=by
 rcases h.at_ k cs t fr d e with a|⟨c,g,b,_⟩
 ·exact a
 ·exact absurd b (f c)
theorem Fm.row(h:Fm lo lb w w'){b e size n:Nat}{v:V}{d:List V}(o:w.ownsRow b e size v n d)(m:∀g,v.ownBlock=O g->lb≠O g)(p:∀c,e≠wu c):w'.ownsRow b e size v n d:=by
 obtain⟨j,a⟩:=o;refine⟨j,?_⟩;rcases a with a|⟨g,f,i,rfl,l,k,q⟩
 ·exact .inl a
 ·exact .inr ⟨g,f,i,rfl,l,h.blk k (m g rfl) p,q⟩
theorem Fm.box(h:Fm lo lb w w'){vk:V}{d:Int}(c:gy w b N vn d vk)(e:lb≠O b):∃f,gy w' b N vn f vk:=by
 unfold gy at c;rcases h.at_ b _ _ _ c e with a|⟨i,g,_,a⟩
 ·exact⟨d,a⟩
 ·exact⟨g,a⟩
theorem Fm.nodes(h:Fm lo lb w w')(j:∀g,lb=O g->∃cs t fr,w.heap[g]?=O (A5 cs t fr)/\t≠9/\t≠72/\∀c,t≠wu c):∀(R:Fo)(vs:List V)(f:List Nat){d:Nat}{a:Option Nat},tK w d a R vs f->tK w' d a R vs f
 | .nil,vs,f,d,a,q=>q
 | .cons N k r,vs,f,d,a,⟨b,ag,vn,vk,kv,vs',bk,br,e,⟨u,v,m,x⟩,G,k1,I,J⟩=>by
  have n:∀{g:Nat}{cs:Array V}{t:B3}{fr:Nat×Nat},w.heap[g]?=O (A5 cs t fr)->(t=9\/t=72\/∃c,t=wu c)->lb≠O g:=fun {g cs t fr} i ht e=>by
   obtain⟨L,ak,af,q,A,B,C⟩:=j _ e;rw[i]at q;simp only[eA,jw]at q;obtain⟨_,rfl,_⟩:=q;rcases ht with ht|ht|⟨c,ht⟩
   ·exact A ht
   ·exact B ht
   ·exact C c ht
  have o:∀{t:B3}{p:V}{s:List V},Rv w d a t p s->(t=9\/t=72)->(∀c,t≠wu c)->Rv w' d a t p s:=fun l ht F=>⟨h.row l.1 (fun g i=>by
   rcases l.1.2 with⟨rfl,_⟩|⟨z,K,ad,rfl,_,E,_⟩
   ·simp[Z]at i
   ·obtain rfl:z=g:=by simpa [Z] using i
    exact n E (by rcases ht with ht|ht;exact .inl ht;exact .inr (.inl ht))) F,l.2⟩
  obtain⟨H,y⟩:=h.box m (n m (.inr (.inr ⟨_,rfl⟩)));exact⟨b,H,vn,vk,kv,vs',bk,br,e,⟨u,v,y,x⟩,o G (.inl rfl) (fun c=>gC.1.symm),o k1 (.inr rfl) (fun c=>gC.2.1.symm),Fm.nodes h j k kv bk I,Fm.nodes h j r vs' br J⟩
theorem Fm.num{vk:V}{g:Int}(a:gy w b N vn g vk)(h:lo<=b)(u:Int)(lb:Option Nat):Fm lo lb w (w.setCell ⟨b,4,Q⟩ (Y X u))/\gy (w.setCell ⟨b,4,Q⟩ (Y X u)) b N vn u vk:=by
 unfold gy at a⊢;have d:(w.setCell ⟨b,4,Q⟩ (Y X u)).heap[b]?=O (A5 (([Y X N.k,Y X N.f,Y X N.t,Y X N.l,Y X g,vk]++exT N vn (ez N.k)).toArray.setIfInBounds 4 (Y X u)) (wu (ez N.k)) (0,0)):=aL _ b 4 _ _ _ a;refine⟨⟨(ah _ w).setCell h _,fun i j m k c _=>?_⟩,d⟩;by_cases e:i=b
 ·subst e;rw[a]at c;cases c;exact .inr ⟨_,u,rfl,d⟩
 ·exact .inl ((aC _ _ _ _ e).trans c)
end
def LP(lo:Nat)(N:Nd)(ks:Fo)(w:B6)(v:V)(h:List Nat)(a:List Mb)(f:V)(e:Ending)(d:B6):Prop:=∃c M,e= .returned c/\Lw d lo c (a++M)/\M.map Mb.N=(one N ks).flat a.length/\(∀y,(M.flatMap fun x=>x.vn.ownBlock.toList).count y<=h.count y)/\((∀x∈M,Fr w.heap.size x.vk)/\(M.flatMap fun x=>x.vk.ownBlock.toList).Nodup)/\Fm lo f.ownBlock w d/\(∀g,c.ownBlock=O g->f.ownBlock=O g\/w.heap.size<=g)/\∃b i,v= U i (B1 (O ⟨b,0,Q⟩))/\d.cell? ⟨b,4,Q⟩=O (Y X ((a.length+ks.sz:Nat):Int))
def LC(lo:Nat)(N:Nd)(ks:Fo):Prop:=∀(w:B6)(v:V)(a:List Nat)(L:List Mb)(lv:V),tK w lo Q (one N ks) [v] a->Lw w lo lv L->lo<=w.heap.size->L.length+(one N ks).sz<=50000000->
 C4 B7 25 #[v,lv] w (LP lo N ks w v a L lv)
def LCs(lo:Nat):Fo->Prop
 | .nil=>True
 | .cons N k r=>LC lo N k/\LCs lo r
def kB(a:List Mb):List Nat:=a.flatMap fun x=>x.vk.ownBlock.toList
def nB'(a:List Mb):List Nat:=a.flatMap fun x=>x.vn.ownBlock.toList
structure Lj (lo:Nat) (w wr:B6) (N:Nd) (b rb:Nat) (vn vk lv lv1:V) (L M:List Mb) (ks D R':Fo) (kv us vs':List V) (bk bd br:List Nat) (tp:List Int) (ac:Option Addr) (nc cc:Nat):Prop where
 e1:D.app R'=ks
 e2:us++vs'=kv
 ln:us.length=D.len
 lc:LCs lo R'
 nr:tK wr lo Q R' vs' br
 pb:(bd++br).Perm bk
 lw:Lw wr lo lv1 (L++M)
 mf:M.map Mb.N=D.flat L.length
 mp:∀y,(nB' M).count y<=bd.count y
 mr:∀x∈M,Fr w.heap.size x.vk
 fm:Fm lo lv.ownBlock w wr
 lb:∀g,lv1.ownBlock=O g->lv.ownBlock=O g\/w.heap.size<=g
 rb:w.heap.size<=rb/\lv1.ownBlock≠O rb/\wr.heap[rb]?=O (.cells (yK N (uo vn (ez N.k)) (.slice ac nc cc)) 111 (0,0))
 kr:wr.ownsRow w.heap.size 3 1 (.slice ac nc cc) nc (tp.map (C5 .i64))
 kd:(kB M++(Ax ac nc cc).ownBlock.toList).Nodup
 bx:∃num,gy wr b N vn num vk
 vr:wr.ownsRow lo 72 1 vk kv.length kv
 lq:∀x∈L,∀g,x.vk.ownBlock=O g->g<w.heap.size
 nw:wr.ownsRow lo 9 1 vn (N.nm.map A0).length (N.nm.map A0)
section
variable {lo : Nat} {w wr w4 : World} {N N' : Nd} {b rb : Nat} {vn vk lv lv1 lv2 v : Value} {L M M2 : List Mb} {ks D k' r : Fo} {kv us vs' : List Value} {bk bd br : List Nat} {tp : List Int} {ac : Option Addr} {nc cc : Nat}
theorem aoI(a b:List Mb):kB (a++b)=kB a++kB b:=vF
theorem aoJ(a b:List Mb):nB' (a++b)=nB' a++nB' b:=vF
theorem pA{w:B6}{base e size n:Nat}{v:V}{d:List V}(o:w.ownsRow base e size v n d)(a:v.ownBlock=O g):∃cs fr,w.heap[g]?=O (A5 cs e fr):=by
 rcases o.2 with⟨rfl,_⟩|⟨b,f,h,rfl,_,c,_⟩
 ·simp[Z]at a
 ·obtain rfl:b=g:=by simpa [Z] using a
  exact⟨_,_,c⟩
theorem Lj.kid(h:Lj lo w wr N b rb vn vk lv lv1 L M ks D (.cons N' k' r) kv us (v::vs') bk bd br tp ac nc cc)(k:Fm lo lv1.ownBlock wr w4)(af:Lw w4 lo lv2 ((L++M)++M2))(ag:M2.map Mb.N=(one N' k').flat (L++M).length){l:List Nat}(J:∃d,br=l++d/\tK wr lo Q r vs' d)(al:∀y,(nB' M2).count y<=l.count y)(q:∀x∈M2,Fr wr.heap.size x.vk)(F:(kB M2).Nodup)(p:∀g,lv2.ownBlock=O g->lv1.ownBlock=O g\/wr.heap.size<=g):∃d,Lj lo w w4 N b rb vn vk lv lv2 L (M++M2) ks (D.app (one N' k')) r kv (us++[v]) vs' bk (bd++l) d tp ac nc cc:=by
 obtain⟨d,rfl,ak⟩:=J;have ad:=h.fm.bl.size;have t:∀g,lv1.ownBlock=O g->∃i j,wr.heap[g]?=O (A5 i 111 j):=fun g a=>pA h.lw.row a;have z:∀{g:Nat}{i:Array V}{B:B3}{j:Nat×Nat},wr.heap[g]?=O (A5 i B j)->B≠111->lv1.ownBlock≠O g:=fun a K e=>by
  obtain⟨am,an,c⟩:=t _ e;rw[a]at c;simp only[eA,jw]at c;exact K c.2.1
 have o:∀{u e size n:Nat}{C:V}{E:List V},wr.ownsRow u e size C n E->e≠111->(∀f,e≠wu f)->w4.ownsRow u e size C n E:=fun A G H=>k.row A (fun g a=>by obtain⟨i,j,c⟩:=pA A a;exact z c G) H;have I:(L++M).length=L.length+D.sz:=by
  have e:=congrArg List.length h.mf;rw[cA,Fo.flat_len]at e;rw[aB,e]
 obtain⟨ap,s⟩:=h.bx;have ao:=ai h.rb.2.2;refine⟨d,?_,?_,?_,h.lc.2,k.nodes (fun g a=>by obtain⟨i,j,c⟩:=t g a;exact⟨i,_,j,c,by decide,by decide,fun f=>gC.2.2.2.symm⟩) _ _ _ ak,?_,by rw[<-cH];exact af,?_,?_,?_,h.fm.trans k h.lb,?_,⟨h.rb.1,?_,k.blk h.rb.2.2 h.rb.2.1 (fun f=>gC.2.2.2.symm)⟩,o h.kr (by decide) (fun f=>gC.2.2.1.symm),?_,k.box s (z s gC.2.2.2),o h.vr (by decide) (fun f=>gC.2.1.symm),h.lq,o h.nw (by decide) (fun f=>gC.1.symm)⟩
 ·rw[Fo.app_app];exact h.e1
 ·rw[cH];exact h.e2
 ·rw[aB,Fo.len_app,h.ln];rfl
 ·rw[cH];exact h.pb
 ·rw[eB,h.mf,ag,Fo.flat_app,I]
 ·intro y;have ar:=h.mp y;have av:=al y;rw[aoJ,Gt,Gt];omega
 ·intro x hx;rcases List.mem_append.1 hx with hx|hx
  ·exact h.mr x hx
  ·exact(q x hx).le ad
 ·intro g a;rcases p g a with e|e
  ·exact h.lb g e
  ·exact .inr (by omega)
 ·intro e;rcases p rb e with e|e
  ·exact h.rb.2.1 e
  ·omega
 ·rw[aoI];refine nd3 (n:=wr.heap.size) h.kd F (fun x hx=>?_) (fun x hx=>?_)
  ·rcases List.mem_append.1 hx with hx|hx
   ·obtain⟨y,m,hx⟩:=List.mem_flatMap.1 hx;exact((h.lw.each y (Gu _ m)).2.lt x (by simpa using hx)).2
   ·exact(h.kr.lt x (by simpa using hx)).2
  ·obtain⟨y,m,hx⟩:=List.mem_flatMap.1 hx;exact q y m x (by simpa using hx)
theorem Lj.put{ad:Fo}{z:Int}{o:Obj}{s:Nat}{m:B6}(h:Lj lo w wr N b rb vn vk lv lv1 L M ks D ad kv us vs' bk bd br tp ac nc cc)(al:m.ownsRow w.heap.size 3 1 (A9 (O ⟨g,0,Q⟩) (nc+1) s) (nc+1) ((tp++[z]).map (C5 X)))(n:(wr.alloc o).grownBy m (Ax ac nc cc).ownBlock)(an:(Ax ac nc cc).ownBlock=O g\/g=(wr.alloc o).heap.size)(C:lo<=w.heap.size):Lj lo w (m.setCell ⟨rb,8,Q⟩ (A9 (O ⟨g,0,Q⟩) (nc+1) s)) N b rb vn vk lv lv1 L M ks D ad kv us vs' bk bd br (tp++[z]) (O ⟨g,0,Q⟩) (nc+1) s:=by
 have ak:=h.fm.bl.size;have ap:=(bG wr o).size;have H:∀c,(Ax ac nc cc).ownBlock=O c->w.heap.size<=c:=fun c a=>(h.kr.lt c a).1;have x:Fm lo (Ax ac nc cc).ownBlock wr m:=⟨((bG wr o).mono (bg C ak)).trans ((ah lo (wr.alloc o)).grown n (bg C (bg ak ap)) (fun c a=>bg C (H c a))),fun c j t k a F=> .inl ((n.block c (by have:=ai a;omega) (fun e=>F e.symm)).trans (((bG wr o).block c (ai a)).trans a))⟩;have E:∀{c:Nat}{j:Array V}{t:B3}{k:Nat×Nat},wr.heap[c]?=O (A5 j t k)->t≠3->(Ax ac nc cc).ownBlock≠O c:=fun a G e=>ll h.kr a G e;have I:=x.blk h.rb.2.2 (E h.rb.2.2 (by decide)) (fun i=>gC.2.2.2.symm);have y:Fm lo (O rb) m (m.setCell ⟨rb,8,Q⟩ (A9 (O ⟨g,0,Q⟩) (nc+1) s)):=⟨(ah lo m).setCell (show lo<=(⟨rb,8,Q⟩:Addr).block from bg C h.rb.1) _,fun c j t k a F=> .inl ((aC _ _ _ _ (fun e=>F (by rw[e]))).trans a)⟩;have am:∀{c:Nat}{j:Array V}{t:B3}{k:Nat×Nat},m.heap[c]?=O (A5 j t k)->t≠111->O rb≠O c:=fun a G e=>by
  cases e;rw[I]at a;simp only[eA,jw]at a;exact G a.2.1.symm
 have J:∀{p e size q:Nat}{l:V}{r:List V},wr.ownsRow p e size l q r->(∀g,l.ownBlock=O g->(Ax ac nc cc).ownBlock≠O g)->(∀g,l.ownBlock=O g->g≠rb)->(∀i,e≠wu i)->(m.setCell ⟨rb,8,Q⟩ (A9 (O ⟨g,0,Q⟩) (nc+1) s)).ownsRow p e size l q r:=fun f u A B=>y.row (x.row f u B) (fun g n e=>A g n (by cases e;rfl)) B;have K:∀{p e size q:Nat}{l:V}{r:List V},wr.ownsRow p e size l q r->e≠3->e≠111->(∀i,e≠wu i)->(m.setCell ⟨rb,8,Q⟩ (A9 (O ⟨g,0,Q⟩) (nc+1) s)).ownsRow p e size l q r:=fun f u A B=>J f (fun g n=>by obtain⟨j,k,d⟩:=pA f n;exact E d u) (fun g n e=>by obtain⟨j,k,d⟩:=pA f n;rw[e,h.rb.2.2]at d;simp only[eA,jw]at d;exact A d.2.1.symm) B;have av:∀{p q:Nat}{l:V}{r:List V},wr.ownsRow p 3 1 l q r->(∀g,l.ownBlock=O g->(Ax ac nc cc).ownBlock≠O g)->(m.setCell ⟨rb,8,Q⟩ (A9 (O ⟨g,0,Q⟩) (nc+1) s)).ownsRow p 3 1 l q r:=fun f u=>J f u (fun g n e=>by obtain⟨j,k,d⟩:=pA f n;rw[e,h.rb.2.2]at d;simp only[eA,jw]at d;exact absurd d.2.1 (by decide)) (fun i=>gC.2.2.1.symm);obtain⟨a2,af⟩:=h.bx;obtain⟨a3,ag⟩:=x.box af (E af gC.2.2.1);refine⟨h.e1,h.e2,h.ln,h.lc,y.nodes (fun c a=>by cases a;exact⟨_,_,_,I,by decide,by decide,fun i=>gC.2.2.2.symm⟩) _ _ _ (x.nodes (fun c a=>by obtain⟨j,k,d⟩:=pA h.kr a;exact⟨_,_,_,d,by decide,by decide,fun i=>gC.2.2.1.symm⟩) _ _ _ h.nr),h.pb,⟨J h.lw.row (fun c a=>by obtain⟨j,k,d⟩:=pA h.lw.row a;exact E d (by decide)) (fun c a e=>h.rb.2.1 (by rw[<-e];exact a)) (fun i=>gC.2.2.2.symm),fun v hx=>⟨K (h.lw.each v hx).1 (by decide) (by decide) (fun i=>gC.1.symm),av (h.lw.each v hx).2 (fun c a e=>?_)⟩⟩,h.mf,h.mp,h.mr,(h.fm.trans x (fun c a=> .inr (H c a))).trans y (fun c a=> .inr (by cases a;exact h.rb.1)),h.lb,⟨h.rb.1,h.rb.2.1,aL _ rb 8 _ _ _ I⟩,?_,?_,y.box ag (am ag gC.2.2.2),K h.vr (by decide) (by decide) (fun i=>gC.2.1.symm),h.lq,K h.nw (by decide) (by decide) (fun i=>gC.1.symm)⟩
 ·rcases List.mem_append.1 hx with hx|hx
  ·have:=h.lq v hx c a;have:=H c e;omega
  ·have f:=List.nodup_append.1 h.kd;exact f.2.2 c (List.mem_flatMap.2 ⟨v,hx,by simp[a]⟩) c (by simp[e]) rfl
 ·exact y.row al (fun c a=>by obtain⟨j,k,d⟩:=pA al a;exact am d (by decide)) (fun i=>gC.2.2.1.symm)
 ·rcases an with e|e
  ·have f:=h.kd;rw[e]at f;exact f
  ·have f:=(List.nodup_append.1 h.kd).1;rw[od];refine⟨f,Id _,fun v hx a1 ar=>?_⟩;obtain⟨a0,ao,hx⟩:=List.mem_flatMap.1 hx;have u:=((h.lw.each a0 (Gu _ ao)).2.lt v (by simpa using hx)).2;have A:a1=g:=by simpa [Z] using ar
   omega
theorem ar4:∀(c:Nat),ny N c=N->w.ownsRow lo 9 1 vn (N.nm.map A0).length (N.nm.map A0)->w.ownsRow lo 9 1 (uo vn c) N.nm.length (N.nm.map A0)/\∀y,(uo vn c).ownBlock.toList.count y<=vn.ownBlock.toList.count y
 |0,_,o=>⟨by rw[cA]at o;exact o,fun y=>ae _⟩
 |5,_,o=>⟨by rw[cA]at o;exact o,fun y=>ae _⟩
 |1,e,_|2,e,_|3,e,_|4,e,_|n+6,e,_=>by
  have h:[]=N.nm:=congrArg Nd.nm e;rw[<-h];exact⟨cE _ _ _ _,fun y=>by simp[uo,Z]⟩
theorem Lj.fin{u:Int}{o:Obj}{n:Nat}{f:B6}(h:Lj lo w wr N b rb vn vk lv lv1 L M ks ks .nil kv us [] bk bd [] (ks.tops L.length) ac nc cc)(af:lo<=b)(ad:ny N (ez N.k)=N)(al:lo<=w.heap.size)(an:nc=ks.len)(ap:u=((L.length+ks.sz:Nat):Int))(ar:f.ownsRow lo 111 9 (A9 (O ⟨g,0,Q⟩) ((L++M).length+1) n) ((L++M).length+1) (oF ((L++M)++[⟨{N with ks:=ks.tops L.length},uo vn (ez N.k),A9 ac nc cc⟩])))(d:((wr.setCell ⟨b,4,Q⟩ (Y X u)).alloc o).grownBy f lv1.ownBlock)(B:lv1.ownBlock=O g\/g=((wr.setCell ⟨b,4,Q⟩ (Y X u)).alloc o).heap.size)(t:B3):
  ∃M',Lw f lo (A9 (O ⟨g,0,Q⟩) ((L++M).length+1) n) (L++M')/\M'.map Mb.N=(one N ks).flat L.length/\(∀y,(M'.flatMap fun x=>x.vn.ownBlock.toList).count y<=(vn.ownBlock.toList++(bk++[])).count y)/\((∀x∈M',Fr w.heap.size x.vk)/\(M'.flatMap fun x=>x.vk.ownBlock.toList).Nodup)/\Fm lo lv.ownBlock w f/\(∀k,(Ax (O ⟨g,0,Q⟩) ((L++M).length+1) n).ownBlock=O k->lv.ownBlock=O k\/w.heap.size<=k)/\∃z a3,Value.iface t (B1 (O ⟨b,0,Q⟩))= U a3 (B1 (O ⟨z,0,Q⟩))/\f.cell? ⟨z,4,Q⟩=O (Y X ((L.length+ks.sz:Nat):Int)):=by
 have a6:=h.fm.bl.size;obtain⟨a8,ag⟩:=h.bx;obtain⟨j,l⟩:=Fm.num (lo:=lo) ag af u Q;generalize a7:wr.setCell ⟨b,4,Q⟩ (Y X u)=e at j l d B;have a4:=(bG e o).size;have a5:=j.bl.size;have I:=j.row h.lw.row (fun _ _=>by simp) (fun i=>gC.2.2.2.symm);have F:∀{k:Nat}{p:Array V}{t:B3}{r:Nat×Nat},e.heap[k]?=O (A5 p t r)->t≠111->lv1.ownBlock≠O k:=fun c ao a=>ll I c ao a;have ak:∀k,lv1.ownBlock=O k->lo<=k:=fun k c=>(h.lw.row.lt k c).1;have v:Fm lo lv1.ownBlock e f:=⟨((bG e o).mono (by omega)).trans ((ah lo (e.alloc o)).grown d (by omega) ak),fun k p t r c am=> .inl ((d.block k (by have:=ai c;omega) (fun a=>am a.symm)).trans (((bG e o).block k (ai c)).trans c))⟩;have m:∀{C a size E:Nat}{u:V}{H:List V},wr.ownsRow C a size u E H->a≠111->(∀i,a≠wu i)->f.ownsRow C a size u E H:=fun q K A=>by
  have G:=j.row q (fun _ _=>by simp) A;exact v.row G (fun g d=>by obtain⟨p,r,av⟩:=pA G d;exact F av K) A
 have J:=(d.block b (by have:=ai l;omega) (fun a=>F l gC.2.2.2 a.symm)).trans (((bG e o).block b (ai l)).trans l);obtain⟨a1,a2⟩:=ar4 (ez N.k) ad (m h.nw (by decide) (fun i=>gC.1.symm));refine⟨M++[⟨{N with ks:=ks.tops L.length},uo vn (ez N.k),A9 ac nc cc⟩],⟨?_,fun x hx=>?_⟩,?_,fun y=>?_,⟨fun x hx=>?_,?_⟩,(h.fm.trans (j:Fm lo Q wr e) (fun k c=>by cases c)).trans v h.lb,fun k c=>?_,b,t,rfl,?_⟩
 ·rw[<-cH];have a:∀(s:List Mb)(x:Mb),(s++[x]).length=s.length+1:=fun s x=>by simp
  rw[a (L++M)];exact ar
 ·rw[<-cH]at hx;rcases List.mem_append.1 hx with hx|hx
  ·exact⟨m (h.lw.each x hx).1 (by decide) (fun i=>gC.1.symm),m (h.lw.each x hx).2 (by decide) (fun i=>gC.2.2.1.symm)⟩
  ·obtain rfl:=List.mem_singleton.1 hx;refine⟨a1,?_⟩;have q:=mL (m h.kr (by decide) (fun i=>gC.2.2.1.symm)) al;show f.ownsRow lo 3 1 _ (ks.tops L.length).length _;rw[Fo.tops_len,<-an];exact q
 ·rw[eB,h.mf,JJ];rfl
 ·have a9:=h.mp y;have a0:=h.pb.count_eq y;have bb:=a2 y;have a:(List.flatMap (fun x=>x.vn.ownBlock.toList) (M++[(⟨{N with ks:=ks.tops L.length},uo vn (ez N.k),A9 ac nc cc⟩:Mb)]))=nB' M++((uo vn (ez N.k)).ownBlock.toList++[]):=vF;rw[a];simp only[eo,Gt]at a0⊢;omega
 ·rcases List.mem_append.1 hx with hx|hx
  ·exact h.mr x hx
  ·obtain rfl:=List.mem_singleton.1 hx;exact fun g d=>(h.kr.lt g d).1
 ·have q:=h.kd;have a:(List.flatMap (fun x=>x.vk.ownBlock.toList) (M++[(⟨{N with ks:=ks.tops L.length},uo vn (ez N.k),A9 ac nc cc⟩:Mb)]))=kB M++((Ax ac nc cc).ownBlock.toList++[]):=vF;rw[a,eo];exact q
 ·obtain rfl:g=k:=by simpa [Z] using c
  rcases B with q|q
  ·exact h.lb g q
  ·exact .inr (by omega)
 ·rw[au _ _ _ _ _ _ J,ap];rfl
end
theorem Bt{ks:Fo}(fn:LCs lo ks):LC lo N ks:=by
 intro n v g9 f hE cs K a6 cz;obtain⟨p,eh,h4,hK,a7,F,a0,bt,⟨e5,bE⟩,⟨df,g6,dg,dk⟩,eg,ee,ek,gs⟩:=cs;obtain⟨rfl,rfl⟩:=gs;obtain rfl:=(th e5).1;obtain⟨bo,bD,rfl⟩:=cj eg.1;obtain⟨bn,bA,rfl⟩:=cj K.row;obtain⟨bj,cp,rfl⟩:=cj ee.1;have fo:=Bk.len _ _ ⟨a0,ek⟩;have b7:=fun n=>FI (ez N.k) p n;have f8:=fun n=>fx p n;obtain⟨H,ag,J,b8⟩:∃eF d ds,uo (.slice bo (N.nm.map A0).length bD) (ez N.k)= .slice eF d ds:=by unfold uo;split<;>exact⟨_,_,_,rfl⟩
 have af:=F9 n p N _ _ eh ⟨_,_,_,rfl⟩ dg;rw[dk,b8]at af;unfold jo at af;unfold fl at af⊢;generalize hp:pv (ez N.k)=gp at af b7⊢;have y:=aw dg;obtain⟨d,L⟩:=aA a7.length;obtain⟨E,a5⟩:=aA f.length;have ho:d<=50000000:=by have:=ks.len_le;rw[de]at cz;omega
 rw[L]at y;rw[a5];go_in;go_wp2_with (go_at_call 285;refine eH (f8 _) ?_);refine af.mono ?_;rintro e k ⟨rfl,I⟩;have fg:∀o,(k.alloc o).cell? ⟨p,5,Q⟩=O (.slice bj d cp):=fun o=>by
  have a:=((bG k o).block _ (gh (ai y) I.size)).trans ((I.block _ (ai y)).trans y);rw[au _ _ _ _ _ _ a];rfl
 have d9:=bG k (.cells (yK N (.slice H ag J) (.slice Q 0 0)) 111);have t:=I.trans (d9.mono I.size);have c9:Hid (Lj lo n (k.alloc (.cells (yK N (.slice H ag J) (.slice Q 0 0)) 111)) N p k.heap.size (.slice bo (N.nm.map A0).length bD) (.slice bj d cp) (.slice bn E bA) (.slice bn E bA) f [] ks .nil ks a7 [] a7 a0 [] a0 [] Q 0 0):=by
  refine⟨rfl,rfl,rfl,fn,tK.mono (fun f7 e7 e8 e9=>⟨t.block f7 e9,e7,e8⟩) _ _ _ ek,List.Perm.refl _,?_,rfl,fun h5=>ae _,fun bf ad=>(by cases ad),Fm.of_below t a6 _,fun g cv=> .inl cv,⟨I.size,fun e=>?_,by rw[b8];exact ay k _⟩,cE _ _ _ _,by simp[kB,Z],⟨eh,(t.block _ (ai y)).trans y⟩,by have:=bJ ee.1 t;rw[L]at this⊢;exact this,fun bf ad g cv=>((K.each bf ad).2.lt g cv).2,bJ eg.1 t⟩
  ·rw[eo];exact⟨by have:=bJ K.row t;rw[a5]at this⊢;exact this,fun bf ad=>⟨bJ (K.each bf ad).1 t,bJ (K.each bf ad).2 t⟩⟩
  ·have:=(K.row.lt _ (by rw[a5];exact e)).2;have:=I.size;omega
 go_wp2_with fail;clear af t d9 fg;go_loopw [1,18] (fun gv c8 wr=>∃(a:Nat) (D ap:Fo) (a9 F:List V) (cg bt:List Nat) (j:List Mb) (cf:Option Addr) (x ch:Nat) (ac:Option Addr) (l:Nat),gv= .slice cf x ch/\c8= .int .i64 a/\a<=d/\a9.length=a/\Hid (Lj lo n wr N p k.heap.size (.slice bo (N.nm.map A0).length bD) (.slice bj d cp) (.slice bn E bA) (.slice cf x ch) f j ks D ap a7 a9 F a0 cg bt (D.tops E) ac a l)) (fun _ c8 _=>d-(intOf c8).toNat)
 case atStart=>exact⟨0,.nil,ks,[],a7,[],a0,[],bn,E,bA,Q,0,rfl,rfl,aF _,rfl,c9⟩
 case round=>
  clear c9;obtain⟨a,D,ap,a9,F,cg,bt,j,cf,x,ch,ac,l,rfl,rfl,hs,cB,b⟩:=hrel;by_cases hh:a<d
  ·have fr:a9.length+F.length=d:=by rw[<-L,<-b.out.e2,aB]
   obtain⟨v,ao,rfl⟩:∃v ao,F=v::ao:=by
    cases F with
    |nil=>simp at fr;omega
    |cons v ao=>exact⟨v,ao,rfl⟩
   cases ap with
   |nil=>have:=b.nr.1;cases this
   |cons r B ca=>
    obtain⟨s,ei,be,em,ef,gz,a3,dq,⟨b0,d0⟩,d2,d3,d5,d6,d7⟩:=b.nr;obtain⟨rfl,rfl⟩:=th b0;obtain⟨g,rfl⟩:∃g,bj=O ⟨g,0,Q⟩:=by
     have o:=b.vr;rw[L]at o;rcases bq o with⟨he,_⟩|⟨g,hd,cF⟩
     ·omega
     ·exact⟨g,(ab1 cF).1⟩
    have dx:wr.cell? ⟨g,a,Q⟩=O (fl r.k s):=by
     have:=b.vr.cells (g:=g) rfl a (fl r.k s) (by rw[<-b.out.e2,fy (by omega),cB,eD];rfl);have ff:(⟨g,0,Q⟩:Addr).add a=⟨g,a,Q⟩:=by unfold Addr.add;split<;>simp_all
     rw[ff]at this;exact this
    have fc:Hid (tK wr lo Q (one r B) [fl r.k s] (be.ownBlock.toList++(a3++[]))):=⟨s,ei,be,em,ef,[],a3,[],⟨rfl,rfl⟩,d2,d3,d5,d6,rfl,rfl⟩;have fa:Hid (∃bw,bt=(be.ownBlock.toList++(a3++[]))++bw/\tK wr lo Q ca ao bw):=⟨dq,by rw[d0];simp,d7⟩;have fu:=fun n=>FI (ez r.k) s n;have f9:=fun n=>fx s n;have b5:(f++j).length=f.length+D.sz:=by
     have e:=congrArg List.length b.mf;rw[cA,Fo.flat_len]at e;rw[aB,e]
    have hy:D.sz+(B.sz+1+ca.sz)=ks.sz:=by have e:=congrArg Fo.sz b.e1;rw[Fo.sz_app]at e;exact e
    have es:=aw b.lc.1;have fs:=bg a6 b.fm.bl.size;clear d2 d3 d5 d6 d7 b0 d0;have ct:=fc;unfold fl at dx ct;generalize hr:pv (ez r.k)=gr at dx ct fu;have ht:(0:Int)<=(a:Int):=by omega
    have hw:(a:Int)<(d:Int):=by omega
    go_wp2_with fail;refine(es wr _ _ (f++j) _ ct b.lw fs (by rw[b5,de];rw[de]at cz;omega)).mono ?_;rintro e q ⟨hG,dd,rfl,c7,ge,gn,⟨d1,e4⟩,fk,dn,g8,hI,cF,fB⟩;obtain⟨e0,e3,rfl⟩:=cj c7.row;cases cF;generalize fv:((f++j)++dd).length=gd at c7 dn⊢;clear fv;obtain⟨bw,da⟩:=b.kid fk c7 ge fa gn d1 e4 dn;have G:=aw da;clear da;have a8:q.drew.cell? ⟨k.heap.size,8,Q⟩=O (.slice ac a l):=by have m:=G.rb.2.2;show q.cell? _=_;rw[au _ _ _ _ _ _ m];rfl
    have fA:q.drew.cell? ⟨s,4,Q⟩=O (.int .i64 (((f++j).length+B.sz:Nat):Int)):=fB;generalize f6:((((f++j).length+B.sz:Nat)):Int)=z at fA;go_wp2_with fail;refine B4 (S:=fun _=>True) (by kernel_rfl) trivial (fun hS=>?_);simp only[iI,bi,dH,Nat.reduceAdd,iu,kF,kG,ep,eC];refine dh 0 (.pointer (O ⟨k.heap.size,8,Q⟩)) rfl rfl (by kernel_rfl) (fun _ _ _=>id) hS (fun en ec=>by go_simp) ?_;simp only[A2];refine dh 2 (.iface gr (.pointer (O ⟨s,0,Q⟩))) rfl rfl (by kernel_rfl) (fun _ _ _=>id) hS (fun en ec=>by go_simp) ?_;simp only[A2];refine wj (S:=fun ew=>ew.cell? ⟨k.heap.size,8,Q⟩=O (.slice ac a l)) (C:=fun A=>!(A==8||A==9||A==10)) (i:=1) (v:= .slice ac a l) rfl (BL (by kernel_rfl)) (fun _ _ _ cs=>cs) ?hC _ _ _ _ (B2 rfl (by kernel_rfl)) (List.contains_iff_mem.1 (by kernel_rfl)) (Or.inl ⟨by rfl,fun en ec=>by go_simp⟩) hS a8 ?_
    case hC=>
     intro A hH ea w;simp only[Bool.not_eq_false',B5,jk]at w;rcases w with(rfl|rfl)|rfl
     ·obtain rfl:=bu ea;exact⟨{on:=1,ground:=Ground.data},by simp,rfl,rfl⟩
     all_goals
      obtain rfl:=bu ea;exact⟨{on:=1,ground:=Ground.phase},by simp,rfl,rfl⟩
    simp only[Act.put,dv,dw,dy];refine eJ (i:=3) (by kernel_rfl) rfl (fun h c=>?_);go_simp;refine eH (f9 _) ?_;refine c _ _ trivial (fun _=>a8) ?_;clear c h;try simp only[dv,dw,dy]
    refine eJ (i:=4) (by kernel_rfl) rfl (fun h c=>?_);go_simp;refine c _ _ trivial (fun _=>a8) ?_;clear c h;try simp only[dv,dw,dy]
    refine eJ (i:=5) (by kernel_rfl) rfl (fun h c=>?_);go_simp;refine c _ _ trivial (fun _=>a8) ?_;clear c h;try simp only[dv,dw,dy]
    refine eJ (i:=6) (by kernel_rfl) rfl (fun h c=>?_);go_simp;refine c _ _ trivial (fun _=>a8) ?_;clear c h;try simp only[dv,dw,dy]
    refine eJ (i:=7) (by kernel_rfl) rfl (fun h c=>?_);go_simp;have m:=G.rb.2.2;have gb:∀o,(q.alloc o).cell? ⟨k.heap.size,8,Q⟩=O (.slice ac a l):=fun o=>by rw[au _ _ _ _ _ _ (((bG q o).block _ (ai m)).trans m)];rfl
    refine c _ _ trivial (fun _=>gb _) ?_;clear c h;try simp only[dv,dw,dy]
    obtain⟨cI,c0,c3,c5,c6⟩:=dD af5;have f5:=G.fm.bl.size;refine eJ (i:=8) (by kernel_rfl) rfl (fun h c=>?_);refine step_append_lies _ (by rfl) _ _ 24 (by rfl) n.heap.size 3 cI _ 1 8 Tryz.underlying24 c0 c3 c5 c6 rfl (by decide) (.slice ac a l) a _ (by rfl) (bJ G.kr (dJ (bG q (.cells #[.int .i64 z] 3)))) ⟨q.heap.size,0,Q⟩ 1 1 [.int .i64 z] (by rfl) rfl (B0 (ay q _)) (by intro gt b9;rw[List.mem_singleton.1 b9];rfl) (by decide) (by unfold Ce;omega) (by omega) (bg f5 (bG q (.cells #[.int .i64 z] 3)).size) _ rfl ?_;intro cq cm cb am u a4 fq;have cw:(q.alloc (.cells #[.int .i64 z] 3)).grownBy cb (Ax ac a l).ownBlock:=⟨u.os,u.tape,u.output,u.size,u.block⟩;have dc:=G.put (z:=z) (o:= .cells #[.int .i64 z] 3) (by rw[eB];exact am) cw a4 a6;have el:=(cw.block _ (by have:=ai m;rw[dr];omega) (fun e=>ll G.kr m (by decide) e.symm)).trans (((bG q (.cells #[.int .i64 z] 3)).block _ (ai m)).trans m);have hA:cb.cell? ⟨k.heap.size,8,Q⟩=O (.slice ac a l):=by rw[au _ _ _ _ _ _ el];rfl
    have hB:∀A,cb.frozen? ⟨k.heap.size,A,Q⟩=Br:=fun A=>bI _ _ _ _ _ el;have et:=aw dc;clear dc am u cw a4 fq;refine c _ _ trivial (fun w=>by cases w) ?_;clear c h;simp only[Act.put,dv,dw,dy];refine eJ (i:=9) (by kernel_rfl) rfl (fun h c=>?_);go_simp;refine c _ _ trivial (fun w=>by cases w) ?_;clear c h;try simp only[dv,dw,dy]
    refine eJ (i:=10) (by kernel_rfl) rfl (fun h c=>?_);go_simp;refine c _ _ trivial (fun w=>by cases w) ?_;clear c h;refine yJ (by kernel_rfl) ?_ _;go_wp2_with fail;refine⟨⟨a+1,D.app (one r B),ca,a9++[fl r.k s],ao,cg++(be.ownBlock.toList++(a3++[])),bw,j++dd,e0,gd,e3,O ⟨cq,0,Q⟩,cm,rfl,by go_num,by omega,by rw[aB,cB];rfl,?_⟩,by simp[intOf];omega⟩;have e:(D.app (one r B)).tops E=D.tops E++[z]:=by rw[Fo.tops_app,<-f6,b5,a5];rfl
    rw[e];exact et
  ·have fF:d=a:=by omega
   subst fF;have b5:(f++j).length=f.length+D.sz:=by
    have e:=congrArg List.length b.mf;rw[cA,Fo.flat_len]at e;rw[aB,e]
   have f3:F=[]:=by
    have e:=congrArg List.length b.e2;rw[aB,cB,L]at e;exact nK (by omega)
   subst f3;have fd:ap= .nil:=by
    cases ap with
    |nil=>rfl
    |cons r B ca=>obtain⟨s,ei,be,em,ef,gz,a3,dq,⟨b0,_⟩,_⟩:=b.nr;cases b0
   subst fd;obtain⟨_,rfl⟩:=b.nr;have fb:D=ks:=by have e:=b.e1;rw[Fo.app_nil]at e;exact e
   subst fb;obtain⟨g0,ha,eb⟩:=cj b.lw.row;have cy:Hid (x=(f++j).length):=(ab1 eb).2.1;clear eb;have fz:Hid (d=D.len):=by show d=_;rw[<-L];exact fo
   subst a5;have eq:=aw bE;clear bE;have hl:x<=50000000:=by have:=cy.out;rw[de]at cz;omega
   obtain⟨gf,b6⟩:=b.bx;have hf:=ai y.out;have m:=b.rb.2.2;have hz:=b.rb.1;rw[b8]at m;have hb:wr.cell? ⟨p,4,Q⟩=O (.int .i64 gf):=by rw[au _ _ _ _ _ _ b6];rfl
   have d1:wr.frozen? ⟨p,4,Q⟩=Br:=bI _ _ _ _ _ b6;have d8:(wr.setCell ⟨p,4,Q⟩ (.int .i64 (x:Int))).heap[k.heap.size]?=_:=(aC _ _ _ _ (by show k.heap.size≠p;omega)).trans m;obtain⟨av,cu⟩:=aA (wr.setCell ⟨p,4,Q⟩ (.int .i64 (x:Int)));rw[cu]at d8;obtain⟨h6,h7,h9,ih,ii,iv,iy,i1,i2,i3⟩:=ci d8;have hi:¬(d:Int)<(d:Int):=by omega
   have bh:=(Fm.num (lo:=lo) b6 df (x:Int) Q).1;rw[cu]at bh;have ce:=bh.row b.lw.row (fun _ _=>by simp) (fun ds=>gC.2.2.2.symm);have fp:lo<=av.heap.size:=bg a6 (bg b.fm.bl.size bh.bl.size);rw[<-cy.out]at ce;have gm:=bJ ce (bG av (.cells (yK N (.slice H ag J) (.slice ac d l)) 111));have f0:=(bG av (.cells (yK N (.slice H ag J) (.slice ac d l)) 111)).size;obtain⟨cI,c0,c3,c5,c6⟩:=dD Hg;clear b7 b6 m bh ce;go_wp2_with (at_builtin;refine wpList_append_own_at _ rfl _ _ 32 rfl lo 111 cI _ 9 112 Tryz.underlying32 c0 c3 c5 c6 rfl (by decide) _ _ _ rfl gm ⟨av.heap.size,0,Q⟩ 1 1 (yK N (.slice H ag J) (.slice ac d l)).toList rfl rfl (B0 (ay av _)) (by intro gt b9;simp at b9;rcases b9 with rfl|rfl|rfl|rfl|rfl|rfl|rfl|rfl|rfl<;>rfl) (by unfold Ce;omega) (by omega) (bg fp f0) ?_;intro hJ cb am u _ a4;obtain⟨cq,cm,rfl⟩:=ownsRow_succ am);go_ret;have e6:oF (f++j)++(yK N (.slice H ag J) (.slice ac d l)).toList=oF ((f++j)++[⟨{N with ks:=D.tops f.length},uo (.slice bo (N.nm.map A0).length bD) (ez N.k),.slice ac d l⟩]):=by rw[C9 (f++j),b8];show _=oF (f++j)++(cMb _++[]);rw[eo];rfl
   rw[e6]at am;have b7:=cy.out;subst b7;rw[<-cu]at u a4;obtain⟨ev,a⟩:=b.fin df dk a6 fz (by rw[b5]) am u (by rcases a4 with e|e;exact .inl e.symm;exact .inr (by simpa [Z] using e)) gp;have bE:=eq.out;subst bE;exact(show LP _ _ _ _ _ _ _ _ _ _ from⟨.slice (O ⟨cq,0,Q⟩) ((f++j).length+1) cm,ev,rfl,a⟩)
