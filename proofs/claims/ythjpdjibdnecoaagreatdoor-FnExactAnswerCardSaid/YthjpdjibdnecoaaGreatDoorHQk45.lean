import Derived.Test.YthjpdjibdnecoaaGreatDoorHQk44
import Derived.Test.YthjpdjibdnecoaaGreatDoorHQk36
import Derived.Test.YthjpdjibdnecoaaGreatDoorHQk33
set_option linter.all false
set_option maxRecDepth 100000
set_option maxHeartbeats 12800000
open Option renaming some->O,none->Q
open Go.Value renaming iface->U,int->Y,ownBlock->Z,slice->Ax,string->A0,slice->A3,pointer->A8,agg->B2,bool->B3,int->D1
open Go renaming Value->V,World->A1,TypeId->A9,wp_region_held_drew->Bs,maxLen->B1,Calls->C2
open Go.IntKind renaming i64->X
open Bool renaming false->A2,true->B4
open List renaming set->A4
open Go.Obj renaming cells->A5
open Go.RowKit renaming Hid->A6
open Go.World renaming news_of_block->A7
open Go.Proofs.Tryz renaming prog->B0
namespace Go.Proofs.YthjpdjibdnecoaaGreatDoor
open Go.RowKit Go.Maps Go.WideMaps
section
variable {E : Pe} {i j k k1 : Nat} {x y R Ex : Fo}
theorem wC{nk:Int}(a:dF nk=3)(b:Nat):ey nk b= U 216 (A8 (O ⟨b,0,Q⟩)):=by unfold ey;rw[a];rfl
theorem Cu{nk:Int}(a:dF nk=3)(s:Tk)(e:Int)(x:ByteArray):lE (nd nk s e 0 0 x []) (dF nk)=nd nk s e 0 0 x []:=by rw[a];rfl
theorem afg(F:i+1<E.n){nk k:Int}(z:k≠6)(d:dF nk=3)(a:(E.tk i).k=k):CN E 220 #[pV E,Y X nk] i (one (nd nk (E.tk i) (E.tk i).t 0 0 (E.tk i).x []) .nil) (i+1):=by
 intro w m G;have s:=Sw.start m;clear m;go_in;go_wp2_with fail;refine aJ (dx s a (by omega) z) fun c u=>?_;obtain⟨A,o,e⟩:=js u a;simp only[ew]at o;go_wp2_with fail;clear o;have g:=sB e (cj (ag _ A));have p:=ma e a;have q:=ma g a;go_region_held3 (fun w'=>w'.cell? ⟨c.heap.size,0,Q⟩=O (Y X k)/\w'.cell? ⟨c.heap.size,1,Q⟩=O (Y X (E.tk i).f)/\w'.cell? ⟨c.heap.size,2,Q⟩=O (Y X (E.tk i).t)/\w'.cell? ⟨c.heap.size,3,Q⟩=O (Y X (E.tk i).l)/\w'.cell? ⟨c.heap.size,4,Q⟩=O (Y X (E.tk i).n)/\w'.cell? ⟨c.heap.size,5,Q⟩=O (.string (E.tk i).x)) (first|exact p|exact q|exact ma h a|go_keep) (first|(go_at_call 215;refine(fE g a (by omega) (by omega) _ _ _ _).mono ?_;rintro C B ⟨rfl,h⟩))
 go_wp2_with fail;go_ret;exact⟨_,rfl,wC d B.heap.size ▸ qi h (nd nk (E.tk i) (E.tk i).t 0 0 (E.tk i).x []) (Cu d _ _ _) rfl (by show _=(_++LB _ _ (dF nk)).toArray;rw[d];rfl) (by show _=uj (dF nk);rw[d];rfl)⟩
theorem am9(B:i+1<E.n)(a:(E.tk i).k=2):CN E 238 #[pV E] i (one (nd 23 (E.tk i) (E.tk i).t 0 (E.tk i).n z0 []) .nil) (i+1):=by
 intro w h C;have q:=Sw.start h;clear h;go_in;go_wp2_with fail;refine aJ (im q a (by omega)) fun G u=>?_;go_wp2_with fail;refine aJ (dx u a (by omega) (by decide)) fun c s=>?_;obtain⟨z,m,d⟩:=js s a;simp only[ew]at m;go_wp2_with fail;clear m;have e:=sB d (cj (ag _ z));have o:=ma d a;have p:=ma e a;go_region_held3 (fun w'=>w'.cell? ⟨c.heap.size,0,Q⟩=O (Y X 2)/\w'.cell? ⟨c.heap.size,1,Q⟩=O (Y X (E.tk i).f)/\w'.cell? ⟨c.heap.size,2,Q⟩=O (Y X (E.tk i).t)/\w'.cell? ⟨c.heap.size,3,Q⟩=O (Y X (E.tk i).l)/\w'.cell? ⟨c.heap.size,4,Q⟩=O (Y X (E.tk i).n)/\w'.cell? ⟨c.heap.size,5,Q⟩=O (.string (E.tk i).x)) (first|exact o|exact p|exact ma g a|go_keep) (first|(go_at_call 215;refine(fE e a (by omega) (by omega) 23 _ _ _).mono ?_;rintro A F ⟨rfl,g⟩))
 go_wp2_with fail;go_ret;exact⟨_,rfl,qi g (nd 23 (E.tk i) (E.tk i).t 0 (E.tk i).n z0 []) rfl rfl rfl rfl⟩
theorem aaE{q c:Int}(u:q≠6)(a:(E.tk i).k=q)(F:i<E.n)(A:CN E 238 #[pV E] (i+1) x j)(G:i+1<=j)(H:j<=E.n):CN E 254 #[pV E,Y X c] i (one (nd 30 (E.tk i) (E.tk (j-1)).t c 0 z0 []) x) (j):=by
 intro w f z;have m:=Sw.start f;clear f;simp only[aA,Fo.sz_app]at z;go_in;go_wp2_with fail;refine aJ (dx m a (by omega) u) fun I o=>?_;obtain⟨J,g,p⟩:=js o a;simp only[ew]at g;go_wp2_with fail;refine(iB p A (by omega)).mono ?_;rintro B K ⟨l,h,rfl,d⟩;clear g;obtain⟨af,ak,al,am,an,ao⟩:=ma d a;obtain⟨w4,C,e⟩:=oL d [U l h] #[U l h] rfl 1 rfl (by decide);obtain⟨ap,ar,av,a0,a1,a2⟩:=ma e a;go_wp2_with fail;refine aJ (fE e a (by omega) (by omega) 30 _ _ _) fun ad s=>?_;go_wp2_with fail;go_ret;exact⟨_,rfl,qi s (nd 30 (E.tk i) (E.tk (j-1)).t c 0 z0 []) rfl rfl rfl rfl⟩
abbrev CXi(E:Pe)(p:Int)(i:Nat)(x:Fo)(j:Nat):Prop:=CN E 218 #[pV E,Y X p] i x j
theorem pc(f:CXi E 0 i R j):CN E 183 #[pV E] i (R) (j):=by
 intro w a e;have c:=Sw.start a;clear a;go_in;go_wp2_with fail;refine(iB c f e).mono ?_;rintro g l ⟨h,p2,rfl,d⟩;go_wp2_with fail;go_ret;exact⟨_,rfl,d⟩
theorem sT{W w:A1}{kv:V}{a c:List V}{D:Fo}{T:Bxs}{M:List (V×List ByteArray)}{b:Nat×A9×Array V}(S:A6 (Sw E W w i kv a D c (b::T) M)):A6 (Sw E W w i kv a D c T M):=S.out.drop (fun e d=>dC _ d) (.inl rfl)
theorem alA{W w:A1}{T:Bxs}{M:List (V×List ByteArray)}{k q:Int}{t:Tk}{g h:A9}{d f:V}(an:A6 (Sw E W w j s0 [] R [U g d,U h f] T M))(a:t.k=k)(ar:1<=j)(av:j<=E.n)(a0:10<=q)(a1:q<=78):C2 B0 240 #[pV E,Y X q,B2 (ew k t),U g d,U h f] w fun e w'=>∃A z,e= .returned (U A z)/\A6 (Sw E W w' j s0 [] (one (qx q t (E.tk (j-1)).t) R) [U A z] T M):=by
 unfold qx;obtain⟨a3,o,l⟩:=js an a;simp only[ew]at o⊢;have a2:IntKind.i64.wrap (q-60)=q-60:=by rw[di];omega
 by_cases p:q=10
 ·subst p;rw[ab rfl];go_in;obtain⟨C,F,G,H,I,J⟩:=ma l a;obtain⟨w4,u,c⟩:=oL l [U g d,U h f] #[U g d,U h f] rfl 2 rfl (by decide);obtain⟨K,ad,af,ak,al,am⟩:=ma c a;go_wp2_with fail;refine aJ (fE c a (by omega) (by omega) 28 _ _ _) fun B m=>?_;clear o;go_wp2_with fail;go_ret;refine⟨_,_,rfl,sT (b:=tkB w.heap.size t) ?_⟩;exact zD m (fp 28 t (E.tk (j-1)).t) rfl rfl rfl rfl
 by_cases s:q=26
 ·subst s;rw[aa (by decide),ab rfl];go_in;obtain⟨C,F,G,H,I,J⟩:=ma l a;obtain⟨w4,u,c⟩:=oL l [U g d,U h f] #[U g d,U h f] rfl 2 rfl (by decide);obtain⟨K,ad,af,ak,al,am⟩:=ma c a;go_wp2_with fail;refine aJ (fE c a (by omega) (by omega) 29 _ _ _) fun B m=>?_;clear o;go_wp2_with fail;go_ret;refine⟨_,_,rfl,sT (b:=tkB w.heap.size t) ?_⟩;exact zD m (fp 29 t (E.tk (j-1)).t) rfl rfl rfl rfl
 ·rw[aa p,aa s];have ao:(q==10)=A2:=by simp[p]
  have ap:(q==26)=A2:=by simp[s]
  go_in;obtain⟨C,F,G,H,I,J⟩:=ma l a;obtain⟨w4,u,c⟩:=oL l [U g d,U h f] #[U g d,U h f] rfl 2 rfl (by decide);obtain⟨K,ad,af,ak,al,am⟩:=ma c a;go_wp2_with fail;refine aJ (fE c a (by omega) (by omega) 31 _ _ _) fun B m=>?_;clear o;go_wp2_with fail;go_ret;refine⟨_,_,rfl,sT (b:=tkB w.heap.size t) ?_⟩;exact zD m (nd 31 t (E.tk (j-1)).t (q-60) 0 z0 []) rfl rfl rfl rfl
theorem alB{W w:A1}{T:Bxs}{M:List (V×List ByteArray)}{d:List V}{D:Fo}{k:Int}(S:A6 (Sw E W w i s0 [] D d T M))(n:ia k=B4)(m:k<=78):C2 B0 239 #[Y X k] w fun e w'=>e= .returned (.tuple #[B2 #[Y X k,Y X (Gn k),Y X (rpw k)],B3 B4])/\A6 (Sw E W w' i s0 [] D d T M):=by
 obtain⟨j,c,rfl⟩:=aje n m;obtain⟨o,l,a⟩:=S.out.pp.pw;obtain⟨f,g,_,h⟩:=aao j c;refine(Ke w o l a j c _ rfl h).mono ?_;rintro e w' ⟨a,b⟩;rw[f,g]at a;exact⟨a,sB S b⟩
theorem alC{W w:A1}{T:Bxs}{M:List (V×List ByteArray)}{c:List V}{D:Fo}{k:Int}(S:A6 (Sw E W w i s0 [] D c T M))(g:ia k=A2):C2 B0 239 #[Y X k] w fun e w'=>e= .returned (.tuple #[B2 #[Y X 0,Y X 0,Y X 0],B3 A2])/\A6 (Sw E W w' i s0 [] D c T M):=by
 obtain⟨h,d,a⟩:=S.out.pp.pw;refine(Kf w h d a k (fun i f e=>?_)).mono ?_
 ·have:=(aao i f).2.2.1;rw[e,g]at this;cases this
 rintro e w' ⟨a,b⟩;exact⟨a,sB S b⟩
theorem aij{W w:A1}{T:Bxs}{M:List (V×List ByteArray)}{d:List V}{D:Fo}(S:A6 (Sw E W w i s0 [] D d T M))(a b c:V):∃w',w.alloc (A5 #[a,b,c] 245)=w'/\A6 (Sw E W w' i s0 [] D d ((w.heap.size,245,#[a,b,c])::T) M):=⟨_,rfl,S.out.boxg _ _ (by decide) (by decide)⟩
theorem sC3{W w:A1}{T:Bxs}{M:List (V×List ByteArray)}{f:List V}{D:Fo}{d:Nat}{a b c:V}(S:A6 (Sw E W w i s0 [] D f ((d,245,#[a,b,c])::T) M)):w.cell? ⟨d,0,Q⟩=O a/\w.cell? ⟨d,1,Q⟩=O b/\w.cell? ⟨d,2,Q⟩=O c:=by
 have e:=(S.out.tb _ (bK ..)).2.2;exact⟨by rw[aq _ _ _ _ _ _ e];rfl,by rw[aq _ _ _ _ _ _ e];rfl,by rw[aq _ _ _ _ _ _ e];rfl⟩
theorem aj8{p:Int}{m:Nat}(a8:(E.tk i).k≠6)(b1:i<E.n)(an:∀q,(E.tk q).k<=78)(bl:CN E 238 #[pV E] i x k)(B:Ms E (CXi E) p (E.tk i) m x k R j):CXi E p i R j:=by
 intro w z b2;have K:=Sw.start z;have J:=aw B;have b5:=B.le;clear z B;go_in;go_wp2_with fail;refine aJ (rG K rfl (by omega) a8) fun bA ad=>?_;obtain⟨cb,ao,d⟩:=js ad (t:=E.tk i) rfl;simp only[ew]at ao;go_wp2_with fail;refine(iB d bl (by omega)).mono ?_;rintro l ce ⟨bt,bo,rfl,af⟩;clear ao;have H:=aw af;go_wp2_with fail;clear K ad d af;go_loopg [6] m (fun gk bx wr=>∃(k:Nat) (s:Fo) (t:A9) (av:V),bx= U t av/\A6 (Ms E (CXi E) p (E.tk i) gk s k R j/\Sw E w wr k s0 [] s [U t av] [tkB bA.heap.size (E.tk i)] []))
 case atStart=>exact⟨k,x,bt,bo,rfl,J.out,H.out⟩
 case round=>
  clear H J;obtain⟨a,s,ca,b8,rfl,I⟩:=hrel;obtain⟨a7,am⟩:=I.out;have d:=aw am;clear am I;cases a7 with
  |stop h al=>
   have b6:=d;cases c:ia (E.tk j).k with
   |false=>
    go_wp2_with fail;refine aJ (im d rfl h) fun w4 e=>?_;go_wp2_with fail;refine aJ (alC e c) fun a0 f=>?_;go_wp2_with fail;go_ret;exact⟨_,rfl,(f.out.boxg _ _ (by decide) (by decide)).drop (fun p A=>by cases A) (.inr rfl)⟩
   |true=>
    have b4:=al c;go_wp2_with fail;refine aJ (im d rfl h) fun w4 e=>?_;go_wp2_with fail;refine aJ (alB e c (an _)) fun a0 f=>?_;obtain⟨bD,ap,g⟩:=aij f (Y X (E.tk j).k) (Y X (Gn (E.tk j).k)) (Y X (rpw (E.tk j).k));obtain⟨C,F,G⟩:=sC3 g;go_wp2_with fail;go_ret;exact⟨_,rfl,g.out.drop (fun p A=>by cases A) (.inr rfl)⟩
  |@go bn _ k1 _ _ y bE h c al a5 b0 a6 u=>
   have bh:=u.le;rw[aA,Fo.sz_app]at bh;have b3:¬Gn (E.tk a).k<p:=by omega
   have a9:(E.tk a).k≠6:=fun l=>by rw[l]at c;revert c;decide
   have ar:=an a;have bb:10<=(E.tk a).k:=by have z:(E.tk a).k=10\/(E.tk a).k=26\/60<(E.tk a).k:=aC c;omega
   have a2:=aw u;clear u;go_wp2_with fail;refine aJ (im d rfl h) fun w4 e=>?_;go_wp2_with fail;refine aJ (alB e c ar) fun a0 f=>?_;obtain⟨bD,ap,g⟩:=aij f (Y X (E.tk a).k) (Y X (Gn (E.tk a).k)) (Y X (rpw (E.tk a).k));obtain⟨C,F,G⟩:=sC3 g;go_wp2_with fail;clear ap;refine aJ (dx g rfl h a9) fun cf ak=>?_;obtain⟨C,F,G⟩:=sC3 ak;go_wp2_with fail;refine(iB ak a5 (by omega)).mono ?_;rintro l cg ⟨b9,b7,rfl,o⟩;obtain⟨C,F,G⟩:=sC3 o;obtain⟨ck,cl,cm,cn,cq,cr⟩:=ma (sT o) rfl;go_wp2_with fail;have a3:=aw o;refine(alA a3 (t:=E.tk i) rfl (by omega) a6 bb ar).mono ?_;rintro l ch ⟨bw,bs,rfl,a4⟩;have a1:=sT a4;go_wp2_with fail;go_roundg bn
   case measure=>omega
   case rel=>exact⟨k1,_,bw,bs,rfl,a2.out,a1.out⟩
end
section
variable {E : Pe} {i j k k1 : Nat} {x y R Ex : Fo}
def unF(E:Pe)(k:Int):FuncId×Array V:=
 if k=25 then(254,#[pV E,Y X 21])
 else if k=62 then(254,#[pV E,Y X 19])
 else if k=50 then(254,#[pV E,Y X 22])
 else if k=69 then(254,#[pV E,Y X 20])
 else if k=3 then(220,#[pV E,Y X 24])
 else if k=4 then(220,#[pV E,Y X 25])
 else if k=24 then(179,#[pV E,Y X 20])
 else if k=29 then(179,#[pV E,Y X 21])
 else if k=17 then(179,#[pV E,Y X 22])
 else if k=49 then(179,#[pV E,Y X 27])
 else if k=42 then(255,#[pV E])
 else if k=1 then(184,#[pV E])
 else(184,#[pV E])
theorem qG{q:Int}(h:(E.tk i).k=q)(m:i<E.n)(a:q=25\/q=62\/q=50\/q=69\/q=3\/q=4\/q=24\/q=29\/q=17\/q=49\/q=42\/q=1\/q=40)(c:CN E (unF E q).1 (unF E q).2 i R j):CN E 238 #[pV E] i R j:=by
 rcases a with rfl|rfl|rfl|rfl|rfl|rfl|rfl|rfl|rfl|rfl|rfl|rfl|rfl;all_goals
  simp only[unF]at c;simp at c;intro w d a;have e:=Sw.start d;clear d;go_in;go_wp2_with fail;refine aJ (im e h (by omega)) fun p f=>?_;go_wp2_with fail;refine(iB f c a).mono ?_;rintro l s ⟨o,p2,rfl,g⟩;go_wp2_with fail;go_ret;exact⟨_,rfl,g⟩
theorem ana(c:(E.tk i).k=18)(o:i<E.n)(l:CN E 216 #[pV E,B2 (ew 18 (E.tk i))] (i+1) R j):CN E 238 #[pV E] i (R) (j):=by
 intro w a h;have d:=Sw.start a;clear a;go_in;go_wp2_with fail;refine aJ (im d c (by omega)) fun s e=>?_;go_wp2_with fail;refine aJ (dx e c (by omega) (by decide)) fun t f=>?_;go_wp2_with fail;refine(iB f l h).mono ?_;rintro m u ⟨q,p,rfl,g⟩;go_wp2_with fail;go_ret;exact⟨_,rfl,g⟩
theorem anb{m:Nat}(C:(E.tk i).k=42)(bE:i<E.n)(a8:Es E (CN E 264 #[pV E]) m (i+1) Ex j)(bl:(E.tk j).k=43)(b0:j+1<E.n):CN E 255 #[pV E] i (one (fp 35 (E.tk i) (E.tk j).t) Ex) (j+1):=by
 intro w a6 bn;have a3:=Sw.start a6;have a2:=aw a8;simp only[aA]at bn;clear a6 a8;go_in;go_wp2_with fail;refine aJ (dx a3 C (by omega) (by decide)) fun bx a4=>?_;obtain⟨b2,a7,d⟩:=js a4 C;simp only[ew]at a7;have a0:=aw d;go_wp2_with fail;clear a7 a3 a4 d;go_loopg [4] m (fun gk bw wr=>∃(k:Nat) (D G:Fo) (J:Option Addr) (n ad:Nat) (us:List V),bw= A3 J n ad/\A6 (Es E (CN E 264 #[pV E]) gk k G j/\Sw E w wr k (A3 J n ad) us D us [tkB bx.heap.size (E.tk i)] []/\D.app G=Ex))
 case atStart=>exact⟨i+1,.nil,Ex,Q,0,0,[],rfl,a2.out,a0.out,rfl⟩
 case round=>
  clear a0 a2;obtain⟨b1,D,G,J,n,ad,us,rfl,a1⟩:=hrel;obtain⟨bb,an,c⟩:=a1.out;have d:=aw an;have bo:=zt.len _ _ an.nn;clear an a1;cases bb with
  |stop B o=>
   rw[Fo.app_nil]at c;go_wp2_with fail;refine aJ (tw d bl o) fun a9 f=>?_;obtain⟨b3,b4,g,b5,b6,b7⟩:=ma f C;clear bo;go_wp2_with fail;refine aJ (fE f C (by omega) (by omega) 35 _ _ _) fun w4 a=>?_;subst c;go_wp2_with fail;go_ret;exact⟨_,rfl,qi a (fp 35 (E.tk i) (E.tk j).t) rfl rfl rfl rfl⟩
  |@com ar _ k1 _ g l B o ak al am p=>
   have bs:D.sz+(g.sz+l.sz)<=50000000:=by have e:=congrArg Fo.sz c;simp only[Fo.sz_app]at e;omega
   have bh:=D.len_le;have h:=gK c p;clear c p;go_wp2_with fail;refine aJ (uA d B o) fun a9 f=>?_;go_wp2_with fail;refine(iB f ak (by omega)).mono ?_;rintro e w4 ⟨A,z,rfl,a⟩;go_wp2_with (at_builtin;refine gq rfl _ _ rfl rfl (sB a (bg w4 _)).out.ro rfl (kC (base:=w4.heap.size) (e:=102) (size:=1) w4 #[U A z] 1 (ae _) (by unfold B1;omega) rfl) (us:=[U A z]) (by intro bt ap;rw[List.mem_singleton.1 ap];rfl) (by simp only[bv,dd];omega) (by rw[aF];have:=a.out.gr.size;omega) ?_;intro K av af bA u ao s q;have H:=(sB a (bg w4 _)).out.put u s q;clear u ao s q);refine aJ (tw H al am) fun bD I=>?_;have F:=aw I;go_wp2_with fail;go_roundg ar
   case measure=>omega
   case rel=>exact⟨(k1+1),D.app g,l,K,av,af,_,rfl,h.out.2,F.out,by rw[Fo.app_app];exact h.out.1⟩
  |@last ar _ k1 _ g l B o ak al am p=>
   have bs:D.sz+(g.sz+l.sz)<=50000000:=by have e:=congrArg Fo.sz c;simp only[Fo.sz_app]at e;omega
   have bh:=D.len_le;have h:=gK c p;clear c p;go_wp2_with fail;refine aJ (uA d B o) fun a9 f=>?_;go_wp2_with fail;refine(iB f ak (by omega)).mono ?_;rintro e w4 ⟨A,z,rfl,a⟩;go_wp2_with (at_builtin;refine gq rfl _ _ rfl rfl (sB a (bg w4 _)).out.ro rfl (kC (base:=w4.heap.size) (e:=102) (size:=1) w4 #[U A z] 1 (ae _) (by unfold B1;omega) rfl) (us:=[U A z]) (by intro bt ap;rw[List.mem_singleton.1 ap];rfl) (by simp only[bv,dd];omega) (by rw[aF];have:=a.out.gr.size;omega) ?_;intro K av af bA u ao s q;have H:=(sB a (bg w4 _)).out.put u s q;clear u ao s q);refine aJ (uA H al am) fun bD I=>?_;have F:=aw I;go_wp2_with fail;go_roundg ar
   case measure=>omega
   case rel=>exact⟨k1,D.app g,l,K,av,af,_,rfl,h.out.2,F.out,by rw[Fo.app_app];exact h.out.1⟩
theorem alD(u:(E.tk i).k≠48)(s:(E.tk i).k≠44)(g:(E.tk i).k≠6)(H:i<E.n)(A:CN E 183 #[pV E] i x j)(I:i+1<=j)(J:j<=E.n):CN E 264 #[pV E] i (one (fp 40 (E.tk i) (E.tk (j-1)).t) x) (j):=by
 intro w f z;have o:=Sw.start f;clear f;simp only[aA,Fo.sz_app]at z;have C:((E.tk i).k==48)=A2:=by simp[u]
 have B:((E.tk i).k==44)=A2:=by simp[s]
 obtain⟨K,a⟩:=ay ((E.tk i).k);rw[a]at C B g;go_in;go_wp2_with fail;refine aJ (rG o a (by omega) g) fun ao p=>?_;obtain⟨ap,h,c⟩:=js p a;simp only[ew]at h;obtain⟨ad,af,ak,al,am,an⟩:=ma c a;go_wp2_with fail;refine(iB c A (by omega)).mono ?_;rintro F ar ⟨m,l,rfl,d⟩;clear h;obtain⟨a0,a1,a2,a3,a4,a5⟩:=ma d a;obtain⟨w4,G,e⟩:=oL d [U m l] #[U m l] rfl 1 rfl (by decide);obtain⟨a6,a7,a8,a9,bb,bh⟩:=ma e a;go_wp2_with fail;refine aJ (fE e a (by omega) (by omega) 40 _ _ _) fun av q=>?_;go_wp2_with fail;go_ret;exact⟨_,rfl,qi q (fp 40 (E.tk i) (E.tk (j-1)).t) rfl rfl rfl rfl⟩
theorem alE(a:(E.tk i).k=44)(ad:i<E.n)(I:CN E 183 #[pV E] (i+1) x k)(F:(E.tk k).k=45)(G:(E.tk (k+1)).k=47)(al:k+1<E.n)(J:CN E 183 #[pV E] (k+2) y j)(af:i+1<=j)(ak:j<=E.n):CN E 264 #[pV E] i (one (fp 41 (E.tk i) (E.tk (j-1)).t) (x.app y)) (j):=by
 intro w f H;have p:=Sw.start f;clear f;simp only[aA,Fo.sz_app]at H;go_in;go_wp2_with fail;refine aJ (rG p a (by omega) (by decide)) fun a0 q=>?_;obtain⟨a1,g,c⟩:=js q a;simp only[ew]at g;obtain⟨am,an,ao,ap,ar,av⟩:=ma c a;go_wp2_with fail;refine aJ (dx c a (by omega) (by decide)) fun a2 s=>?_;clear g;go_wp2_with fail;refine(iB s I (by omega)).mono ?_;rintro C a3 ⟨m,h,rfl,u⟩;go_wp2_with fail;refine aJ (dx u F (by omega) (by decide)) fun a4 z=>?_;go_wp2_with fail;refine aJ (dx z G (by omega) (by decide)) fun a5 A=>?_;go_wp2_with fail;refine(iB A J (by omega)).mono ?_;rintro C w4 ⟨o,l,rfl,d⟩;obtain⟨a8,a9,bb,bh,bl,bn⟩:=ma d a;obtain⟨a6,K,e⟩:=oL d [U m h,U o l] #[U m h,U o l] rfl 2 rfl (by decide);obtain⟨bo,bs,bt,bw,bx,bA⟩:=ma e a;go_wp2_with fail;refine aJ (fE e a (by omega) (by omega) 41 _ _ _) fun a7 B=>?_;go_wp2_with fail;go_ret;exact⟨_,rfl,qi B (fp 41 (E.tk i) (E.tk (j-1)).t) rfl rfl rfl rfl⟩
theorem aj9(a:(E.tk i).k=48)(z:(E.tk (i+1)).k=1)(A:(E.tk (i+2)).k=47)(J:i+2<E.n)(C:CN E 183 #[pV E] (i+3) x j)(K:i+3<=j)(ad:j<=E.n):CN E 264 #[pV E] i (one (nd 42 (E.tk i) (E.tk (j-1)).t 0 0 (E.tk (i+1)).x []) x) (j):=by
 intro w f B;have m:=Sw.start f;clear f;simp only[aA,Fo.sz_app]at B;have H:=ahG;go_in;go_wp2_with fail;refine aJ (rG m a (by omega) (by decide)) fun ap o=>?_;obtain⟨ar,g,c⟩:=js o a;simp only[ew]at g;obtain⟨af,ak,al,am,an,ao⟩:=ma c a;go_wp2_with fail;refine aJ (dx c a (by omega) (by decide)) fun av p=>?_;clear g;go_wp2_with fail;refine aJ (dx p z (by omega) (by decide)) fun a0 q=>?_;simp only[ew];go_wp2_with fail;refine aJ (dx q A (by omega) (by decide)) fun a1 s=>?_;go_wp2_with fail;refine(iB s C (by omega)).mono ?_;rintro G a2 ⟨l,h,rfl,d⟩;obtain⟨a3,a4,a5,a6,a7,a8⟩:=ma d a;obtain⟨w4,I,e⟩:=oL d [U l h] #[U l h] rfl 1 rfl (by decide);obtain⟨a9,bb,bh,bl,bn,bo⟩:=ma e a;go_wp2_with fail;refine aJ (fE e a (by omega) (by omega) 42 _ _ _) fun F u=>?_;go_wp2_with fail;go_ret;exact⟨_,rfl,wC (nk:=42) (by decide) F.heap.size ▸ qi u (nd 42 (E.tk i) (E.tk (j-1)).t 0 0 (E.tk (i+1)).x []) (Cu (by decide) _ _ _) rfl (by show _=(_++LB _ _ (dF 42)).toArray;rw[show dF 42=3 by decide];rfl) (by show _=uj (dF 42);rw[show dF 42=3 by decide];rfl)⟩
end
section
variable {E : Pe} {i j k k1 : Nat} {x y R Ex : Fo}
theorem zt.top{w:A1}{lo:Nat}{e:Option Nat}{N:Nd}{ks:Fo}{t:A9}{p:V}(h:zt w lo e (one N ks) [U t p]):∃b,t=nH (dF N.k)/\p= A8 (O ⟨b,0,Q⟩)/\w.cell? ⟨b,0,Q⟩=O (Y X N.k):=by
 obtain⟨f,b,g,vn,vk,kv,vs',bk,br,d,⟨_,_,c,_⟩,_⟩:=h;have a:=(po d.1).1;unfold ey at a;cases a;exact⟨b,rfl,rfl,by unfold fy at c;rw[aq _ _ _ _ _ _ c];rfl⟩
theorem alF{N:Nd}{ks:Fo}(a:(E.tk i).k=40)(a8:i<E.n)(A:CN E 183 #[pV E] (i+1) (one N ks) k)(z:(E.tk k).k=41)(a9:i+1<=k)(bb:k+1<E.n):CN E 219 #[pV E] i (jn N ks (E.tk i) (E.tk k).t) (k+1):=by
 intro w C bh;have q:=Sw.start C;clear C;have bl:(one N ks).sz<=(jn N ks (E.tk i) (E.tk k).t).sz:=by unfold jn;split<;>simp only[aA]<;>omega
 rcases(by omega:N.k=34\/N.k=27\/(N.k≠34/\N.k≠27)) with hN|hN|hN
 ·go_in;go_wp2_with fail;refine aJ (dx q a (by omega) (by decide)) fun I g=>?_;obtain⟨J,d,h⟩:=js g a;simp only[ew]at d;go_wp2_with fail;refine(iB h A (by omega)).mono ?_;rintro B K ⟨H,G,rfl,l⟩;clear d;go_wp2_with fail;refine aJ (dx l z (by omega) (by decide)) fun w4 c=>?_;obtain⟨b,rfl,rfl,e⟩:=zt.top (N:=N) (ks:=ks) c.out.nn;have F:=fun w=>Dy (dF N.k) b w;have p:=fun w=>eA b w;have u:=e;rw[hN]at u;generalize o:nH (dF N.k)=f at *;clear o e;obtain⟨am,an,ao,ap,ar,av⟩:=ma c a;obtain⟨ak,ad,m⟩:=oL c [U f (A8 (O ⟨b,0,Q⟩))] #[U f (A8 (O ⟨b,0,Q⟩))] rfl 1 rfl (by decide);obtain⟨a0,a1,a2,a3,a4,a5⟩:=ma m a;go_wp2_with (go_at_call 301;refine dK (p _) ?_);refine aJ (fE m a (by omega) (by omega) 37 _ _ _) fun al s=>?_;go_wp2_with fail;go_ret;refine⟨_,rfl,?_⟩;unfold jn;rw[ab (by omega)];exact qi s (fp 37 (E.tk i) (E.tk k).t) rfl rfl rfl rfl
 ·go_in;go_wp2_with fail;refine aJ (dx q a (by omega) (by decide)) fun I g=>?_;obtain⟨J,d,h⟩:=js g a;simp only[ew]at d;go_wp2_with fail;refine(iB h A (by omega)).mono ?_;rintro B K ⟨H,G,rfl,l⟩;clear d;go_wp2_with fail;refine aJ (dx l z (by omega) (by decide)) fun w4 c=>?_;obtain⟨b,rfl,rfl,e⟩:=zt.top (N:=N) (ks:=ks) c.out.nn;have F:=fun w=>Dy (dF N.k) b w;have p:=fun w=>eA b w;have u:=e;rw[hN]at u;generalize o:nH (dF N.k)=f at *;clear o e;obtain⟨am,an,ao,ap,ar,av⟩:=ma c a;obtain⟨ak,ad,m⟩:=oL c [U f (A8 (O ⟨b,0,Q⟩))] #[U f (A8 (O ⟨b,0,Q⟩))] rfl 1 rfl (by decide);obtain⟨a0,a1,a2,a3,a4,a5⟩:=ma m a;go_wp2_with (go_at_call 301;refine dK (p _) ?_);refine aJ (fE m a (by omega) (by omega) 37 _ _ _) fun al s=>?_;go_wp2_with fail;go_ret;refine⟨_,rfl,?_⟩;unfold jn;rw[ab (by omega)];exact qi s (fp 37 (E.tk i) (E.tk k).t) rfl rfl rfl rfl
 ·go_in;go_wp2_with fail;refine aJ (dx q a (by omega) (by decide)) fun I g=>?_;obtain⟨J,d,h⟩:=js g a;simp only[ew]at d;go_wp2_with fail;refine(iB h A (by omega)).mono ?_;rintro B K ⟨H,G,rfl,l⟩;clear d;go_wp2_with fail;refine aJ (dx l z (by omega) (by decide)) fun w4 c=>?_;obtain⟨b,rfl,rfl,e⟩:=zt.top (N:=N) (ks:=ks) c.out.nn;have F:=fun w=>Dy (dF N.k) b w;have p:=fun w=>eA b w;have a7:(N.k==34)=A2:=by simp[hN.1]
  have a6:(N.k==27)=A2:=by simp[hN.2]
  generalize o:nH (dF N.k)=f at *;clear o;go_wp2_with (first|(go_at_call 301;refine dK (p _) ?_));go_ret;refine⟨_,rfl,?_⟩;unfold jn;rw[aa (by omega)];exact c.out.drop (fun bn af=>by cases af) (.inr rfl)
theorem alG(g:(E.tk i).k=40)(f:(E.tk (i+1)).k=41)(h:i+1<E.n):CR E 221 #[pV E] i (.nil) (i+2):=by
 intro w a l;have c:=Sw.start a;clear a;go_in;go_wp2_with fail;refine aJ (dx c g (by omega) (by decide)) fun m d=>?_;go_wp2_with fail;refine aJ (tw d f (by omega)) fun o e=>?_;go_wp2_with fail;go_ret;exact⟨_,[],rfl,e⟩
theorem anc(m:(E.tk i).k=40)(u:i+1<E.n)(o:(E.tk (i+1)).k≠41)(l:CR E 214 #[pV E,.func (.func 183) #[pV E] #[]] (i+1) Ex k)(h:(E.tk k).k=41)(z:k<E.n):CR E 221 #[pV E] i (Ex) (k+1):=by
 intro w a A;have c:=Sw.start a;clear a;go_in;go_wp2_with fail;refine aJ (dx c m (by omega) (by decide)) fun F d=>?_;go_wp2_with fail;refine aJ (uA d o (by omega)) fun G e=>?_;go_wp2_with fail;refine(yd e l (by omega)).mono ?_;rintro t H ⟨q,C,s,p,rfl,f,B⟩;go_wp2_with fail;refine aJ (dx f h (by omega) (by decide)) fun w4 g=>?_;go_wp2_with fail;go_ret;exact⟨_,p,rfl,g⟩
theorem aik{q:Int}{m:Nat}(a:(E.tk i).k=q)(c4:i<E.n)(cq:(q=1/\CN E 220 #[pV E,Y X 26] i x k)\/(q=40/\CN E 219 #[pV E] i x k))(a6:Ps E (fun i x j=>CN E 183 #[pV E] i x j) (fun i x j=>CR E 214 #[pV E,.func (.func 183) #[pV E] #[]] i x j) (E.tk i) m x k R j):CN E 184 #[pV E] i R j:=by
 intro w b7 c6;have ao:=Sw.start b7;have b4:A6 (Ps E (fun i x j=>CN E 183 #[pV E] i x j) (fun i x j=>CR E 214 #[pV E,.func (.func 183) #[pV E] #[]] i x j) (E.tk i) m x k R j):=a6;have c8:=a6.le;clear b7 a6;rcases cq with⟨rfl,a8⟩|⟨rfl,a8⟩
 case' inl=>
  go_in;go_wp2_with fail;refine aJ (rG ao a (by omega) (by decide)) fun ch F=>?_;obtain⟨ct,af,d⟩:=js F a;simp only[ew]at af;obtain⟨bb,bh,bl,bn,bo,bs⟩:=ma d a;go_wp2_with fail;refine(iB d a8 (by omega)).mono ?_;rintro ap an ⟨cf,ca,rfl,e⟩;clear af;have ar:=aw e;go_wp2_with fail;clear ao F d e bb bh bl bn bo bs
 case' inr=>
  go_in;go_wp2_with fail;refine aJ (rG ao a (by omega) (by decide)) fun ch F=>?_;obtain⟨ct,af,d⟩:=js F a;simp only[ew]at af;obtain⟨bb,bh,bl,bn,bo,bs⟩:=ma d a;go_wp2_with fail;refine(iB d a8 (by omega)).mono ?_;rintro ap an ⟨cf,ca,rfl,e⟩;clear af;have ar:=aw e;go_wp2_with fail;clear ao F d e bb bh bl bn bo bs
 all_goals
  go_loopg [4] m (fun gk cs wr=>∃(k:Nat) (s:Fo) (ce:A9) (b9:V),cs= U ce b9/\A6 (Ps E (fun i x j=>CN E 183 #[pV E] i x j) (fun i x j=>CR E 214 #[pV E,.func (.func 183) #[pV E] #[]] i x j) (E.tk i) gk s k R j/\Sw E w wr k s0 [] s [U ce b9] [tkB ch.heap.size (E.tk i)] []))
  case atStart=>exact⟨k,x,cf,ca,rfl,b4.out,ar.out⟩
  case round=>
   clear ar b4;obtain⟨o,s,l,h,rfl,b3⟩:=hrel;obtain⟨cm,b8⟩:=b3.out;have d:=aw b8;clear b8 b3;cases cm with
   |stop f t=>
    have c1:((E.tk j).k==48)=A2:=by have:=iw t;simp;omega
    have c0:((E.tk j).k==44)=A2:=by have:=iw t;simp;omega
    have cI:((E.tk j).k==40)=A2:=by have:=iw t;simp;omega
    go_wp2_with fail;refine aJ (im d rfl f) fun w4 u=>?_;go_wp2_with fail;go_ret;exact⟨_,rfl,u.out.drop (fun c9 cn=>by cases cn) (.inr rfl)⟩
   |@dot p _ _ _ _ f t K c=>
    have c2:=ahG;have z:A6 (Ps E (fun i x j=>CN E 183 #[pV E] i x j) (fun i x j=>CR E 214 #[pV E,.func (.func 183) #[pV E] #[]] i x j) (E.tk i) p (one (nd 33 (E.tk i) (E.tk (o+1)).t 0 0 (E.tk (o+1)).x []) s) (o+2) _ j):=c;have C:=c.le;simp only[aA,Fo.sz_app]at C;clear c;go_wp2_with fail;refine aJ (im d f (by omega)) fun an e=>?_;go_wp2_with fail;refine aJ (dx e f (by omega) (by decide)) fun w4 u=>?_;go_wp2_with fail;refine aJ (dx u t (by omega) (by decide)) fun bt g=>?_;simp only[ew];obtain⟨bA,bD,bE,b0,b1,b2⟩:=ma g a;obtain⟨cv,a3,G⟩:=oL g [U l h] #[U l h] rfl 1 rfl (by decide);obtain⟨cw,cx,cy,cz,cB,cF⟩:=ma G a;go_wp2_with fail;refine aJ (fE G a (by omega) (by omega) 33 _ _ _) fun bx B=>?_;clear a3;go_wp2_with fail;go_roundg p
    case measure=>omega
    case rel=>
     refine⟨o+2,_,_,_,rfl,z.out,?_⟩;rw[<-wC (nk:=33) (by decide)];exact(zD B (nd 33 (E.tk i) (E.tk (o+1)).t 0 0 (E.tk (o+1)).x []) (Cu (by decide) _ _ _) rfl (by show _=(_++LB _ _ (dF 33)).toArray;rw[show dF 33=3 by decide];rfl) (by show _=uj (dF 33);rw[show dF 33=3 by decide];rfl)).out
   |@sq p _ k1 _ _ J _ f t K a1 b6 c=>
    have z:A6 (Ps E (fun i x j=>CN E 183 #[pV E] i x j) (fun i x j=>CR E 214 #[pV E,.func (.func 183) #[pV E] #[]] i x j) (E.tk i) p (one (fp 32 (E.tk i) (E.tk k1).t) (s.app J)) (k1+1) _ j):=c;have C:=c.le;simp only[aA,Fo.sz_app]at C;clear c;go_wp2_with fail;refine aJ (im d f (by omega)) fun an e=>?_;go_wp2_with fail;refine aJ (dx e f (by omega) (by decide)) fun w4 u=>?_;go_wp2_with fail;refine(iB u K (by omega)).mono ?_;rintro ap bt ⟨cg,cb,rfl,g⟩;go_wp2_with fail;refine aJ (dx g a1 (by omega) (by decide)) fun df b5=>?_;obtain⟨bA,bD,bE,b0,b1,b2⟩:=ma b5 a;obtain⟨cv,a3,G⟩:=oL b5 [U l h,U cg cb] #[U l h,U cg cb] rfl 2 rfl (by decide);obtain⟨cw,cx,cy,cz,cB,cF⟩:=ma G a;go_wp2_with fail;refine aJ (fE G a (by omega) (by omega) 32 _ _ _) fun bx B=>?_;clear a3;go_wp2_with fail;go_roundg p
    case measure=>omega
    case rel=>exact⟨k1+1,_,_,_,rfl,z.out,(zD B (fp 32 (E.tk i) (E.tk k1).t) rfl rfl rfl rfl).out⟩
   |@call0 p _ _ _ _ f t K c=>
    have z:A6 (Ps E (fun i x j=>CN E 183 #[pV E] i x j) (fun i x j=>CR E 214 #[pV E,.func (.func 183) #[pV E] #[]] i x j) (E.tk i) p (one (fp 34 (E.tk i) (E.tk (o+1)).t) s) (o+2) _ j):=c;have C:=c.le;simp only[aA,Fo.sz_app]at C;clear c;go_wp2_with fail;refine aJ (im d f (by omega)) fun an e=>?_;obtain⟨w4,a2,u⟩:=oL e [U l h] #[U l h] rfl 1 rfl (by decide);go_wp2_with fail;clear a2;refine(aff u (alG f t (by omega)) (by decide)).mono ?_;rintro ap bt ⟨ck,cr,cl,am,rfl,g,A⟩;go_wp2_with (at_builtin;refine gq rfl _ _ rfl rfl g.out.ro rfl A.out.1 A.out.2.1 (by have:=A.out.2.2;have:Fo.nil.len=0:=rfl;have:=(.nil:Fo).len_le;show 1+_<=_;omega) (by have:=g.out.gr.size;omega) ?_;intro av a9 a0 bw al a4 ak ad;have I:=g.out.put al ak ad;clear al a4 ak ad;have H:A6 (Sw E w bw (o+2) (A3 av a9 a0) ([U l h]++am) (s.app .nil) ([U l h]++am) _ _):=I;clear I;obtain⟨bA,bD,bE,b0,b1,b2⟩:=ma H a);refine aJ (fE H a (by omega) (by omega) 34 _ _ _) fun bx B=>?_;go_wp2_with fail;go_roundg p
    case measure=>omega
    case rel=>exact⟨(o+2),_,_,_,rfl,z.out,(zD (Fo.app_nil s ▸ B) (fp 34 (E.tk i) (E.tk (o+1)).t) rfl rfl rfl rfl).out⟩
   |@call p _ k1 _ _ J _ f t K a1 b6 c3 c=>
    have z:A6 (Ps E (fun i x j=>CN E 183 #[pV E] i x j) (fun i x j=>CR E 214 #[pV E,.func (.func 183) #[pV E] #[]] i x j) (E.tk i) p (one (fp 34 (E.tk i) (E.tk k1).t) (s.app J)) (k1+1) _ j):=c;have C:=c.le;simp only[aA,Fo.sz_app]at C;clear c;go_wp2_with fail;refine aJ (im d f (by omega)) fun an e=>?_;obtain⟨w4,a2,u⟩:=oL e [U l h] #[U l h] rfl 1 rfl (by decide);go_wp2_with fail;clear a2;refine(aff u (anc f t K a1 b6 (by omega)) (by omega)).mono ?_;rintro ap bt ⟨ck,cr,cl,am,rfl,g,A⟩;go_wp2_with (at_builtin;refine gq rfl _ _ rfl rfl g.out.ro rfl A.out.1 A.out.2.1 (by have:=A.out.2.2;have:Fo.nil.len=0:=rfl;have:=(J:Fo).len_le;show 1+_<=_;omega) (by have:=g.out.gr.size;omega) ?_;intro av a9 a0 bw al a4 ak ad;have I:=g.out.put al ak ad;clear al a4 ak ad;have H:A6 (Sw E w bw (k1+1) (A3 av a9 a0) ([U l h]++am) (s.app J) ([U l h]++am) _ _):=I;clear I;obtain⟨bA,bD,bE,b0,b1,b2⟩:=ma H a);refine aJ (fE H a (by omega) (by omega) 34 _ _ _) fun bx B=>?_;go_wp2_with fail;go_roundg p
    case measure=>omega
    case rel=>exact⟨(k1+1),_,_,_,rfl,z.out,(zD B (fp 34 (E.tk i) (E.tk k1).t) rfl rfl rfl rfl).out⟩
end
section
variable {E : Pe} {i j k k1 : Nat} {x y R Ex : Fo}
abbrev za(vn:V)(r:Bool):Array V:=#[Y X 0,Y X 0,Y X 0,Y X 0,Y X 0,A3 Q 0 0,vn,B3 r]
theorem Sw.setL{W w:A1}{b q:Nat}{cs:Array V}{u:V}{T:Bxs}{M:List (V×List ByteArray)}(h:Sw E W w i s0 [] .nil [] ((b,224,cs)::T) M)(B:∀p∈T,p.2.1≠224):Sw E W (w.setCell ⟨b,q,Q⟩ u) i s0 [] .nil [] ((b,224,cs.setIfInBounds q u)::T) M:=by
 obtain⟨f,m,l⟩:=h.tb _ (bK ..);have a:∀{k:Nat}{cs:Array V}{e:A9}{c:Nat×Nat},w.heap[k]?=O (A5 cs e c)->e≠224->(w.setCell ⟨b,q,Q⟩ u).heap[k]?=O (A5 cs e c):=fun {k cs e c} d I=>by
  rw[aD _ _ _ _ (fun a=>by rw[a]at d;have:=l.symm.trans d;simp only[dr,gE]at this;exact I this.2.1.symm)];exact d
 obtain⟨o,c,af,ak⟩:=h.pp.tks;obtain⟨an,t,al⟩:=h.pp.pw;have G:=h.lt;have H:=h.pp.pg;refine⟨⟨h.pp.hn,⟨o,c,a af (by decide),ak⟩,a h.pp.row (by decide),H,an,t,(aD _ _ _ _ (show 4≠b from fun x=>by simp only at f;omega)).trans al⟩,?_,G,bc _ _ _ _,⟨[],⟨rfl,rfl⟩,by obtain⟨ao,K,ad⟩:=h.nb;obtain⟨_,rfl⟩:=K;exact ad⟩,fun p hp=>?_,fun p hp=>?_⟩
 ·exact h.gr.andThen (pC (sA w _) q u) (fun k d=> .inl (by cases d;exact f))
 ·rcases List.mem_cons.1 hp with rfl|hp
  ·exact⟨f,m,bi _ b q _ _ _ l⟩
  ·exact⟨(h.tb p (dC _ hp)).1,(h.tb p (dC _ hp)).2.1,a (h.tb p (dC _ hp)).2.2 (B p hp)⟩
 ·obtain⟨A,g⟩:=h.nm p hp;refine⟨A,?_⟩;rcases g with g|⟨z,n,s,J,F,C,am⟩
  ·exact .inl g
  ·exact .inr ⟨z,n,s,J,F,a C (by decide),am⟩
theorem acb{w:A1}{b:Nat}{vn:V}{r:Bool}(h:w.heap[b]?=O (A5 (za vn r) 224 (0,0))):w.cell? ⟨b,6,Q⟩=O vn/\w.cell? ⟨b,7,Q⟩=O (B3 r)/\∀j,w.frozen? ⟨b,j,Q⟩=A2:=⟨by rw[aq _ _ _ _ _ _ h];rfl,by rw[aq _ _ _ _ _ _ h];rfl,fun j=>cC _ _ _ _ _ h⟩
theorem sLC{W w:A1}{b:Nat}{vn:V}{r:Bool}{T:Bxs}{M:List (V×List ByteArray)}(S:A6 (Sw E W w i s0 [] .nil [] ((b,224,za vn r)::T) M)):w.cell? ⟨b,6,Q⟩=O vn/\w.cell? ⟨b,7,Q⟩=O (B3 r)/\∀j,w.frozen? ⟨b,j,Q⟩=A2:=acb (S.out.tb _ (bK ..)).2.2
end
section
variable {E : Pe} {i j k k1 : Nat} {x y R Ex : Fo}
theorem Sw.lam{W w o w4:A1}{b:Nat}{s:Tk}{v vn kv:V}{G:List ByteArray}{r:Bool}{T:Bxs}{M:List (V×List ByteArray)}(h:Sw E W w i s0 [] .nil [] ((b,224,za vn r)::T) ((vn,G)::M))(m:Sw E w o j kv [v] R [v] [] []){e:Int}(ad:w4.heap[b]?=O (A5 #[Y X 36,Y X s.f,Y X e,Y X s.l,Y X 0,kv,vn,B3 r] 224 (0,0)))(A:o.grownBy w4 (O b)):Sw E W w4 j s0 [] (one (nd 36 s e (opR r) 0 z0 G) R) [U 222 (A8 (O ⟨b,0,Q⟩))] [] []:=by
 obtain⟨u,ao,z⟩:=h.tb _ (bK ..);have af:=ah z;simp only at u af;have al:=h.lt;have a0:=h.gr.size;have C:∀k,k<o.heap.size->k≠b->w4.heap[k]?=o.heap[k]?:=fun k p g=>A.block k p (fun e=>g (by cases e;rfl));have av:=m.gr.size;obtain⟨H,J,am⟩:=m.nb;refine⟨m.pp.other (by omega) (fun e=>?_) (by omega) A,(h.gr.trans m.gr).andThen A (fun k ak=> .inl (by cases ak;exact u)),al,bc _ _ _ _,⟨_,⟨b,0,vn,kv,[v],[],H,[],⟨rfl,rfl⟩,⟨u,by simp[Z],?_,?_⟩,⟨?_,fun d _=>by simp[Z]⟩,⟨?_,fun d _=>by simp[Z]⟩,?_,rfl,rfl⟩,?_⟩,fun an B=>(by cases B),fun an B=>(by cases B)⟩
 ·obtain⟨ap,ar,F,_⟩:=h.pp.tks;rw[<-e,z]at F;simp only[dr,gE]at F;exact absurd F.2.1 (by decide)
 ·unfold fy;rw[ad];cases r<;>rfl
 ·cases r<;>rfl
 ·have t:=h.nm _ (bK ..);refine mE (w:=w) t (fun d I p g=>⟨?_,p⟩);rw[C d (by omega) (fun e=>gA t z (show 224≠9 by decide) (by rw[<-e];exact I))];exact m.gr.block d g (fun e=>by cases e;omega)
 ·exact mE (w:=o) m.ro (fun d I p g=>⟨C d g (by omega),by omega⟩)
 ·exact rC.mono (w:=o) (fun k p g K=>⟨C k K (by omega),by omega,by simp[Z]⟩) _ _ _ J
 ·rw[show mB []=[] from rfl,da,da];have t:=h.nm _ (bK ..);have:=nd3 (a:=vn.ownBlock.toList) (b:=H) (c:=[]) (n:=w.heap.size) (by rw[da];exact Fq _) (by simpa [mB] using am) (fun x q=>by rw[da]at q;exact(t.lt x (by simpa using q)).2) (fun x q=>(J.lt _ _ _ x q).1);rw[da]at this;exact this
theorem alH{s:Tk}{q:Int}{al:List ByteArray}{r:Bool}(b0:s.k=q)(cI:(E.tk i).k=40)(cF:i+1<E.n)(ct:Prm E.tk E.n (i+1) al r k)(c2:CN E 185 #[pV E] k x j)(a2:k+1<=j)(c9:j<=E.n):CN E 216 #[pV E,.agg (ew q s)] i (one (nd 36 s (E.tk (j-1)).t (opR r) 0 z0 al) x) j:=by
 intro w ao c0;have cf:=Sw.start ao;have ce:=aw ct;have dq:=ao.hn;have c8:=ahG;simp only[aA]at c0;clear ao ct;obtain⟨d0,cr,cg⟩:=js cf b0;simp only[ew]at cr;go_in;go_wp2_with fail;refine aJ (dx cg cI (by omega) (by decide)) fun d ch=>?_;clear cr;have ca:A6 (Sw E w (d.alloc (.cells (za s0 A2) 224)) (i+1) s0 [] .nil [] [(d.heap.size,224,za (s0) A2),tkB w.heap.size s] [(s0,[])]):=by
  have ap:=ch.out.boxg (za s0 A2) 224 (by decide) (by decide);exact⟨ap.pp,ap.gr,ap.lt,ap.ro,⟨[],⟨rfl,rfl⟩,by simp[mB,Z]⟩,ap.tb,fun b7 a0=>by obtain rfl:=List.mem_singleton.1 a0;exact bc _ _ _ _⟩
 go_wp2_with fail;clear cf cg ch;go_loopg [13] (E.n-(i+1)) (fun gk dz wr=>∃(c:Nat) (D bo:List ByteArray) (u bb:Bool) (m:Option Addr) (n o:Nat),gk=E.n-c/\D.length=n/\n<=c/\c<E.n/\A6 (Prm E.tk E.n c bo bb k/\Sw E w wr c s0 [] .nil [] [(d.heap.size,224,za (.slice m n o) u),tkB w.heap.size s] [(.slice m n o,D)]/\D++bo=al/\(u||bb)=r))
 case atStart=>exact⟨i+1,[],al,A2,r,Q,0,0,rfl,rfl,by omega,cF,ce.out,ca.out,rfl,by simp⟩
 case round=>
  clear ca ce;obtain⟨c,D,bo,u,bb,m,n,o,rfl,ar,dn,dk,cb⟩:=hrel;obtain⟨ap,cq,af,ak⟩:=cb.out;have bh:=aw cq;clear cq cb;cases ap with
  |close p ad=>
   rw[da]at af;rw[xh]at ak;subst af ak;go_wp2_with fail;refine aJ (tw bh p (by omega)) fun w4 z=>?_;go_wp2_with fail;refine(c2 _ z.out.pp (by omega)).mono ?_;rintro e H ⟨ds,rfl,h⟩;obtain⟨b9,b8,rfl⟩:=zt.form h.out.nn;have bs:=z.out.step h.out.gr h.out.pp;obtain⟨d1,cs,A⟩:=oL h [.iface b9 b8] #[.iface b9 b8] rfl 1 rfl (by decide);have ck:=sB bs (bg H (.cells #[.iface b9 b8] 102));rw[cs]at ck;obtain⟨d2,d3,d4,d5,d8,d9⟩:=ma (sT (b:=(d.heap.size,224,za (.slice m n o) u)) bs) b0;go_wp2_with fail;clear cs;refine aJ (fE A b0 (by omega) (by omega) 36 _ _ _) fun l B=>?_;have cl:=z.out.step B.out.gr B.out.pp;have J:=(cl.tb _ (bK ..)).2.2;have ea:l.cell? ⟨d.heap.size,0,Q⟩=O (.int .i64 0):=by rw[aq _ _ _ _ _ _ J];rfl
   have eb:l.cell? ⟨d.heap.size,1,Q⟩=O (.int .i64 0):=by rw[aq _ _ _ _ _ _ J];rfl
   have ec:l.cell? ⟨d.heap.size,2,Q⟩=O (.int .i64 0):=by rw[aq _ _ _ _ _ _ J];rfl
   have ed:l.cell? ⟨d.heap.size,3,Q⟩=O (.int .i64 0):=by rw[aq _ _ _ _ _ _ J];rfl
   have ef:l.cell? ⟨d.heap.size,4,Q⟩=O (.int .i64 0):=by rw[aq _ _ _ _ _ _ J];rfl
   have eg:l.cell? ⟨d.heap.size,5,Q⟩=O (.slice Q 0 0):=by rw[aq _ _ _ _ _ _ J];rfl
   have eh:∀j,l.frozen? ⟨d.heap.size,j,Q⟩=A2:=fun j=>cC _ _ _ _ _ J;have cB:=aw J;clear J cl bs ck;go_wp2_with fail;go_ret;exact⟨_,rfl,z.out.lam (s:=s) (e:=(E.tk (j-1)).t) B.out (bi _ _ 5 _ _ _ (bi _ _ 4 _ _ _ (bi _ _ 3 _ _ _ (bi _ _ 2 _ _ _ (bi _ _ 1 _ _ _ (bi _ _ 0 _ _ _ cB.out)))))) (pC (pC (pC (pC (pC (pC (sA l _) 0 _) 1 _) 2 _) 3 _) 4 _) 5 _)⟩
  |rest p ad cm=>
   have K:A6 (D++[]=al/\(B4||false)=r):=⟨af,by rw[<-ak,Bool.or_true];rfl⟩;clear af ak;go_wp2_with fail;refine aJ (uA bh (by rw[p];decide) (by omega)) fun cx a4=>?_;go_wp2_with fail;refine aJ (tw a4 p (by omega)) fun w4 z=>?_;obtain⟨a3,bl,bn⟩:=sLC z;have h:A6 (Sw E w (w4.setCell ⟨d.heap.size,7,Q⟩ (.bool B4)) (c+1) s0 [] .nil [] [(d.heap.size,224,za (.slice m n o) B4),tkB w.heap.size s] [(.slice m n o,D)]):=z.out.setL (by intro b7 a0;obtain rfl:=List.mem_singleton.1 a0;show 96≠224;decide);go_wp2_with fail;refine aJ (uA h (by rw[ad];decide) (by omega)) fun cy a6=>?_;go_wp2_with fail;go_roundg (E.n-(c+1))
   case measure=>omega
   case rel=>exact⟨c+1,D,[],B4,A2,m,n,o,rfl,ar,by omega,by omega,.close ad (by omega),a6.out,K.out.1,K.out.2⟩
  |last p ad cm=>
   have K:A6 ((D++[(E.tk c).x])++[]=al/\(u||false)=r):=⟨by rw[da];exact af,ak⟩;clear af ak;have c1:n<=50000000:=by omega
   go_wp2_with fail;refine aJ (uA bh (by rw[p];decide) (by omega)) fun cx a4=>?_;go_wp2_with fail;refine aJ (uA a4 (by rw[p];decide) (by omega)) fun w4 z=>?_;go_wp2_with fail;have am:=sB z (cj (ag _ _));obtain⟨a3,bl,bn⟩:=sLC am;refine Bs (S:=fun _=>True) (by kernel_rfl) trivial (fun hS=>?_);simp only[gi,bv,dd,Nat.reduceAdd,gh,gC,gD,de,ej];refine bq 0 (.pointer (O ⟨d.heap.size,0,Q⟩)) rfl rfl (by kernel_rfl) (fun _ _ _=>id) hS (fun w' G=>by go_simp) ?_;simp only[A4];refine bq 1 (.pointer (O ⟨d.heap.size,0,Q⟩)) rfl rfl (by kernel_rfl) (fun _ _ _=>id) hS (fun w' G=>by go_simp) ?_;simp only[A4];refine bq 2 (.pointer (O ⟨d.heap.size,0,Q⟩)) rfl rfl (by kernel_rfl) (fun _ _ _=>id) hS (fun w' G=>by go_simp) ?_;simp only[A4];refine bq 3 (.pointer (O ⟨d.heap.size,6,Q⟩)) rfl rfl (by kernel_rfl) (fun _ _ _=>id) hS (fun w' G=>by go_simp) ?_;simp only[A4];refine bq 5 (.pointer (O ⟨E.pb,0,Q⟩)) rfl rfl (by kernel_rfl) (fun _ _ _=>id) hS (fun w' G=>by go_simp) ?_;simp only[A4];refine qz (S:=fun bt=>bt.cell? ⟨d.heap.size,6,Q⟩=O (.slice m n o)) (C:=fun j=>!(j==9||j==10||j==11||j==12)) (i:=4) (v:= .slice m n o) rfl (wJ (by kernel_rfl)) (fun _ _ _ ao=>ao) ?hC _ _ _ _ (wL rfl (by kernel_rfl)) (List.contains_iff_mem.1 (by kernel_rfl)) (Or.inl ⟨by rfl,fun w' G=>by go_simp⟩) hS a3 ?_
   case hC=>
    intro j c3 a2 g;simp only[Bool.not_eq_false',xd,ix]at g;rcases g with((rfl|rfl)|rfl)|rfl
    ·obtain rfl:=bu a2;exact⟨{on:=4,ground:=Ground.data},by simp,rfl,rfl⟩
    all_goals
     obtain rfl:=bu a2;exact⟨{on:=4,ground:=Ground.phase},by simp,rfl,rfl⟩
   simp only[Act.put,bG,bH,bI];refine du (i:=6) (by kernel_rfl) rfl (fun f a=>?_);go_simp;refine aJ (dx am p (by omega) (by decide)) fun H h=>?_;have an:=(sLC h).1;refine a.out _ _ trivial (fun _=>an) ?_;clear a f;try simp only[bG,bH,bI]
   refine du (i:=7) (by kernel_rfl) rfl (fun f a=>?_);simp only[ew];go_simp;refine a.out _ _ trivial (fun _=>an) ?_;clear a f;try simp only[bG,bH,bI]
   refine du (i:=8) (by kernel_rfl) rfl (fun f a=>?_);go_simp;have A:=sB h (bg H (.cells #[.string (E.tk c).x] 9));have a7:=(sLC A).1;have a1:=A.out.nm _ (bK ..);rw[dc,ar]at a1;refine a.out _ _ trivial (fun _=>a7) ?_;clear a f;try simp only[bG,bH,bI]
   obtain⟨b2,b3,b4,b5,b6⟩:=dt Ci;refine du (i:=9) (by kernel_rfl) rfl (fun f a=>?_);refine step_append_lies _ (by rfl) _ _ 50 (by rfl) w.heap.size 9 b2 _ 1 16 Tryz.underlying50 b3 b4 b5 b6 rfl (by decide) (.slice m n o) n _ (by rfl) a1 ⟨H.heap.size,0,Q⟩ 1 1 [.string (E.tk c).x] (by rfl) rfl (A7 (aj H _)) (by intro c4 b1;rw[List.mem_singleton.1 b1];rfl) (by decide) (by unfold B1;omega) (by omega) (bF h.out.gr.size (bg H _).size) _ rfl ?_;intro I F l a9 a8 bD bE;have B:A6 (Sw E w l (c+1) s0 [] .nil [] [(d.heap.size,224,za (.slice m n o) u),tkB w.heap.size s] [(.slice (O ⟨I,0,Q⟩) (n+1) F,D++[(E.tk c).x])]):=A.out.putN (by rw[dc,aH,ar,ee];exact a9) a8;obtain⟨bw,bx,bA⟩:=sLC B;clear a9 a8 bD bE a1;refine a.out _ _ trivial (fun g=>by cases g) ?_;clear a f;simp only[Act.put,bG,bH,bI];refine du (i:=10) (by kernel_rfl) rfl (fun f a=>?_);go_simp;refine a.out _ _ trivial (fun g=>by cases g) ?_;clear a f;try simp only[bG,bH,bI]
   refine du (i:=11) (by kernel_rfl) rfl (fun f a=>?_);go_simp;refine a.out _ _ trivial (fun g=>by cases g) ?_;clear a f;try simp only[bG,bH,bI]
   refine du (i:=12) (by kernel_rfl) rfl (fun f a=>?_);go_simp;have a5:A6 (Sw E w (l.setCell ⟨d.heap.size,6,Q⟩ (.slice (O ⟨I,0,Q⟩) (n+1) F)) (c+1) s0 [] .nil [] [(d.heap.size,224,za (.slice (O ⟨I,0,Q⟩) (n+1) F) u),tkB w.heap.size s] [(.slice (O ⟨I,0,Q⟩) (n+1) F,D++[(E.tk c).x])]):=B.out.setL (by intro b7 a0;obtain rfl:=List.mem_singleton.1 a0;show 96≠224;decide);refine a.out _ _ trivial (fun g=>by cases g) ?_;clear a f;refine sH (by kernel_rfl) ?_ _;generalize l.setCell _ _=c7 at a5⊢;clear an a7 bw bx bA a3 bl bn B A h am;go_wp2_with fail;refine aJ (uA a5 (by rw[ad];decide) (by omega)) fun cy a6=>?_;go_wp2_with fail;go_roundg (E.n-(c+1))
   case measure=>omega
   case rel=>exact⟨c+1,D++[(E.tk c).x],[],u,A2,_,n+1,F,rfl,by rw[aH,ar];rfl,by omega,by omega,.close ad (by omega),a6.out,K.out.1,K.out.2⟩
  |@go _ _ cw _ p ad cm cn=>
   have K:A6 ((D++[(E.tk c).x])++cw=al/\(u||bb)=r):=⟨by rw[dh];exact af,ak⟩;have cz:=aw cn;clear af ak cn;have c1:n<=50000000:=by omega
   go_wp2_with fail;refine aJ (uA bh (by rw[p];decide) (by omega)) fun cx a4=>?_;go_wp2_with fail;refine aJ (uA a4 (by rw[p];decide) (by omega)) fun w4 z=>?_;go_wp2_with fail;have am:=sB z (cj (ag _ _));obtain⟨a3,bl,bn⟩:=sLC am;refine Bs (S:=fun _=>True) (by kernel_rfl) trivial (fun hS=>?_);simp only[gi,bv,dd,Nat.reduceAdd,gh,gC,gD,de,ej];refine bq 0 (.pointer (O ⟨d.heap.size,0,Q⟩)) rfl rfl (by kernel_rfl) (fun _ _ _=>id) hS (fun w' G=>by go_simp) ?_;simp only[A4];refine bq 1 (.pointer (O ⟨d.heap.size,0,Q⟩)) rfl rfl (by kernel_rfl) (fun _ _ _=>id) hS (fun w' G=>by go_simp) ?_;simp only[A4];refine bq 2 (.pointer (O ⟨d.heap.size,0,Q⟩)) rfl rfl (by kernel_rfl) (fun _ _ _=>id) hS (fun w' G=>by go_simp) ?_;simp only[A4];refine bq 3 (.pointer (O ⟨d.heap.size,6,Q⟩)) rfl rfl (by kernel_rfl) (fun _ _ _=>id) hS (fun w' G=>by go_simp) ?_;simp only[A4];refine bq 5 (.pointer (O ⟨E.pb,0,Q⟩)) rfl rfl (by kernel_rfl) (fun _ _ _=>id) hS (fun w' G=>by go_simp) ?_;simp only[A4];refine qz (S:=fun bt=>bt.cell? ⟨d.heap.size,6,Q⟩=O (.slice m n o)) (C:=fun j=>!(j==9||j==10||j==11||j==12)) (i:=4) (v:= .slice m n o) rfl (wJ (by kernel_rfl)) (fun _ _ _ ao=>ao) ?hC _ _ _ _ (wL rfl (by kernel_rfl)) (List.contains_iff_mem.1 (by kernel_rfl)) (Or.inl ⟨by rfl,fun w' G=>by go_simp⟩) hS a3 ?_
   case hC=>
    intro j c3 a2 g;simp only[Bool.not_eq_false',xd,ix]at g;rcases g with((rfl|rfl)|rfl)|rfl
    ·obtain rfl:=bu a2;exact⟨{on:=4,ground:=Ground.data},by simp,rfl,rfl⟩
    all_goals
     obtain rfl:=bu a2;exact⟨{on:=4,ground:=Ground.phase},by simp,rfl,rfl⟩
   simp only[Act.put,bG,bH,bI];refine du (i:=6) (by kernel_rfl) rfl (fun f a=>?_);go_simp;refine aJ (dx am p (by omega) (by decide)) fun H h=>?_;have an:=(sLC h).1;refine a.out _ _ trivial (fun _=>an) ?_;clear a f;try simp only[bG,bH,bI]
   refine du (i:=7) (by kernel_rfl) rfl (fun f a=>?_);simp only[ew];go_simp;refine a.out _ _ trivial (fun _=>an) ?_;clear a f;try simp only[bG,bH,bI]
   refine du (i:=8) (by kernel_rfl) rfl (fun f a=>?_);go_simp;have A:=sB h (bg H (.cells #[.string (E.tk c).x] 9));have a7:=(sLC A).1;have a1:=A.out.nm _ (bK ..);rw[dc,ar]at a1;refine a.out _ _ trivial (fun _=>a7) ?_;clear a f;try simp only[bG,bH,bI]
   obtain⟨b2,b3,b4,b5,b6⟩:=dt Ci;refine du (i:=9) (by kernel_rfl) rfl (fun f a=>?_);refine step_append_lies _ (by rfl) _ _ 50 (by rfl) w.heap.size 9 b2 _ 1 16 Tryz.underlying50 b3 b4 b5 b6 rfl (by decide) (.slice m n o) n _ (by rfl) a1 ⟨H.heap.size,0,Q⟩ 1 1 [.string (E.tk c).x] (by rfl) rfl (A7 (aj H _)) (by intro c4 b1;rw[List.mem_singleton.1 b1];rfl) (by decide) (by unfold B1;omega) (by omega) (bF h.out.gr.size (bg H _).size) _ rfl ?_;intro I F l a9 a8 bD bE;have B:A6 (Sw E w l (c+1) s0 [] .nil [] [(d.heap.size,224,za (.slice m n o) u),tkB w.heap.size s] [(.slice (O ⟨I,0,Q⟩) (n+1) F,D++[(E.tk c).x])]):=A.out.putN (by rw[dc,aH,ar,ee];exact a9) a8;obtain⟨bw,bx,bA⟩:=sLC B;clear a9 a8 bD bE a1;refine a.out _ _ trivial (fun g=>by cases g) ?_;clear a f;simp only[Act.put,bG,bH,bI];refine du (i:=10) (by kernel_rfl) rfl (fun f a=>?_);go_simp;refine a.out _ _ trivial (fun g=>by cases g) ?_;clear a f;try simp only[bG,bH,bI]
   refine du (i:=11) (by kernel_rfl) rfl (fun f a=>?_);go_simp;refine a.out _ _ trivial (fun g=>by cases g) ?_;clear a f;try simp only[bG,bH,bI]
   refine du (i:=12) (by kernel_rfl) rfl (fun f a=>?_);go_simp;have a5:A6 (Sw E w (l.setCell ⟨d.heap.size,6,Q⟩ (.slice (O ⟨I,0,Q⟩) (n+1) F)) (c+1) s0 [] .nil [] [(d.heap.size,224,za (.slice (O ⟨I,0,Q⟩) (n+1) F) u),tkB w.heap.size s] [(.slice (O ⟨I,0,Q⟩) (n+1) F,D++[(E.tk c).x])]):=B.out.setL (by intro b7 a0;obtain rfl:=List.mem_singleton.1 a0;show 96≠224;decide);refine a.out _ _ trivial (fun g=>by cases g) ?_;clear a f;refine sH (by kernel_rfl) ?_ _;generalize l.setCell _ _=c7 at a5⊢;clear an a7 bw bx bA a3 bl bn B A h am;go_wp2_with fail;refine aJ (tw a5 ad (by omega)) fun cy a6=>?_;go_wp2_with fail;go_roundg (E.n-(c+2))
   case measure=>omega
   case rel=>exact⟨c+2,D++[(E.tk c).x],cw,u,bb,_,n+1,F,rfl,by rw[aH,ar];rfl,by omega,by omega,cz.out,a6.out,K.out.1,K.out.2⟩
end
abbrev CxP(E:Pe)(i:Nat)(x:Fo)(j:Nat):Prop:=CN E 183 #[pV E] i x j
abbrev ClP(E:Pe)(i:Nat)(x:Fo)(j:Nat):Prop:=CR E 214 #[pV E,.func (.func 183) #[pV E] #[]] i x j
def PI(E:Pe):wF->Nat->Fo->Nat->Prop
 | .unit,i,R,j=>CN E 238 #[pV E] i R j
 | .expr p,i,R,j=>CXi E p i R j
 | .more p s x,i,R,j=>∃m,Ms E (CXi E) p s m x i R j
 | .base,i,R,j=>CN E 184 #[pV E] i R j
 | .post s x,i,R,j=>∃m,Ps E (CxP E) (ClP E) s m x i R j
 | .exprs,i,R,j=>ClP E i R j
 | .moreE,i,R,j=>∃m,Ls E (CN E 183 #[pV E]) m i R j
 | .moreB,i,R,j=>∃m,Ls E (CN E 184 #[pV E]) m i R j
 | .stat,i,R,j=>CN E 136 #[pV E] i R j
 | .stats,i,R,j=>∃m,Ss E (CN E 136 #[pV E]) m i R j
 | .block,i,R,j=>CN E 185 #[pV E] i R j
 | .body s,i,R,j=>CN E 216 #[pV E,B2 (ew s.k s)] i R j
 | .entry,i,R,j=>CN E 264 #[pV E] i R j
 | .entries,i,R,j=>∃m,Es E (CN E 264 #[pV E]) m i R j
 | .branch,i,R,j=>CN E 176 #[pV E] i R j
theorem ahH{k:Int}(h:ld k=B4):k=25\/k=50\/k=62\/k=69:=by
 have:=aC h;omega
theorem Cv{E:Pe}{f:FuncId}{i k:Nat}{x:Fo}(c:∀(args:Array V) (w:A1),(callFunc f args).run B0 w= .ok (.enter f args) w)(e:CN E f #[pV E] i x k)(h:(E.tk k).k≠46)(d:k<E.n):CR E 214 #[pV E,.func (.func f) #[pV E] #[]] i x k:=by
 have a:=aaD c e (Ls.stop h d);rw[Fo.app_nil]at a;exact a
theorem afh{E:Pe}(G:∀q,(E.tk q).k<=78){t:wF}{i j:Nat}{R:Fo}(h:P E.tk E.n t i R j):PI E t i R j:=by
 induction h with
 |upre a c e d=>
  have:=e.pos;simp only[eK]at this;rcases ahH a with h|h|h|h
  ·rw[h];exact qG h c (by decide) (aaE (by decide) h c d (by omega) (by omega))
  ·rw[h];exact qG h c (by decide) (aaE (by decide) h c d (by omega) (by omega))
  ·rw[h];exact qG h c (by decide) (aaE (by decide) h c d (by omega) (by omega))
  ·rw[h];exact qG h c (by decide) (aaE (by decide) h c d (by omega) (by omega))
 |uint a c=>exact am9 c a
 |uflt a c=>exact qG a (by omega) (by decide) (afg c (by decide) (by decide) a)
 |ustr a c=>exact qG a (by omega) (by decide) (afg c (by decide) (by decide) a)
 |unil a c=>exact qG a (by omega) (by decide) (Ea c (by decide) (by decide) a)
 |utru a c=>exact qG a (by omega) (by decide) (Ea c (by decide) (by decide) a)
 |ufls a c=>exact qG a (by omega) (by decide) (Ea c (by decide) (by decide) a)
 |urst a c=>exact qG a (by omega) (by decide) (Ea c (by decide) (by decide) a)
 |@ufn i j R a c e d=>exact ana a c (by have q:CN E 216 #[pV E,B2 (ew (E.tk i).k (E.tk i))] (i+1) R j:=d;rw[a]at q;exact q)
 |utab a c e f g d=>obtain⟨o,d⟩:=d;exact qG a c (by decide) (anb a c d f g)
 |ubas a c e d=>
  rcases a with h|h
  ·exact qG h c (by decide) d
  ·exact qG h c (by decide) d
 |ex a c e f m p=>obtain⟨o,d⟩:=p;exact aj8 a c G m d
 |mstop a c=>exact⟨0,.stop a c⟩
 |mgo a c e f g p C=>obtain⟨o,d⟩:=C;have:=f.pos;simp only[eK]at this;exact⟨o+1,.go a c e p (by omega) (by omega) d⟩
 |bname a c e d=>obtain⟨o,d⟩:=d;have:=e.pos;simp only[eK]at this;exact aik a c (.inl ⟨rfl,afg (by omega) (by decide) (by decide) a⟩) d
 |bopen a c e f g l m u=>obtain⟨o,d⟩:=u;have:=e.pos;have:=l.pos;simp only[eK]at *;exact aik a c (.inr ⟨rfl,alF a c (pc m) f (by omega) (by omega)⟩) d
 |pstop a c=>exact⟨0,.stop a c⟩
 |pdot a c e f d=>obtain⟨o,d⟩:=d;have:=f.pos;exact⟨o+1,.dot a c (by omega) d⟩
 |psq a c e f g l m u=>obtain⟨o,d⟩:=u;have:=l.pos;exact⟨o+1,.sq a c (pc m) f (by omega) d⟩
 |pcall0 a c e f d=>obtain⟨o,d⟩:=d;have:=f.pos;exact⟨o+1,.call0 a c (by omega) d⟩
 |pcall a c e f g l s p z=>obtain⟨o,d⟩:=z;have:=s.pos;exact⟨o+1,.call a c e p g (by omega) d⟩
 |es a c I J=>obtain⟨o,d⟩:=J;exact aaD cfE (pc I) d
 |estop a c=>exact⟨0,.stop a c⟩
 |ego a c e f m p=>obtain⟨o,d⟩:=p;exact⟨o+1,.go a c (pc m) d⟩
 |bstop a c=>exact⟨0,.stop a c⟩
 |bgo a c e f m p=>obtain⟨o,d⟩:=p;exact⟨o+1,.go a c m d⟩
 |body a c e f d=>have:=e.pos;have:=f.pos;simp only[eK]at *;exact alH rfl a (by omega) e d (by omega) (by omega)
 |block a c e f g d=>obtain⟨o,d⟩:=d;exact aj6 a c (afe (.inl f) d) f g
 |sstop a c=>exact⟨0,.stop c⟩
 |ssep a c e d=>obtain⟨o,d⟩:=d;exact⟨o+1,.sep a c d⟩
 |sgo a c e f g l C u=>obtain⟨o,d⟩:=u;exact⟨o+1,.go a c e f C d⟩
 |nstop a c=>exact⟨0,.stop a c⟩
 |ncom a c e f g l m u=>obtain⟨o,d⟩:=u;exact⟨o+1,.com a c m f g d⟩
 |nlast a c e f g l m u=>obtain⟨o,d⟩:=u;exact⟨o+1,.last a c m f g d⟩
 |item a c e f g d=>have:=g.pos;simp only[eK]at this;exact alD a c e f (pc d) (by omega) (by omega)
 |pair a c e f g l s m z=>have:=e.pos;have:=s.pos;simp only[eK]at *;exact alE a c (pc m) f g l (pc z) (by omega) (by omega)
 |named a c e f g d=>have:=g.pos;simp only[eK]at this;exact aj9 a c e f (pc d) (by omega) (by omega)
 |belif a c e f g l s m p z=>have:=e.pos;have:=f.pos;have:=s.pos;simp only[eK]at *;exact am7 a rfl c (pc m) p l g z (by omega) (by omega)
 |belse a c e f g l s m p z=>have:=e.pos;have:=f.pos;have:=s.pos;simp only[eK]at *;exact am8 a rfl c (pc m) p l g z (by omega) (by omega)
 |bno a c e f g l s m p=>have:=e.pos;have:=f.pos;simp only[eK]at *;exact am6 a rfl c (pc m) p s g l (by omega)
 |tlet0 a c e f g=>have:=f.pos;exact jI a (by omega) (by decide) (alv a (by omega) (wA e c f) (by omega) (by omega) g)
 |tlet a c e f g l d=>have:=f.pos;have:=l.pos;simp only[eK]at *;exact jI a (by omega) (by decide) (am2 a (by omega) (wA e c f) (by omega) (by omega) g d (by omega) (by omega))
 |tcon a c e f g d=>have:=g.pos;simp only[eK]at *;exact jI a (by omega) (by decide) (aj7 a (by omega) (wA c (by omega) (.stop (by rw[e];decide) (by omega))) (by omega) (by omega) e (pc d) (by omega) (by omega))
 |@tfn i j F a c e f g d=>have:=g.pos;simp only[eK]at *;exact jI a (by omega) (by decide) (fnP a (by omega) (wA c (by omega) (.stop (by rw[e];decide) (by omega))) (by omega) (by omega) (kb:=40) (by decide) e (by have q:CN E 216 #[pV E,B2 (ew (E.tk (i+2)).k (E.tk (i+2)))] (i+2) F j:=d;rw[e]at q;exact q) (by omega) (by omega))
 |tif a c e d=>exact jI a c (by decide) d
 |twhile a c e f m p=>have:=e.pos;have:=f.pos;simp only[eK]at *;exact jI a c (by decide) (aj5 a c (pc m) p (by omega) (by omega))
 |tfor a c e f g l s u z=>have:=f.pos;have:=l.pos;have:=s.pos;simp only[eK]at *;exact jI a (by omega) (by decide) (am5 a (by omega) (wA e c f) (by omega) (by omega) g u z (by omega) (by omega))
 |teach a c e f g l s B H u ad=>have:=f.pos;have:=l.pos;have:=H.pos;simp only[eK]at *;exact jI a (by omega) (by decide) (alz a (by omega) (wA e c f) (by omega) (by omega) g (Cv cfE (pc u) (by rw[s];decide) B) ad (by omega) (by omega))
 |tbreak a c=>exact jI a (by omega) (by decide) (Ea c (by decide) (by decide) a)
 |tnext a c=>exact jI a (by omega) (by decide) (Ea c (by decide) (by decide) a)
 |tret0 a c e=>exact jI a (by omega) (by decide) (aly a c e)
 |tret a c e f d=>have:=f.pos;simp only[eK]at *;exact jI a (by omega) (by decide) (am3 a c (fun A=>by rw[A]at e;revert e;decide) (fun A=>by rw[A]at e;revert e;decide) (fun A=>by rw[A]at e;revert e;decide) d (by omega) (by omega))
 |ttry a c e f g l s B m K=>have:=e.pos;have:=s.pos;have:=B.pos;simp only[eK]at *;exact jI a c (by decide) (am4 a c m f g (wA l g s) K (by omega) (by omega))
 |tthrow a c e d=>have:=e.pos;simp only[eK]at *;exact jI a c (by decide) (aii cfE c (by decide) (by decide) a (pc d) (by omega) (by omega))
 |tdefer a c e d=>have:=e.pos;simp only[eK]at *;exact jI a c (by decide) (aii cfB c (by decide) (by decide) a d (by omega) (by omega))
 |tblock a c e d=>exact jI a c (by decide) d
 |tdo a c e f g l d=>
  have:=e.pos;simp only[eK]at *;rcases a with h|h
  ·exact jI h c (by decide) (doP (.inl rfl) h c (Cv cfB d f l) g l (by omega))
  ·exact jI h c (by decide) (doP (.inr rfl) h c (Cv cfB d f l) g l (by omega))
 |tset a c e f g l s m p z=>
  obtain⟨o,p⟩:=p;have:=e.pos;have:=f.pos;have:=s.pos;simp only[eK]at *;rcases a with h|h
  ·exact jI h c (by decide) (setP (.inl rfl) h c (aaD cfB m p) g l z (by omega) (by omega))
  ·exact jI h c (by decide) (setP (.inr rfl) h c (aaD cfB m p) g l z (by omega) (by omega))
theorem ane(c d a e f g:V)(w:A1):(Instr.field 96 (B2 #[c,d,a,e,f,g]) 2).run B0 w= .ok a w:=by kernel_rfl
theorem alI{E:Pe}{i j:Nat}{R:Fo}(hS:CR E 76 #[pV E] i R j)(h:j<E.n):CN E 40 #[pV E] i (one ⟨1,0,(E.tk j).t,1,0,0,z0,[],[]⟩ R) j:=by
 intro w c l;have d:=Sw.start c;have p:=ane;simp only[aA]at l;clear c;go_in;go_wp2_with fail;refine(yd d hS (by omega)).mono ?_;rintro g A ⟨m,u,o,z,rfl,a,q⟩;go_wp2_with fail;refine(afd a.out.pp h).mono ?_;rintro g w4 ⟨⟨s,_,rfl⟩,f⟩;have e:=sB a f;go_wp2_with fail;go_ret;exact⟨_,rfl,qi e ⟨1,0,(E.tk j).t,1,0,0,z0,[],[]⟩ rfl rfl rfl rfl⟩
structure Fm (lo:Nat) (lb:Option Nat) (w w':A1):Prop where
 bl:Below lo w w'
 at_:∀k cs t fr,w.heap[k]?=O (.cells cs t fr)->lb≠O k->w'.heap[k]?=O (.cells cs t fr)\/∃c u,t=uj c/\w'.heap[k]?=O (.cells (cs.setIfInBounds 4 (.int .i64 u)) t fr)
theorem Fm.refl(lo:Nat)(lb:Option Nat)(w:A1):Fm lo lb w w:=⟨ag _ _,fun k c e d a _=> .inl a⟩
theorem anf(cs:Array V)(u v:V):(cs.setIfInBounds 4 u).setIfInBounds 4 v=cs.setIfInBounds 4 v:=by simp
theorem Fm.trans{lo:Nat}{lb d:Option Nat}{x y z:A1}(h:Fm lo lb x y)(k:Fm lo d y z)(s:∀g,d=O g->lb=O g\/x.heap.size<=g):Fm lo lb x z:=by
 refine⟨h.bl.trans k.bl,fun a p t q l m=>?_⟩;have n:d≠O a:=fun e=>by
  rcases s a e with e|e
  ·exact m e
  ·have:=ah l;omega
 rcases h.at_ a p t q l m with g|⟨f,u,o,g⟩
 ·exact k.at_ a _ _ _ g n
 ·rcases k.at_ a _ _ _ g n with c|⟨B,A,C,c⟩
  ·exact .inr ⟨f,u,o,c⟩
  ·rw[anf]at c;exact .inr ⟨f,A,o,c⟩
theorem Fm.of_below{lo:Nat}{w w':A1}(b:Below w.heap.size w w')(c:lo<=w.heap.size)(lb:Option Nat):Fm lo lb w w':=⟨b.mono c,fun k d f e a _=> .inl ((b.block _ (ah a)).trans a)⟩
theorem fG{c:Nat}:uj c≠9/\uj c≠102/\uj c≠3/\uj c≠53:=by
 match c with
 |0=>decide
 |1=>decide
 |2=>decide
 |3=>decide
 |4=>decide
 |5=>decide
 |n+6=>exact⟨show 163≠9 by decide,show 163≠102 by decide,show 163≠3 by decide,show 163≠53 by decide⟩
section
variable {lo : Nat} {lb : Option Nat} {w w' : World}
theorem Fm.blk(h:Fm lo lb w w'){k:Nat}{cs:Array V}{t:A9}{fr:Nat×Nat}(e:w.heap[k]?=O (A5 cs t fr))(f:lb≠O k)(g:∀c,t≠uj c):w'.heap[k]?=O (A5 cs t fr):=by
 rcases h.at_ k cs t fr e f with a|⟨c,l,d,_⟩
 ·exact a
 ·exact absurd d (g c)
theorem Fm.row(h:Fm lo lb w w'){d e size n:Nat}{v:V}{f:List V}(o:w.ownsRow d e size v n f)(t:∀g,v.ownBlock=O g->lb≠O g)(u:∀c,e≠uj c):w'.ownsRow d e size v n f:=by
 obtain⟨p,a⟩:=o;refine⟨p,?_⟩;rcases a with a|⟨g,l,m,rfl,s,q,z⟩
 ·exact .inl a
 ·exact .inr ⟨g,l,m,rfl,s,h.blk q (t g rfl) u,z⟩
theorem Fm.box(h:Fm lo lb w w'){b:Nat}{N:Nd}{vn vk:V}{d:Int}(c:fy w b N vn d vk)(e:lb≠O b):∃f,fy w' b N vn f vk:=by
 unfold fy at c;rcases h.at_ b _ _ _ c e with a|⟨l,g,_,a⟩
 ·exact⟨d,a⟩
 ·exact⟨g,a⟩
theorem Fm.nodes(h:Fm lo lb w w')(n:∀g,lb=O g->∃cs t fr,w.heap[g]?=O (A5 cs t fr)/\t≠9/\t≠102/\∀c,t≠uj c):∀(R:Fo)(m:List V)(f:List Nat){d:Nat}{a:Option Nat},rC w d a R m f->rC w' d a R m f
 | .nil,m,f,d,a,q=>q
 | .cons N k r,m,f,d,a,⟨b,av,vn,vk,kv,vs',bk,br,e,⟨A,B,p,C⟩,af,k1,al,am⟩=>by
  have s:∀{g:Nat}{cs:Array V}{t:A9}{fr:Nat×Nat},w.heap[g]?=O (A5 cs t fr)->(t=9\/t=102\/∃c,t=uj c)->lb≠O g:=fun {g cs t fr} l ht e=>by
   obtain⟨ao,a0,ar,q,H,I,J⟩:=n _ e;rw[l]at q;simp only[dr,gE]at q;obtain⟨_,rfl,_⟩:=q;rcases ht with ht|ht|⟨c,ht⟩
   ·exact H ht
   ·exact I ht
   ·exact J c ht
  have u:∀{t:A9}{v:V}{z:List V},Rv w d a t v z->(t=9\/t=102)->(∀c,t≠uj c)->Rv w' d a t v z:=fun o ht ad=>⟨h.row o.1 (fun g l=>by
   rcases o.1.2 with⟨rfl,_⟩|⟨G,an,ap,rfl,_,K,_⟩
   ·simp[Z]at l
   ·obtain rfl:G=g:=by simpa [Z] using l
    exact s K (by rcases ht with ht|ht;exact .inl ht;exact .inr (.inl ht))) ad,o.2⟩
  obtain⟨ak,F⟩:=h.box p (s p (.inr (.inr ⟨_,rfl⟩)));exact⟨b,ak,vn,vk,kv,vs',bk,br,e,⟨A,B,F,C⟩,u af (.inl rfl) (fun c=>fG.1.symm),u k1 (.inr rfl) (fun c=>fG.2.1.symm),Fm.nodes h n k kv bk al,Fm.nodes h n r vs' br am⟩
theorem Fm.num{b:Nat}{N:Nd}{vn vk:V}{g:Int}(a:fy w b N vn g vk)(h:lo<=b)(u:Int)(lb:Option Nat):Fm lo lb w (w.setCell ⟨b,4,Q⟩ (Y X u))/\fy (w.setCell ⟨b,4,Q⟩ (Y X u)) b N vn u vk:=by
 unfold fy at a⊢;have d:(w.setCell ⟨b,4,Q⟩ (Y X u)).heap[b]?=O (A5 (([Y X N.k,Y X N.f,Y X N.t,Y X N.l,Y X g,vk]++LB N vn (dF N.k)).toArray.setIfInBounds 4 (Y X u)) (uj (dF N.k)) (0,0)):=bi _ b 4 _ _ _ a;refine⟨⟨(ag _ w).setCell h _,fun k m o n c _=>?_⟩,d⟩;by_cases e:k=b
 ·subst e;rw[a]at c;cases c;exact .inr ⟨_,u,rfl,d⟩
 ·exact .inl ((aD _ _ _ _ e).trans c)
end
def LP(lo:Nat)(N:Nd)(ks:Fo)(w:A1)(v:V)(d:List Nat)(L:List Mb)(lv:V)(e:Ending)(w':A1):Prop:=∃c M,e= .returned c/\Lw w' lo c (L++M)/\M.map Mb.N=(one N ks).flat L.length/\(∀y,(M.flatMap fun x=>x.vn.ownBlock.toList).count y<=d.count y)/\((∀x∈M,Fr w.heap.size x.vk)/\(M.flatMap fun x=>x.vk.ownBlock.toList).Nodup)/\Fm lo lv.ownBlock w w'/\(∀a,c.ownBlock=O a->lv.ownBlock=O a\/w.heap.size<=a)/\∃b f,v= U f (A8 (O ⟨b,0,Q⟩))/\w'.cell? ⟨b,4,Q⟩=O (Y X ((L.length+ks.sz:Nat):Int))
def LC(lo:Nat)(N:Nd)(ks:Fo):Prop:=∀(w:A1)(v:V)(a:List Nat)(L:List Mb)(lv:V),rC w lo Q (one N ks) [v] a->Lw w lo lv L->lo<=w.heap.size->L.length+(one N ks).sz<=50000000->
 C2 B0 39 #[v,lv] w (LP lo N ks w v a L lv)
def LCs(lo:Nat):Fo->Prop
 | .nil=>True
 | .cons N k r=>LC lo N k/\LCs lo r
def kB(M:List Mb):List Nat:=M.flatMap fun x=>x.vk.ownBlock.toList
def nB'(M:List Mb):List Nat:=M.flatMap fun x=>x.vn.ownBlock.toList
structure Lj (lo:Nat) (w wr:A1) (N:Nd) (b rb:Nat) (vn vk lv lv1:V) (L M:List Mb) (ks D R':Fo) (kv us vs':List V) (bk bd br:List Nat) (tp:List Int) (ac:Option Addr) (nc cc:Nat):Prop where
 e1:D.app R'=ks
 e2:us++vs'=kv
 ln:us.length=D.len
 lc:LCs lo R'
 nr:rC wr lo Q R' vs' br
 pb:(bd++br).Perm bk
 lw:Lw wr lo lv1 (L++M)
 mf:M.map Mb.N=D.flat L.length
 mp:∀y,(nB' M).count y<=bd.count y
 mr:∀x∈M,Fr w.heap.size x.vk
 fm:Fm lo lv.ownBlock w wr
 lb:∀g,lv1.ownBlock=O g->lv.ownBlock=O g\/w.heap.size<=g
 rb:w.heap.size<=rb/\lv1.ownBlock≠O rb/\wr.heap[rb]?=O (.cells (dy N (sa vn (dF N.k)) (.slice ac nc cc)) 53 (0,0))
 kr:wr.ownsRow w.heap.size 3 1 (.slice ac nc cc) nc (tp.map (D1 .i64))
 kd:(kB M++(Ax ac nc cc).ownBlock.toList).Nodup
 bx:∃num,fy wr b N vn num vk
 vr:wr.ownsRow lo 102 1 vk kv.length kv
 lq:∀x∈L,∀g,x.vk.ownBlock=O g->g<w.heap.size
 nw:wr.ownsRow lo 9 1 vn (N.nm.map A0).length (N.nm.map A0)
section
variable {lo : Nat} {w wr w4 : World} {N N' : Nd} {b rb : Nat} {vn vk lv lv1 lv2 v : Value} {L M M2 : List Mb} {ks D k' r : Fo} {kv us vs' : List Value} {bk bd br : List Nat} {tp : List Int} {ac : Option Addr} {nc cc : Nat}
theorem aka(M M2:List Mb):kB (M++M2)=kB M++kB M2:=xa
theorem akb(M M2:List Mb):nB' (M++M2)=nB' M++nB' M2:=xa
theorem oc{w:A1}{base e size n g:Nat}{v:V}{f:List V}(o:w.ownsRow base e size v n f)(a:v.ownBlock=O g):∃cs fr,w.heap[g]?=O (A5 cs e fr):=by
 rcases o.2 with⟨rfl,_⟩|⟨c,h,l,rfl,_,d,_⟩
 ·simp[Z]at a
 ·obtain rfl:c=g:=by simpa [Z] using a
  exact⟨_,_,d⟩
theorem Lj.kid(h:Lj lo w wr N b rb vn vk lv lv1 L M ks D (.cons N' k' r) kv us (v::vs') bk bd br tp ac nc cc)(o:Fm lo lv1.ownBlock wr w4)(an:Lw w4 lo lv2 ((L++M)++M2))(ao:M2.map Mb.N=(one N' k').flat (L++M).length){p:List Nat}(ak:∃d,br=p++d/\rC wr lo Q r vs' d)(ar:∀y,(nB' M2).count y<=p.count y)(u:∀x∈M2,Fr wr.heap.size x.vk)(J:(kB M2).Nodup)(t:∀g,lv2.ownBlock=O g->lv1.ownBlock=O g\/wr.heap.size<=g):∃d,Lj lo w w4 N b rb vn vk lv lv2 L (M++M2) ks (D.app (one N' k')) r kv (us++[v]) vs' bk (bd++p) d tp ac nc cc:=by
 obtain⟨d,rfl,ap⟩:=ak;have am:=h.fm.bl.size;have A:∀g,lv1.ownBlock=O g->∃l m,wr.heap[g]?=O (A5 l 53 m):=fun g a=>oc h.lw.row a;have C:∀{g:Nat}{l:Array V}{G:A9}{m:Nat×Nat},wr.heap[g]?=O (A5 l G m)->G≠53->lv1.ownBlock≠O g:=fun a al e=>by
  obtain⟨av,a0,c⟩:=A _ e;rw[a]at c;simp only[dr,gE]at c;exact al c.2.1
 have s:∀{B e size n:Nat}{H:V}{I:List V},wr.ownsRow B e size H n I->e≠53->(∀f,e≠uj f)->w4.ownsRow B e size H n I:=fun F K ad=>o.row F (fun g a=>by obtain⟨l,m,c⟩:=oc F a;exact C c K) ad;have af:(L++M).length=L.length+D.sz:=by
  have e:=congrArg List.length h.mf;rw[dc,Fo.flat_len]at e;rw[aH,e]
 obtain⟨a2,z⟩:=h.bx;have a1:=ah h.rb.2.2;refine⟨d,?_,?_,?_,h.lc.2,o.nodes (fun g a=>by obtain⟨l,m,c⟩:=A g a;exact⟨l,_,m,c,by decide,by decide,fun f=>fG.2.2.2.symm⟩) _ _ _ ap,?_,by rw[<-dh];exact an,?_,?_,?_,h.fm.trans o h.lb,?_,⟨h.rb.1,?_,o.blk h.rb.2.2 h.rb.2.1 (fun f=>fG.2.2.2.symm)⟩,s h.kr (by decide) (fun f=>fG.2.2.1.symm),?_,o.box z (C z fG.2.2.2),s h.vr (by decide) (fun f=>fG.2.1.symm),h.lq,s h.nw (by decide) (fun f=>fG.1.symm)⟩
 ·rw[Fo.app_app];exact h.e1
 ·rw[dh];exact h.e2
 ·rw[aH,Fo.len_app,h.ln];rfl
 ·rw[dh];exact h.pb
 ·rw[ee,h.mf,ao,Fo.flat_app,af]
 ·intro y;have a3:=h.mp y;have a4:=ar y;rw[akb,Au,Au];omega
 ·intro x hx;rcases List.mem_append.1 hx with hx|hx
  ·exact h.mr x hx
  ·exact(u x hx).le am
 ·intro g a;rcases t g a with e|e
  ·exact h.lb g e
  ·exact .inr (by omega)
 ·intro e;rcases t rb e with e|e
  ·exact h.rb.2.1 e
  ·omega
 ·rw[aka];refine nd3 (n:=wr.heap.size) h.kd J (fun x hx=>?_) (fun x hx=>?_)
  ·rcases List.mem_append.1 hx with hx|hx
   ·obtain⟨y,q,hx⟩:=List.mem_flatMap.1 hx;exact((h.lw.each y (Ei _ q)).2.lt x (by simpa using hx)).2
   ·exact(h.kr.lt x (by simpa using hx)).2
  ·obtain⟨y,q,hx⟩:=List.mem_flatMap.1 hx;exact u y q x (by simpa using hx)
theorem Lj.put{an:Fo}{z:Int}{o:Obj}{g cap:Nat}{p:A1}(h:Lj lo w wr N b rb vn vk lv lv1 L M ks D an kv us vs' bk bd br tp ac nc cc)(av:p.ownsRow w.heap.size 3 1 (A3 (O ⟨g,0,Q⟩) (nc+1) cap) (nc+1) ((tp++[z]).map (D1 X)))(q:(wr.alloc o).grownBy p (Ax ac nc cc).ownBlock)(a1:(Ax ac nc cc).ownBlock=O g\/g=(wr.alloc o).heap.size)(I:lo<=w.heap.size):Lj lo w (p.setCell ⟨rb,8,Q⟩ (A3 (O ⟨g,0,Q⟩) (nc+1) cap)) N b rb vn vk lv lv1 L M ks D an kv us vs' bk bd br (tp++[z]) (O ⟨g,0,Q⟩) (nc+1) cap:=by
 have ar:=h.fm.bl.size;have a3:=(bg wr o).size;have af:∀k,(Ax ac nc cc).ownBlock=O k->w.heap.size<=k:=fun k a=>(h.kr.lt k a).1;have C:Fm lo (Ax ac nc cc).ownBlock wr p:=⟨((bg wr o).mono (bF I ar)).trans ((ag lo (wr.alloc o)).grown q (bF I (bF ar a3)) (fun k a=>bF I (af k a))),fun k l A m a K=> .inl ((q.block k (by have:=ah a;omega) (fun e=>K e.symm)).trans (((bg wr o).block k (ah a)).trans a))⟩;have J:∀{k:Nat}{l:Array V}{A:A9}{m:Nat×Nat},wr.heap[k]?=O (A5 l A m)->A≠3->(Ax ac nc cc).ownBlock≠O k:=fun a ad e=>gA h.kr a ad e;have ak:=C.blk h.rb.2.2 (J h.rb.2.2 (by decide)) (fun f=>fG.2.2.2.symm);have F:Fm lo (O rb) p (p.setCell ⟨rb,8,Q⟩ (A3 (O ⟨g,0,Q⟩) (nc+1) cap)):=⟨(ag lo p).setCell (show lo<=(⟨rb,8,Q⟩:Addr).block from bF I h.rb.1) _,fun k l A m a K=> .inl ((aD _ _ _ _ (fun e=>K (by rw[e]))).trans a)⟩;have a0:∀{k:Nat}{l:Array V}{A:A9}{m:Nat×Nat},p.heap[k]?=O (A5 l A m)->A≠53->O rb≠O k:=fun a ad e=>by
  cases e;rw[ak]at a;simp only[dr,gE]at a;exact ad a.2.1.symm
 have al:∀{s e size t:Nat}{n:V}{u:List V},wr.ownsRow s e size n t u->(∀g,n.ownBlock=O g->(Ax ac nc cc).ownBlock≠O g)->(∀g,n.ownBlock=O g->g≠rb)->(∀f,e≠uj f)->(p.setCell ⟨rb,8,Q⟩ (A3 (O ⟨g,0,Q⟩) (nc+1) cap)).ownsRow s e size n t u:=fun d B G H=>F.row (C.row d B H) (fun g q e=>G g q (by cases e;rfl)) H;have am:∀{s e size t:Nat}{n:V}{u:List V},wr.ownsRow s e size n t u->e≠3->e≠53->(∀f,e≠uj f)->(p.setCell ⟨rb,8,Q⟩ (A3 (O ⟨g,0,Q⟩) (nc+1) cap)).ownsRow s e size n t u:=fun d B G H=>al d (fun g q=>by obtain⟨l,m,c⟩:=oc d q;exact J c B) (fun g q e=>by obtain⟨l,m,c⟩:=oc d q;rw[e,h.rb.2.2]at c;simp only[dr,gE]at c;exact G c.2.1.symm) H;have a5:∀{s t:Nat}{n:V}{u:List V},wr.ownsRow s 3 1 n t u->(∀g,n.ownBlock=O g->(Ax ac nc cc).ownBlock≠O g)->(p.setCell ⟨rb,8,Q⟩ (A3 (O ⟨g,0,Q⟩) (nc+1) cap)).ownsRow s 3 1 n t u:=fun d B=>al d B (fun g q e=>by obtain⟨l,m,c⟩:=oc d q;rw[e,h.rb.2.2]at c;simp only[dr,gE]at c;exact absurd c.2.1 (by decide)) (fun f=>fG.2.2.1.symm);obtain⟨a7,ao⟩:=h.bx;obtain⟨a8,ap⟩:=C.box ao (J ao fG.2.2.1);refine⟨h.e1,h.e2,h.ln,h.lc,F.nodes (fun k a=>by cases a;exact⟨_,_,_,ak,by decide,by decide,fun f=>fG.2.2.2.symm⟩) _ _ _ (C.nodes (fun k a=>by obtain⟨l,m,c⟩:=oc h.kr a;exact⟨_,_,_,c,by decide,by decide,fun f=>fG.2.2.1.symm⟩) _ _ _ h.nr),h.pb,⟨al h.lw.row (fun k a=>by obtain⟨l,m,c⟩:=oc h.lw.row a;exact J c (by decide)) (fun k a e=>h.rb.2.1 (by rw[<-e];exact a)) (fun f=>fG.2.2.2.symm),fun x hx=>⟨am (h.lw.each x hx).1 (by decide) (by decide) (fun f=>fG.1.symm),a5 (h.lw.each x hx).2 (fun k a e=>?_)⟩⟩,h.mf,h.mp,h.mr,(h.fm.trans C (fun k a=> .inr (af k a))).trans F (fun k a=> .inr (by cases a;exact h.rb.1)),h.lb,⟨h.rb.1,h.rb.2.1,bi _ rb 8 _ _ _ ak⟩,?_,?_,F.box ap (a0 ap fG.2.2.2),am h.vr (by decide) (by decide) (fun f=>fG.2.1.symm),h.lq,am h.nw (by decide) (by decide) (fun f=>fG.1.symm)⟩
 ·rcases List.mem_append.1 hx with hx|hx
  ·have:=h.lq x hx k a;have:=af k e;omega
  ·have d:=List.nodup_append.1 h.kd;exact d.2.2 k (List.mem_flatMap.2 ⟨x,hx,by simp[a]⟩) k (by simp[e]) rfl
 ·exact F.row av (fun k a=>by obtain⟨l,m,c⟩:=oc av a;exact a0 c (by decide)) (fun f=>fG.2.2.1.symm)
 ·rcases a1 with e|e
  ·have d:=h.kd;rw[e]at d;exact d
  ·have d:=(List.nodup_append.1 h.kd).1;rw[tI];refine⟨d,Fq _,fun x hx y a4=>?_⟩;obtain⟨a6,a2,hx⟩:=List.mem_flatMap.1 hx;have B:=((h.lw.each a6 (Ei _ a2)).2.lt x (by simpa using hx)).2;have G:y=g:=by simpa [Z] using a4
   omega
theorem ang:∀(c:Nat),lE N c=N->w.ownsRow lo 9 1 vn (N.nm.map A0).length (N.nm.map A0)->w.ownsRow lo 9 1 (sa vn c) N.nm.length (N.nm.map A0)/\∀y,(sa vn c).ownBlock.toList.count y<=vn.ownBlock.toList.count y
 |0,_,o=>⟨by rw[dc]at o;exact o,fun y=>ae _⟩
 |5,_,o=>⟨by rw[dc]at o;exact o,fun y=>ae _⟩
 |1,e,_|2,e,_|3,e,_|4,e,_|n+6,e,_=>by
  have h:[]=N.nm:=congrArg Nd.nm e;rw[<-h];exact⟨bc _ _ _ _,fun y=>by simp[sa,Z]⟩
theorem Lj.fin{u:Int}{o:Obj}{g cap:Nat}{e:A1}(h:Lj lo w wr N b rb vn vk lv lv1 L M ks ks .nil kv us [] bk bd [] (ks.tops L.length) ac nc cc)(an:lo<=b)(am:lE N (dF N.k)=N)(ar:lo<=w.heap.size)(a0:nc=ks.len)(a2:u=((L.length+ks.sz:Nat):Int))(a3:e.ownsRow lo 53 9 (A3 (O ⟨g,0,Q⟩) ((L++M).length+1) cap) ((L++M).length+1) (lH ((L++M)++[⟨{N with ks:=ks.tops L.length},sa vn (dF N.k),A3 ac nc cc⟩])))(f:((wr.setCell ⟨b,4,Q⟩ (Y X u)).alloc o).grownBy e lv1.ownBlock)(G:lv1.ownBlock=O g\/g=((wr.setCell ⟨b,4,Q⟩ (Y X u)).alloc o).heap.size)(t:A9):
  ∃M',Lw e lo (A3 (O ⟨g,0,Q⟩) ((L++M).length+1) cap) (L++M')/\M'.map Mb.N=(one N ks).flat L.length/\(∀y,(M'.flatMap fun x=>x.vn.ownBlock.toList).count y<=(vn.ownBlock.toList++(bk++[])).count y)/\((∀x∈M',Fr w.heap.size x.vk)/\(M'.flatMap fun x=>x.vk.ownBlock.toList).Nodup)/\Fm lo lv.ownBlock w e/\(∀k,(Ax (O ⟨g,0,Q⟩) ((L++M).length+1) cap).ownBlock=O k->lv.ownBlock=O k\/w.heap.size<=k)/\∃C a8,Value.iface t (A8 (O ⟨b,0,Q⟩))= U a8 (A8 (O ⟨C,0,Q⟩))/\e.cell? ⟨C,4,Q⟩=O (Y X ((L.length+ks.sz:Nat):Int)):=by
 have bh:=h.fm.bl.size;obtain⟨bo,ao⟩:=h.bx;obtain⟨m,n⟩:=Fm.num (lo:=lo) ao an u Q;generalize bn:wr.setCell ⟨b,4,Q⟩ (Y X u)=d at m n f G;have a9:=(bg d o).size;have bb:=m.bl.size;have af:d.ownsRow lo 53 9 lv1 (L++M).length (lH (L++M)):=m.row h.lw.row (fun _ _=>by simp) (fun l=>fG.2.2.2.symm);have J:∀{k:Nat}{s:Array V}{t:A9}{z:Nat×Nat},d.heap[k]?=O (A5 s t z)->t≠53->lv1.ownBlock≠O k:=fun c a1 a=>gA af c a1 a;have ap:∀k,lv1.ownBlock=O k->lo<=k:=fun k c=>(h.lw.row.lt k c).1;have B:Fm lo lv1.ownBlock d e:=⟨((bg d o).mono (by omega)).trans ((ag lo (d.alloc o)).grown f (by omega) ap),fun k s t z c av=> .inl ((f.block k (by have:=ah c;omega) (fun a=>av a.symm)).trans (((bg d o).block k (ah c)).trans c))⟩;have p:∀{H a size I:Nat}{u:V}{ad:List V},wr.ownsRow H a size u I ad->a≠53->(∀l,a≠uj l)->e.ownsRow H a size u I ad:=fun q al F=>by
  have K:=m.row q (fun _ _=>by simp) F;exact B.row K (fun g f=>by obtain⟨s,z,a4⟩:=oc K f;exact J a4 al) F
 have ak:e.heap[b]?=_:=(f.block b (by have:=ah n;omega) (fun a=>J n fG.2.2.2 a.symm)).trans (((bg d o).block b (ah n)).trans n);obtain⟨a6,a7⟩:=ang (dF N.k) am (p h.nw (by decide) (fun l=>fG.1.symm));refine⟨M++[⟨{N with ks:=ks.tops L.length},sa vn (dF N.k),A3 ac nc cc⟩],⟨?_,fun x hx=>?_⟩,?_,fun y=>?_,⟨fun x hx=>?_,?_⟩,(h.fm.trans (m:Fm lo Q wr d) (fun k c=>by cases c)).trans B h.lb,fun k c=>?_,b,t,rfl,?_⟩
 ·rw[<-dh];have a:∀(A:List Mb)(x:Mb),(A++[x]).length=A.length+1:=fun A x=>by simp
  rw[a (L++M)];exact a3
 ·rw[<-dh]at hx;rcases List.mem_append.1 hx with hx|hx
  ·exact⟨p (h.lw.each x hx).1 (by decide) (fun l=>fG.1.symm),p (h.lw.each x hx).2 (by decide) (fun l=>fG.2.2.1.symm)⟩
  ·obtain rfl:=List.mem_singleton.1 hx;refine⟨a6,?_⟩;have q:=iE (p h.kr (by decide) (fun l=>fG.2.2.1.symm)) ar;show e.ownsRow lo 3 1 _ (ks.tops L.length).length _;rw[Fo.tops_len,<-a0];exact q
 ·rw[ee,h.mf,Ho];rfl
 ·have bs:=h.mp y;have a5:=h.pb.count_eq y;have bt:=a7 y;have a:(List.flatMap (fun x=>x.vn.ownBlock.toList) (M++[(⟨{N with ks:=ks.tops L.length},sa vn (dF N.k),A3 ac nc cc⟩:Mb)]))=nB' M++((sa vn (dF N.k)).ownBlock.toList++[]):=xa;rw[a];simp only[da,Au]at a5⊢;omega
 ·rcases List.mem_append.1 hx with hx|hx
  ·exact h.mr x hx
  ·obtain rfl:=List.mem_singleton.1 hx;exact fun g f=>(h.kr.lt g f).1
 ·have q:=h.kd;have a:(List.flatMap (fun x=>x.vk.ownBlock.toList) (M++[(⟨{N with ks:=ks.tops L.length},sa vn (dF N.k),A3 ac nc cc⟩:Mb)]))=kB M++((Ax ac nc cc).ownBlock.toList++[]):=xa;rw[a,da];exact q
 ·obtain rfl:g=k:=by simpa [Z] using c
  rcases G with q|q
  ·exact h.lb g q
  ·exact .inr (by omega)
 ·rw[aq _ _ _ _ _ _ ak,a2];rfl
end
theorem zF{lo:Nat}{N:Nd}{ks:Fo}(fk:LCs lo ks):LC lo N ks:=by
 intro w v g8 L lv ch J a5 cw;obtain⟨b,eh,vn,vk,kv,vs',bk,br,⟨e4,bD⟩,⟨df,g0,dk,dn⟩,eg,k1,ek,gr⟩:=ch;obtain⟨rfl,rfl⟩:=gr;obtain rfl:=(po e4).1;obtain⟨bo,bA,rfl⟩:=bz eg.1;obtain⟨bn,bw,rfl⟩:=bz J.row;obtain⟨bh,cf,rfl⟩:=bz k1.1;have fl:kv.length=ks.len:=zt.len _ _ ⟨bk,ek⟩;have b6:=fun w=>Dy (dF N.k) b w;have f7:=fun w=>eA b w;obtain⟨A,G,B,b7⟩:∃et f dz,sa (.slice bo (N.nm.map A0).length bA) (dF N.k)= .slice et f dz:=by unfold sa;split<;>exact⟨_,_,_,rfl⟩
 have af:=D0 w b N _ _ eh ⟨_,_,_,rfl⟩ dk;rw[dn,b7]at af;unfold eC at af;unfold ey at af⊢;generalize ho:nH (dF N.k)=gn at af b6⊢;have u:=aw dk;obtain⟨f,K⟩:=ay kv.length;obtain⟨F,a4⟩:=ay L.length;have hl:f<=50000000:=by have:=ks.len_le;rw[aA]at cw;omega
 rw[K]at u;rw[a4];go_in;go_wp2_with (go_at_call 301;refine dK (f7 _) ?_);refine af.mono ?_;rintro e h ⟨rfl,I⟩;have ff:∀o,(h.alloc o).cell? ⟨b,5,Q⟩=O (.slice bh f cf):=fun o=>by
  have a:=((bg h o).block _ (eF (ah u.out) I.size)).trans ((I.block _ (ah u.out)).trans u.out);rw[aq _ _ _ _ _ _ a];rfl
 have ea:=bg h (.cells (dy N (.slice A G B) (.slice Q 0 0)) 53);have p:Below w.heap.size w (h.alloc (.cells (dy N (.slice A G B) (.slice Q 0 0)) 53)):=I.trans (ea.mono I.size);have c7:A6 (Lj lo w (h.alloc (.cells (dy N (.slice A G B) (.slice Q 0 0)) 53)) N b h.heap.size (.slice bo (N.nm.map A0).length bA) (.slice bh f cf) (.slice bn F bw) (.slice bn F bw) L [] ks .nil ks kv [] kv bk [] bk [] Q 0 0):=by
  refine⟨rfl,rfl,rfl,fk,rC.mono (fun k e6 e7 e8=>⟨p.block k e8,e6,e7⟩) _ _ _ ek,List.Perm.refl _,?_,rfl,fun y=>ae _,fun x ad=>(by cases ad),Fm.of_below p a5 _,fun g cs=> .inl cs,⟨I.size,fun e=>?_,by rw[b7];exact aj h _⟩,bc _ _ _ _,by simp[kB,Z],⟨eh,(p.block _ (ah u.out)).trans u.out⟩,by have:=aE k1.1 p;rw[K]at this⊢;exact this,fun x ad g cs=>((J.each x ad).2.lt g cs).2,aE eg.1 p⟩
  ·rw[da];exact⟨by have:=aE J.row p;rw[a4]at this⊢;exact this,fun x ad=>⟨aE (J.each x ad).1 p,aE (J.each x ad).2 p⟩⟩
  ·have:=(J.row.lt _ (by rw[a4];exact e)).2;have:=I.size;omega
 go_wp2_with fail;have gv:A6 ((vn:V)->True):=fun _=>trivial;clear af p ea ff;go_loopw [1,18] (fun gt c6 wr=>∃(a:Nat) (D ap:Fo) (us vs':List V) (bd br:List Nat) (M:List Mb) (ca:Option Addr) (t cb:Nat) (ac:Option Addr) (cc:Nat),gt= .slice ca t cb/\c6= .int .i64 a/\a<=f/\us.length=a/\A6 (Lj lo w wr N b h.heap.size (.slice bo (N.nm.map A0).length bA) (.slice bh f cf) (.slice bn F bw) (.slice ca t cb) L M ks D ap kv us vs' bk bd br (D.tops F) ac a cc)) (fun _ c6 _=>f-(intOf c6).toNat)
 case atStart=>exact⟨0,.nil,ks,[],kv,[],bk,[],bn,F,bw,Q,0,rfl,rfl,aL _,rfl,c7⟩
 case round=>
  clear c7;obtain⟨a,D,ap,us,vs',bd,br,M,ca,t,cb,ac,cc,rfl,rfl,hr,cy,c⟩:=hrel;by_cases hf:a<f
  ·have fq:us.length+vs'.length=f:=by rw[<-K,<-c.out.e2,aH]
   obtain⟨v,ao,rfl⟩:∃v ao,vs'=v::ao:=by
    cases vs' with
    |nil=>simp at fq;omega
    |cons v ao=>exact⟨v,ao,rfl⟩
   cases ap with
   |nil=>have:=c.out.nr.1;cases this
   |cons N' k' r=>
    obtain⟨n,ei,a7,em,ef,gu,a0,ds,⟨bE,d1⟩,d3,d5,d6,d7,d8⟩:=c.out.nr;obtain⟨rfl,rfl⟩:=po bE;obtain⟨g,rfl⟩:∃g,bh=O ⟨g,0,Q⟩:=by
     have o:=c.out.vr;rw[K]at o;rcases bp o with⟨hd,_⟩|⟨g,hb,cz⟩
     ·omega
     ·exact⟨g,(AE cz).1⟩
    have d0:wr.cell? ⟨g,a,Q⟩=O (ey N'.k n):=by
     have:=c.out.vr.cells (g:=g) rfl a (ey N'.k n) (by rw[<-c.out.e2,fJ (by omega),cy,eB];rfl);have fd:(⟨g,0,Q⟩:Addr).add a=⟨g,a,Q⟩:=by unfold Addr.add;split<;>simp_all
     rw[fd]at this;exact this
    have fb:A6 (rC wr lo Q (one N' k') [ey N'.k n] (a7.ownBlock.toList++(a0++[]))):=⟨n,ei,a7,em,ef,[],a0,[],⟨rfl,rfl⟩,d3,d5,d6,d7,rfl,rfl⟩;have e9:A6 (∃bt,br=(a7.ownBlock.toList++(a0++[]))++bt/\rC wr lo Q r ao bt):=⟨ds,by rw[d1];simp,d8⟩;have fu:=fun w=>Dy (dF N'.k) n w;have f8:=fun w=>eA n w;have b0:(L++M).length=L.length+D.sz:=by
     have e:=congrArg List.length c.out.mf;rw[dc,Fo.flat_len]at e;rw[aH,e]
    have hw:D.sz+(k'.sz+1+r.sz)=ks.sz:=by have e:=congrArg Fo.sz c.out.e1;rw[Fo.sz_app]at e;exact e
    have ep:=aw c.out.lc.1;have fr:lo<=wr.heap.size:=bF a5 c.out.fm.bl.size;clear d3 d5 d6 d7 d8 bE d1;have cm:=fb;unfold ey at d0 cm;generalize hp:nH (dF N'.k)=gp at d0 cm fu;have hs:(0:Int)<=(a:Int):=by omega
    have ht:(a:Int)<(f:Int):=by omega
    go_wp2_with fail;refine(ep.out wr _ _ (L++M) _ cm.out c.out.lw fr (by rw[b0,aA];rw[aA]at cw;omega)).mono ?_;rintro e w4 ⟨lv2,M2,rfl,c5,gd,gm,⟨d2,e3⟩,fg,dq,g6,hE,cz,fB⟩;obtain⟨ev,e0,rfl⟩:=bz c5.row;cases cz;generalize fv:((L++M)++M2).length=gb at c5 dq⊢;clear fv;obtain⟨bt,c8⟩:=c.out.kid fg c5 gd e9.out gm d2 e3 dq;have H:=aw c8;clear c8;have a6:w4.drew.cell? ⟨h.heap.size,8,Q⟩=O (.slice ac a cc):=by have m:=H.out.rb.2.2;show w4.cell? _=_;rw[aq _ _ _ _ _ _ m];rfl
    have fA:w4.drew.cell? ⟨n,4,Q⟩=O (.int .i64 (((L++M).length+k'.sz:Nat):Int)):=fB;generalize f6:((((L++M).length+k'.sz:Nat)):Int)=z at fA;go_wp2_with fail;refine Bs (S:=fun _=>True) (by kernel_rfl) trivial (fun hS=>?_);simp only[gi,bv,dd,Nat.reduceAdd,gh,gC,gD,de,ej];refine bq 0 (.pointer (O ⟨h.heap.size,8,Q⟩)) rfl rfl (by kernel_rfl) (fun _ _ _=>id) hS (fun w' ed=>by go_simp) ?_;simp only[A4];refine bq 2 (.iface gp (.pointer (O ⟨n,0,Q⟩))) rfl rfl (by kernel_rfl) (fun _ _ _=>id) hS (fun w' ed=>by go_simp) ?_;simp only[A4];refine qz (S:=fun es=>es.cell? ⟨h.heap.size,8,Q⟩=O (.slice ac a cc)) (C:=fun j=>!(j==8||j==9||j==10)) (i:=1) (v:= .slice ac a cc) rfl (wJ (by kernel_rfl)) (fun _ _ _ ch=>ch) ?hC _ _ _ _ (wL rfl (by kernel_rfl)) (List.contains_iff_mem.1 (by kernel_rfl)) (Or.inl ⟨by rfl,fun w' ed=>by go_simp⟩) hS a6 ?_
    case hC=>
     intro j hB eb s;simp only[Bool.not_eq_false',xd,ix]at s;rcases s with(rfl|rfl)|rfl
     ·obtain rfl:=bu eb;exact⟨{on:=1,ground:=Ground.data},by simp,rfl,rfl⟩
     all_goals
      obtain rfl:=bu eb;exact⟨{on:=1,ground:=Ground.phase},by simp,rfl,rfl⟩
    simp only[Act.put,bG,bH,bI];refine du (i:=3) (by kernel_rfl) rfl (fun l d=>?_);go_simp;refine dK (f8 _) ?_;refine d.out _ _ trivial (fun _=>a6) ?_;clear d l;try simp only[bG,bH,bI]
    refine du (i:=4) (by kernel_rfl) rfl (fun l d=>?_);go_simp;refine d.out _ _ trivial (fun _=>a6) ?_;clear d l;try simp only[bG,bH,bI]
    refine du (i:=5) (by kernel_rfl) rfl (fun l d=>?_);go_simp;refine d.out _ _ trivial (fun _=>a6) ?_;clear d l;try simp only[bG,bH,bI]
    refine du (i:=6) (by kernel_rfl) rfl (fun l d=>?_);go_simp;refine d.out _ _ trivial (fun _=>a6) ?_;clear d l;try simp only[bG,bH,bI]
    refine du (i:=7) (by kernel_rfl) rfl (fun l d=>?_);go_simp;have m:=H.out.rb.2.2;have f9:∀o,(w4.alloc o).cell? ⟨h.heap.size,8,Q⟩=O (.slice ac a cc):=fun o=>by rw[aq _ _ _ _ _ _ (((bg w4 o).block _ (ah m)).trans m)];rfl
    refine d.out _ _ trivial (fun _=>f9 _) ?_;clear d l;try simp only[bG,bH,bI]
    obtain⟨cB,cF,cI,c0,c3⟩:=dt Ip;have f5:=H.out.fm.bl.size;refine du (i:=8) (by kernel_rfl) rfl (fun l d=>?_);refine step_append_lies _ (by rfl) _ _ 51 (by rfl) w.heap.size 3 cB _ 1 8 Tryz.underlying51 cF cI c0 c3 rfl (by decide) (.slice ac a cc) a _ (by rfl) (aE H.out.kr (cj (bg w4 (.cells #[.int .i64 z] 3)))) ⟨w4.heap.size,0,Q⟩ 1 1 [.int .i64 z] (by rfl) rfl (A7 (aj w4 _)) (by intro gs b8;rw[List.mem_singleton.1 b8];rfl) (by decide) (by unfold B1;omega) (by omega) (bF f5 (bg w4 (.cells #[.int .i64 z] 3)).size) _ rfl ?_;intro cg ce a8 am q a3 fo;have ct:(w4.alloc (.cells #[.int .i64 z] 3)).grownBy a8 (Ax ac a cc).ownBlock:=⟨q.os,q.tape,q.output,q.size,q.block⟩;have c9:=H.out.put (z:=z) (o:= .cells #[.int .i64 z] 3) (by rw[ee];exact am) ct a3 a5;have el:a8.heap[h.heap.size]?=_:=(ct.block _ (by have:=ah m;rw[aF];omega) (fun e=>gA H.out.kr m (by decide) e.symm)).trans (((bg w4 (.cells #[.int .i64 z] 3)).block _ (ah m)).trans m);have hz:a8.cell? ⟨h.heap.size,8,Q⟩=O (.slice ac a cc):=by rw[aq _ _ _ _ _ _ el];rfl
    have hA:∀j,a8.frozen? ⟨h.heap.size,j,Q⟩=A2:=fun j=>cC _ _ _ _ _ el;have eq:=aw c9;clear c9 am q ct a3 fo;refine d.out _ _ trivial (fun s=>by cases s) ?_;clear d l;simp only[Act.put,bG,bH,bI];refine du (i:=9) (by kernel_rfl) rfl (fun l d=>?_);go_simp;refine d.out _ _ trivial (fun s=>by cases s) ?_;clear d l;try simp only[bG,bH,bI]
    refine du (i:=10) (by kernel_rfl) rfl (fun l d=>?_);go_simp;refine d.out _ _ trivial (fun s=>by cases s) ?_;clear d l;refine sH (by kernel_rfl) ?_ _;go_wp2_with fail;refine⟨⟨a+1,D.app (one N' k'),r,us++[ey N'.k n],ao,bd++(a7.ownBlock.toList++(a0++[])),bt,M++M2,ev,gb,e0,O ⟨cg,0,Q⟩,ce,rfl,by go_num,by omega,by rw[aH,cy];rfl,?_⟩,by simp[intOf];omega⟩;have e:(D.app (one N' k')).tops F=D.tops F++[z]:=by rw[Fo.tops_app,<-f6,b0,a4];rfl
    rw[e];exact eq
  ·have fF:f=a:=by omega
   subst fF;have b0:(L++M).length=L.length+D.sz:=by
    have e:=congrArg List.length c.out.mf;rw[dc,Fo.flat_len]at e;rw[aH,e]
   have f3:vs'=[]:=by
    have e:=congrArg List.length c.out.e2;rw[aH,cy,K]at e;exact jK (by omega)
   subst f3;have fc:ap= .nil:=by
    cases ap with
    |nil=>rfl
    |cons N' k' r=>obtain⟨n,ei,a7,em,ef,gu,a0,ds,⟨bE,_⟩,_⟩:=c.out.nr;cases bE
   subst fc;obtain⟨_,rfl⟩:=c.out.nr;have fa:D=ks:=by have e:=c.out.e1;rw[Fo.app_nil]at e;exact e
   subst fa;obtain⟨gz,g9,ec⟩:=bz c.out.lw.row;have cv:A6 (t=(L++M).length):=(AE ec).2.1;clear ec;have fz:A6 (f=D.len):=by show f=_;rw[<-K];exact fl
   subst a4;have en:=aw bD;clear bD;have hi:t<=50000000:=by have:=cv.out;rw[aA]at cw;omega
   obtain⟨ge,b5⟩:=c.out.bx;have he:=ah u.out;have m:=c.out.rb.2.2;have hy:=c.out.rb.1;rw[b7]at m;have ha:wr.cell? ⟨b,4,Q⟩=O (.int .i64 ge):=by rw[aq _ _ _ _ _ _ b5];rfl
   have d2:wr.frozen? ⟨b,4,Q⟩=A2:=cC _ _ _ _ _ b5;have d9:(wr.setCell ⟨b,4,Q⟩ (.int .i64 (t:Int))).heap[h.heap.size]?=_:=(aD _ _ _ _ (by show h.heap.size≠b;omega)).trans m;obtain⟨av,cq⟩:=ay (wr.setCell ⟨b,4,Q⟩ (.int .i64 (t:Int)));rw[cq]at d9;obtain⟨hH,hI,hJ,hK,h4,h5,h6,h7,h9,ih⟩:=ax d9;have hh:¬(f:Int)<(f:Int):=by omega
   have a9:=(Fm.num (lo:=lo) b5 df (t:Int) Q).1;rw[cq]at a9;have b9:=a9.row c.out.lw.row (fun _ _=>by simp) (fun dz=>fG.2.2.2.symm);have fn:lo<=av.heap.size:=bF a5 (bF c.out.fm.bl.size a9.bl.size);rw[<-cv.out]at b9;have gf:=aE b9 (bg av (.cells (dy N (.slice A G B) (.slice ac f cc)) 53));have f0:=(bg av (.cells (dy N (.slice A G B) (.slice ac f cc)) 53)).size;obtain⟨cB,cF,cI,c0,c3⟩:=dt Ff;clear b6 b5 m a9 b9;go_wp2_with (at_builtin;refine wpList_append_own_at _ rfl _ _ 24 rfl lo 53 cB _ 9 112 Tryz.underlying24 cF cI c0 c3 rfl (by decide) _ _ _ rfl gf ⟨av.heap.size,0,Q⟩ 1 1 (dy N (.slice A G B) (.slice ac f cc)).toList rfl rfl (A7 (aj av _)) (by intro gs b8;simp at b8;rcases b8 with rfl|rfl|rfl|rfl|rfl|rfl|rfl|rfl|rfl<;>rfl) (by unfold B1;omega) (by omega) (bF fn f0) ?_;intro hG a8 am q _ a3;obtain⟨cg,ce,rfl⟩:=ownsRow_succ am);go_ret;have e5:lH (L++M)++(dy N (.slice A G B) (.slice ac f cc)).toList=lH ((L++M)++[⟨{N with ks:=D.tops L.length},sa (.slice bo (N.nm.map A0).length bA) (dF N.k),.slice ac f cc⟩]):=by rw[BH (L++M),b7];show _=lH (L++M)++(cMb _++[]);rw[da];rfl
   rw[e5]at am;have b6:=cv.out;subst b6;rw[<-cq]at q a3;obtain⟨er,a⟩:=c.out.fin df dn a5 fz.out (by rw[b0]) am q (by rcases a3 with e|e;exact .inl e.symm;exact .inr (by simpa [Z] using e)) gn;have bD:=en.out;subst bD;exact(show LP _ _ _ _ _ _ _ _ _ _ from⟨.slice (O ⟨cg,0,Q⟩) ((L++M).length+1) ce,er,rfl,a⟩)
