import Derived.Test.YtcbmoiabehpliaaGreatDoorHPk01
import Derived.Test.YtcbmoiabehpliaaGreatDoorHPk44
import Derived.Test.YtcbmoiabehpliaaGreatDoorHPk30
import Derived.Test.YtcbmoiabehpliaaGreatDoorHPk42
import Derived.Test.YtcbmoiabehpliaaGreatDoorHPk32
import Derived.Test.YtcbmoiabehpliaaGreatDoorHPk25
import Derived.Deep.AppendLies
set_option linter.unusedSimpArgs false
set_option linter.unusedVariables false
set_option maxRecDepth 100000
set_option maxHeartbeats 12800000
namespace Go.Proofs.YtcbmoiabehpliaaGreatDoor
open Go.RowKit Go.Maps Go.WideMaps
section
variable {E : Pe} {i j k k1 : Nat} {x y R Ex : Fo}
theorem jJ{nk:Int}(a:aY nk=3)(b:Nat):bi nk b= .iface 145 (.pointer (some ⟨b,0,none⟩)):=by unfold bi;rw[a];rfl
theorem oU{nk:Int}(a:aY nk=3)(s:Tk)(e:Int)(x:ByteArray):dY (nd nk s e 0 0 x []) (aY nk)=nd nk s e 0 0 x []:=by rw[a];rfl
theorem CP(B:i+1<E.n){nk k:Int}(u:k≠6)(d:aY nk=3)(a:(E.tk i).k=k):CN E 171 #[pV E,.int .i64 nk] i (one (nd nk (E.tk i) (E.tk i).t 0 0 (E.tk i).x []) .nil) (i+1):=by
 intro C e z;have v:=Sw.start e;clear e;go_in;go_wp2_with fail;refine au (aU v a (by omega) u) fun c q=>?_;obtain⟨w,m,g⟩:=dv q a;simp only[bg]at m;go_wp2_with fail;clear m;have h:=sB g (aE (Below.refl _ w));have r:=dZ g a;have p:=dZ h a;go_region_held3 (fun b=>b.cell? ⟨c.heap.size,0,none⟩=some (.int .i64 k)/\b.cell? ⟨c.heap.size,1,none⟩=some (.int .i64 (E.tk i).f)/\b.cell? ⟨c.heap.size,2,none⟩=some (.int .i64 (E.tk i).t)/\b.cell? ⟨c.heap.size,3,none⟩=some (.int .i64 (E.tk i).l)/\b.cell? ⟨c.heap.size,4,none⟩=some (.int .i64 (E.tk i).n)/\b.cell? ⟨c.heap.size,5,none⟩=some (.string (E.tk i).x)) (first|exact r|exact p|exact dZ o a|go_keep) (first|(go_at_call 166;refine(bL h a (by omega) (by omega) _ _ _ _).mono ?_;rintro A s ⟨rfl,o⟩))
 go_wp2_with fail;go_ret;exact⟨_,rfl,jJ d s.heap.size ▸ fR o (nd nk (E.tk i) (E.tk i).t 0 0 (E.tk i).x []) (oU d _ _ _) rfl (by show _=(_++yp _ _ (aY nk)).toArray;rw[d];rfl) (by show _=iU (aY nk);rw[d];rfl)⟩
theorem Kd(C:i+1<E.n)(a:(E.tk i).k=2):CN E 190 #[pV E] i (one (nd 23 (E.tk i) (E.tk i).t 0 (E.tk i).n z0 []) .nil) (i+1):=by
 intro A d v;have p:=Sw.start d;clear d;go_in;go_wp2_with fail;refine au (cE p a (by omega)) fun B s=>?_;go_wp2_with fail;refine au (aU s a (by omega) (by decide)) fun c o=>?_;obtain⟨q,g,e⟩:=dv o a;simp only[bg]at g;go_wp2_with fail;clear g;have m:=sB e (aE (Below.refl _ q));have u:=dZ e a;have r:=dZ m a;go_region_held3 (fun b=>b.cell? ⟨c.heap.size,0,none⟩=some (.int .i64 2)/\b.cell? ⟨c.heap.size,1,none⟩=some (.int .i64 (E.tk i).f)/\b.cell? ⟨c.heap.size,2,none⟩=some (.int .i64 (E.tk i).t)/\b.cell? ⟨c.heap.size,3,none⟩=some (.int .i64 (E.tk i).l)/\b.cell? ⟨c.heap.size,4,none⟩=some (.int .i64 (E.tk i).n)/\b.cell? ⟨c.heap.size,5,none⟩=some (.string (E.tk i).x)) (first|exact u|exact r|exact dZ h a|go_keep) (first|(go_at_call 166;refine(bL m a (by omega) (by omega) 23 _ _ _).mono ?_;rintro w z ⟨rfl,h⟩))
 go_wp2_with fail;go_ret;exact⟨_,rfl,fR h (nd 23 (E.tk i) (E.tk i).t 0 (E.tk i).n z0 []) rfl rfl rfl rfl⟩
theorem yB{q b:Int}(p:q≠6)(a:(E.tk i).k=q)(X:i<E.n)(u:CN E 190 #[pV E] (i+1) x j)(J:i+1<=j)(B:j<=E.n):CN E 209 #[pV E,.int .i64 b] i (one (nd 30 (E.tk i) (E.tk (j-1)).t b 0 z0 []) x) (j):=by
 intro A c o;have r:=Sw.start c;clear c;simp only[ag,Fo.sz_app]at o;go_in;go_wp2_with fail;refine au (aU r a (by omega) p) fun K l=>?_;obtain⟨Q,e,m⟩:=dv l a;simp only[bg]at e;go_wp2_with fail;refine(cM m u (by omega)).mono ?_;rintro z N ⟨g,d,rfl,f⟩;clear e;obtain⟨O,T,I,M,L,U⟩:=dZ f a;obtain⟨V,G,h⟩:=fe f [.iface g d] #[.iface g d] rfl 1 rfl (by decide);obtain⟨S,W,H,C,v,w⟩:=dZ h a;go_wp2_with fail;refine au (bL h a (by omega) (by omega) 30 _ _ _) fun F s=>?_;go_wp2_with fail;go_ret;exact⟨_,rfl,fR s (nd 30 (E.tk i) (E.tk (j-1)).t b 0 z0 []) rfl rfl rfl rfl⟩
abbrev IC(E:Pe)(p:Int)(i:Nat)(x:Fo)(j:Nat):Prop:=CN E 169 #[pV E,.int .i64 p] i x j
theorem fi(e:IC E 0 i R j):CN E 134 #[pV E] i (R) (j):=by
 intro h a b;have d:=Sw.start a;clear a;go_in;go_wp2_with fail;refine(cM d e b).mono ?_;rintro f l ⟨g,p2,rfl,c⟩;go_wp2_with fail;go_ret;exact⟨_,rfl,c⟩
theorem sT{W w:World}{e:Value}{a c:List Value}{D:Fo}{T:Bxs}{d:List (Value×List ByteArray)}{b:Nat×TypeId×Array Value}(S:Hid (Sw E W w i e a D c (b::T) d)):Hid (Sw E W w i e a D c T d):=S.out.drop (fun g f=>List.mem_cons_of_mem _ f) (.inl rfl)
theorem Ji{W w:World}{T:Bxs}{O:List (Value×List ByteArray)}{k q:Int}{t:Tk}{d g:TypeId}{c f:Value}(U:Hid (Sw E W w j s0 [] R [.iface d c,.iface g f] T O))(a:t.k=k)(am:1<=j)(af:j<=E.n)(V:10<=q)(X:q<=78):Calls Tryz.prog 192 #[pV E,.int .i64 q,.agg (bg k t),.iface d c,.iface g f] w fun e S=>∃H z,e= .returned (.iface H z)/\Hid (Sw E W S j s0 [] (one (gV q t (E.tk (j-1)).t) R) [.iface H z] T O):=by
 unfold gV;obtain⟨Z,o,l⟩:=dv U a;simp only[bg]at o⊢;have al:IntKind.i64.wrap (q-60)=q-60:=by rw[IntKind.wrap_i64];omega
 by_cases r:q=10
 ·subst r;rw[if_pos rfl];go_in;obtain⟨C,G,s,A,B,I⟩:=dZ l a;obtain⟨J,N,h⟩:=fe l [.iface d c,.iface g f] #[.iface d c,.iface g f] rfl 2 rfl (by decide);obtain⟨F,L,Q,K,u,v⟩:=dZ h a;go_wp2_with fail;refine au (bL h a (by omega) (by omega) 28 _ _ _) fun M m=>?_;clear o;go_wp2_with fail;go_ret;refine⟨_,_,rfl,sT (b:=tkB w.heap.size t) ?_⟩;exact mq m (bH 28 t (E.tk (j-1)).t) rfl rfl rfl rfl
 by_cases p:q=26
 ·subst p;rw[if_neg (by decide),if_pos rfl];go_in;obtain⟨C,G,s,A,B,I⟩:=dZ l a;obtain⟨J,N,h⟩:=fe l [.iface d c,.iface g f] #[.iface d c,.iface g f] rfl 2 rfl (by decide);obtain⟨F,L,Q,K,u,v⟩:=dZ h a;go_wp2_with fail;refine au (bL h a (by omega) (by omega) 29 _ _ _) fun M m=>?_;clear o;go_wp2_with fail;go_ret;refine⟨_,_,rfl,sT (b:=tkB w.heap.size t) ?_⟩;exact mq m (bH 29 t (E.tk (j-1)).t) rfl rfl rfl rfl
 ·rw[if_neg r,if_neg p];have ak:(q==10)=false:=by simp[r]
  have Y:(q==26)=false:=by simp[p]
  go_in;obtain⟨C,G,s,A,B,I⟩:=dZ l a;obtain⟨J,N,h⟩:=fe l [.iface d c,.iface g f] #[.iface d c,.iface g f] rfl 2 rfl (by decide);obtain⟨F,L,Q,K,u,v⟩:=dZ h a;go_wp2_with fail;refine au (bL h a (by omega) (by omega) 31 _ _ _) fun M m=>?_;clear o;go_wp2_with fail;go_ret;refine⟨_,_,rfl,sT (b:=tkB w.heap.size t) ?_⟩;exact mq m (nd 31 t (E.tk (j-1)).t (q-60) 0 z0 []) rfl rfl rfl rfl
theorem Jj{W w:World}{T:Bxs}{f:List (Value×List ByteArray)}{b:List Value}{D:Fo}{k:Int}(S:Hid (Sw E W w i s0 [] D b T f))(o:cu k=true)(q:k<=78):Calls Tryz.prog 191 #[.int .i64 k] w fun e d=>e= .returned (.tuple #[.agg #[.int .i64 k,.int .i64 (sH k),.int .i64 (FL k)],.bool true])/\Hid (Sw E W d i s0 [] D b T f):=by
 obtain⟨j,c,rfl⟩:=Hk o q;obtain⟨n,p,a⟩:=S.out.pp.pw;obtain⟨g,l,_,h⟩:=yx j c;refine(wW w n p a j c _ rfl h).mono ?_;rintro e d ⟨a,m⟩;rw[g,l]at a;exact⟨a,sB S m⟩
theorem Jk{W w:World}{T:Bxs}{c:List (Value×List ByteArray)}{b:List Value}{D:Fo}{k:Int}(S:Hid (Sw E W w i s0 [] D b T c))(g:cu k=false):Calls Tryz.prog 191 #[.int .i64 k] w fun e d=>e= .returned (.tuple #[.agg #[.int .i64 0,.int .i64 0,.int .i64 0],.bool false])/\Hid (Sw E W d i s0 [] D b T c):=by
 obtain⟨m,f,a⟩:=S.out.pp.pw;refine(xa w m f a k (fun i l e=>?_)).mono ?_
 ·have:=(yx i l).2.2.1;rw[e,g]at this;cases this
 rintro e d ⟨a,h⟩;exact⟨a,sB S h⟩
theorem FZ{W w:World}{T:Bxs}{e:List (Value×List ByteArray)}{d:List Value}{D:Fo}(S:Hid (Sw E W w i s0 [] D d T e))(a b c:Value):∃f,w.alloc (.cells #[a,b,c] 179)=f/\Hid (Sw E W f i s0 [] D d ((w.heap.size,179,#[a,b,c])::T) e):=⟨_,rfl,S.out.boxg _ _ (by decide) (by decide)⟩
theorem JJ{W w:World}{T:Bxs}{g:List (Value×List ByteArray)}{f:List Value}{D:Fo}{d:Nat}{a b c:Value}(S:Hid (Sw E W w i s0 [] D f ((d,179,#[a,b,c])::T) g)):w.cell? ⟨d,0,none⟩=some a/\w.cell? ⟨d,1,none⟩=some b/\w.cell? ⟨d,2,none⟩=some c:=by
 have e:=(S.out.tb _ (List.mem_cons_self ..)).2.2;exact⟨by rw[cell_of_row _ _ _ _ _ _ e];rfl,by rw[cell_of_row _ _ _ _ _ _ e];rfl,by rw[cell_of_row _ _ _ _ _ _ e];rfl⟩
theorem Ht{p:Int}{m:Nat}(a3:(E.tk i).k≠6)(b2:i<E.n)(U:∀q,(E.tk q).k<=78)(a6:CN E 190 #[pV E] i x k)(o:Ms E (IC E) p (E.tk i) m x k R j):IC E p i R j:=by
 intro ao l a8;have M:=Sw.start l;have N:=ab o;have bo:=o.le;clear l o;go_in;go_wp2_with fail;refine au (gL M rfl (by omega) a3) fun a4 C=>?_;obtain⟨bA,F,c⟩:=dv C (t:=E.tk i) rfl;simp only[bg]at F;go_wp2_with fail;refine(cM c a6 (by omega)).mono ?_;rintro h bw ⟨a2,W,rfl,G⟩;clear F;have I:=ab G;go_wp2_with fail;clear M C c G;go_loopg [6] m (fun gk ap wr=>∃(k:Nat) (r:Fo) (t:TypeId) (L:Value),ap= .iface t L/\Hid (Ms E (IC E) p (E.tk i) gk r k R j/\Sw E ao wr k s0 [] r [.iface t L] [tkB a4.heap.size (E.tk i)] []))
 case atStart=>exact⟨k,x,a2,W,rfl,N.out,I.out⟩
 case round=>
  clear I N;obtain⟨a,r,bx,bt,rfl,O⟩:=hrel;obtain⟨a0,T⟩:=O.out;have c:=ab T;clear T O;cases a0 with
  |stop d B=>
   have a7:=c;cases b:cu (E.tk j).k with
   |false=>
    go_wp2_with fail;refine au (cE c rfl d) fun Q f=>?_;go_wp2_with fail;refine au (Jk f b) fun J e=>?_;go_wp2_with fail;go_ret;exact⟨_,rfl,(e.out.boxg _ _ (by decide) (by decide)).drop (fun p v=>by cases v) (.inr rfl)⟩
   |true=>
    have bb:=B b;go_wp2_with fail;refine au (cE c rfl d) fun Q f=>?_;go_wp2_with fail;refine au (Jj f b (U _)) fun J e=>?_;obtain⟨X,S,g⟩:=FZ e (.int .i64 (E.tk j).k) (.int .i64 (sH (E.tk j).k)) (.int .i64 (FL (E.tk j).k));obtain⟨w,A,u⟩:=JJ g;go_wp2_with fail;go_ret;exact⟨_,rfl,g.out.drop (fun p v=>by cases v) (.inr rfl)⟩
  |@go am _ k1 _ _ y a9 d b B an b1 ak z=>
   have af:=z.le;rw[ag,Fo.sz_app]at af;have bl:¬sH (E.tk a).k<p:=by omega
   have Y:(E.tk a).k≠6:=fun h=>by rw[h]at b;revert b;decide
   have K:=U a;have a5:10<=(E.tk a).k:=by have l:(E.tk a).k=10\/(E.tk a).k=26\/60<(E.tk a).k:=of_decide_eq_true b;omega
   have Z:=ab z;clear z;go_wp2_with fail;refine au (cE c rfl d) fun Q f=>?_;go_wp2_with fail;refine au (Jj f b K) fun J e=>?_;obtain⟨X,S,g⟩:=FZ e (.int .i64 (E.tk a).k) (.int .i64 (sH (E.tk a).k)) (.int .i64 (FL (E.tk a).k));obtain⟨w,A,u⟩:=JJ g;go_wp2_with fail;clear S;refine au (aU g rfl d Y) fun b3 H=>?_;obtain⟨w,A,u⟩:=JJ H;go_wp2_with fail;refine(cM H an (by omega)).mono ?_;rintro h bd ⟨b0,bh,rfl,s⟩;obtain⟨w,A,u⟩:=JJ s;obtain⟨bD,bE,bn,bs,br,bN⟩:=dZ (sT s) rfl;go_wp2_with fail;have al:=ab s;refine(Ji al (t:=E.tk i) rfl (by omega) ak a5 K).mono ?_;rintro h bk ⟨av,ar,rfl,V⟩;have a1:=sT V;go_wp2_with fail;go_roundg am
   case measure=>omega
   case rel=>exact⟨k1,_,av,ar,rfl,Z.out,a1.out⟩
end
section
variable {E : Pe} {i j k k1 : Nat} {x y R Ex : Fo}
def Ke(E:Pe)(k:Int):FuncId×Array Value:=
 if k=25 then(209,#[pV E,.int .i64 21])
 else if k=62 then(209,#[pV E,.int .i64 19])
 else if k=50 then(209,#[pV E,.int .i64 22])
 else if k=69 then(209,#[pV E,.int .i64 20])
 else if k=3 then(171,#[pV E,.int .i64 24])
 else if k=4 then(171,#[pV E,.int .i64 25])
 else if k=24 then(130,#[pV E,.int .i64 20])
 else if k=29 then(130,#[pV E,.int .i64 21])
 else if k=17 then(130,#[pV E,.int .i64 22])
 else if k=49 then(130,#[pV E,.int .i64 27])
 else if k=42 then(210,#[pV E])
 else if k=1 then(135,#[pV E])
 else(135,#[pV E])
theorem gq{q:Int}(e:(E.tk i).k=q)(o:i<E.n)(a:q=25\/q=62\/q=50\/q=69\/q=3\/q=4\/q=24\/q=29\/q=17\/q=49\/q=42\/q=1\/q=40)(b:CN E (Ke E q).1 (Ke E q).2 i R j):CN E 190 #[pV E] i R j:=by
 rcases a with rfl|rfl|rfl|rfl|rfl|rfl|rfl|rfl|rfl|rfl|rfl|rfl|rfl;all_goals
  simp only[Ke]at b;simp at b;intro p c a;have g:=Sw.start c;clear c;go_in;go_wp2_with fail;refine au (cE g e (by omega)) fun l d=>?_;go_wp2_with fail;refine(cM d b a).mono ?_;rintro m r ⟨h,p2,rfl,f⟩;go_wp2_with fail;go_ret;exact⟨_,rfl,f⟩
theorem Kf(b:(E.tk i).k=18)(q:i<E.n)(g:CN E 167 #[pV E,.agg (bg 18 (E.tk i))] (i+1) R j):CN E 190 #[pV E] i (R) (j):=by
 intro s a d;have h:=Sw.start a;clear a;go_in;go_wp2_with fail;refine au (cE h b (by omega)) fun l c=>?_;go_wp2_with fail;refine au (aU c b (by omega) (by decide)) fun t f=>?_;go_wp2_with fail;refine(cM f g d).mono ?_;rintro o r ⟨p,m,rfl,e⟩;go_wp2_with fail;go_ret;exact⟨_,rfl,e⟩
theorem Kg{m:Nat}(z:(E.tk i).k=42)(bn:i<E.n)(W:Es E (CN E 227 #[pV E]) m (i+1) Ex j)(a1:(E.tk j).k=43)(a7:j+1<E.n):CN E 210 #[pV E] i (one (bH 35 (E.tk i) (E.tk j).t) Ex) (j+1):=by
 intro ap V ao;have Z:=Sw.start V;have ak:=ab W;simp only[ag]at ao;clear V W;go_in;go_wp2_with fail;refine au (aU Z z (by omega) (by decide)) fun a3 U=>?_;obtain⟨bd,X,d⟩:=dv U z;simp only[bg]at X;have Y:=ab d;go_wp2_with fail;clear X Z U d;go_loopg [4] m (fun gk ar wr=>∃(k:Nat) (D S:Fo) (H:Option Addr) (n J:Nat) (us:List Value),ar= .slice H n J/\Hid (Es E (CN E 227 #[pV E]) gk k S j/\Sw E ap wr k (.slice H n J) us D us [tkB a3.heap.size (E.tk i)] []/\D.app S=Ex))
 case atStart=>exact⟨i+1,.nil,Ex,none,0,0,[],rfl,ak.out,Y.out,rfl⟩
 case round=>
  clear Y ak;obtain⟨bk,D,S,H,n,J,us,rfl,al⟩:=hrel;obtain⟨a0,T,c⟩:=al.out;have d:=ab T;have an:=mo.len _ _ T.nn;clear T al;cases a0 with
  |stop w h=>
   rw[Fo.app_nil]at c;go_wp2_with fail;refine au (iG d a1 h) fun af f=>?_;obtain⟨bb,bh,g,a9,a8,bl⟩:=dZ f z;clear an;go_wp2_with fail;refine au (bL f z (by omega) (by omega) 35 _ _ _) fun a b=>?_;subst c;go_wp2_with fail;go_ret;exact⟨_,rfl,fR b (bH 35 (E.tk i) (E.tk j).t) rfl rfl rfl rfl⟩
  |@com C _ k1 _ g p w h F B K v=>
   have a4:D.sz+(g.sz+p.sz)<=50000000:=by have e:=congrArg Fo.sz c;simp only[Fo.sz_app]at e;omega
   have a2:=D.len_le;have q:=cK c v;clear c v;go_wp2_with fail;refine au (iY d w h) fun af f=>?_;go_wp2_with fail;refine(cM f F (by omega)).mono ?_;rintro e a ⟨o,s,rfl,b⟩;go_wp2_with (at_builtin;refine bV rfl _ _ rfl rfl (sB b (ax a _)).out.ro rfl (World.ownsRow_lit (base:=a.heap.size) (e:=51) (size:=1) a #[.iface o s] 1 (Nat.le_refl _) (by unfold maxLen;omega) rfl) (us:=[.iface o s]) (by intro a6 N;rw[List.mem_singleton.1 N];rfl) (by simp only[List.length_cons,List.length_nil];omega) (by rw[World.size_alloc];have:=b.out.gr.size;omega) ?_;intro G L I av u A r l;have M:=(sB b (ax a _)).out.put u r l;clear u A r l);refine au (iG M B K) fun am Q=>?_;have O:=ab Q;go_wp2_with fail;go_roundg C
   case measure=>omega
   case rel=>exact⟨(k1+1),D.app g,p,G,L,I,_,rfl,q.out.2,O.out,by rw[Fo.app_app];exact q.out.1⟩
  |@last C _ k1 _ g p w h F B K v=>
   have a4:D.sz+(g.sz+p.sz)<=50000000:=by have e:=congrArg Fo.sz c;simp only[Fo.sz_app]at e;omega
   have a2:=D.len_le;have q:=cK c v;clear c v;go_wp2_with fail;refine au (iY d w h) fun af f=>?_;go_wp2_with fail;refine(cM f F (by omega)).mono ?_;rintro e a ⟨o,s,rfl,b⟩;go_wp2_with (at_builtin;refine bV rfl _ _ rfl rfl (sB b (ax a _)).out.ro rfl (World.ownsRow_lit (base:=a.heap.size) (e:=51) (size:=1) a #[.iface o s] 1 (Nat.le_refl _) (by unfold maxLen;omega) rfl) (us:=[.iface o s]) (by intro a6 N;rw[List.mem_singleton.1 N];rfl) (by simp only[List.length_cons,List.length_nil];omega) (by rw[World.size_alloc];have:=b.out.gr.size;omega) ?_;intro G L I av u A r l;have M:=(sB b (ax a _)).out.put u r l;clear u A r l);refine au (iY M B K) fun am Q=>?_;have O:=ab Q;go_wp2_with fail;go_roundg C
   case measure=>omega
   case rel=>exact⟨k1,D.app g,p,G,L,I,_,rfl,q.out.2,O.out,by rw[Fo.app_app];exact q.out.1⟩
theorem Jl(q:(E.tk i).k≠48)(r:(E.tk i).k≠44)(h:(E.tk i).k≠6)(ao:i<E.n)(w:CN E 134 #[pV E] i x j)(S:i+1<=j)(G:j<=E.n):CN E 227 #[pV E] i (one (bH 40 (E.tk i) (E.tk (j-1)).t) x) (j):=by
 intro F b o;have s:=Sw.start b;clear b;simp only[ag,Fo.sz_app]at o;have u:((E.tk i).k==48)=false:=by simp[q]
 have p:((E.tk i).k==44)=false:=by simp[r]
 obtain⟨ap,a⟩:=ah ((E.tk i).k);rw[a]at u p h;go_in;go_wp2_with fail;refine au (gL s a (by omega) h) fun T m=>?_;obtain⟨X,e,d⟩:=dv m a;simp only[bg]at e;obtain⟨an,I,K,B,H,N⟩:=dZ d a;go_wp2_with fail;refine(cM d w (by omega)).mono ?_;rintro C W ⟨g,c,rfl,f⟩;clear e;obtain⟨Y,af,Q,V,U,ak⟩:=dZ f a;obtain⟨al,M,l⟩:=fe f [.iface g c] #[.iface g c] rfl 1 rfl (by decide);obtain⟨Z,am,O,J,z,A⟩:=dZ l a;go_wp2_with fail;refine au (bL l a (by omega) (by omega) 40 _ _ _) fun L v=>?_;go_wp2_with fail;go_ret;exact⟨_,rfl,fR v (bH 40 (E.tk i) (E.tk (j-1)).t) rfl rfl rfl rfl⟩
theorem Jm(a:(E.tk i).k=44)(a3:i<E.n)(C:CN E 134 #[pV E] (i+1) x k)(z:(E.tk k).k=45)(w:(E.tk (k+1)).k=47)(V:k+1<E.n)(B:CN E 134 #[pV E] (k+2) y j)(J:i+1<=j)(af:j<=E.n):CN E 227 #[pV E] i (one (bH 41 (E.tk i) (E.tk (j-1)).t) (x.app y)) (j):=by
 intro X b q;have u:=Sw.start b;clear b;simp only[ag,Fo.sz_app]at q;go_in;go_wp2_with fail;refine au (gL u a (by omega) (by decide)) fun S p=>?_;obtain⟨Y,h,e⟩:=dv p a;simp only[bg]at h;obtain⟨a2,ap,a0,Q,am,a4⟩:=dZ e a;go_wp2_with fail;refine au (aU e a (by omega) (by decide)) fun G F=>?_;clear h;go_wp2_with fail;refine(cM F C (by omega)).mono ?_;rintro s W ⟨d,c,rfl,v⟩;go_wp2_with fail;refine au (aU v z (by omega) (by decide)) fun M r=>?_;go_wp2_with fail;refine au (aU r w (by omega) (by decide)) fun K o=>?_;go_wp2_with fail;refine(cM o B (by omega)).mono ?_;rintro s ao ⟨g,f,rfl,m⟩;obtain⟨Z,al,H,T,U,an⟩:=dZ m a;obtain⟨a1,O,l⟩:=fe m [.iface d c,.iface g f] #[.iface d c,.iface g f] rfl 2 rfl (by decide);obtain⟨ak,av,a5,ar,L,N⟩:=dZ l a;go_wp2_with fail;refine au (bL l a (by omega) (by omega) 41 _ _ _) fun I A=>?_;go_wp2_with fail;go_ret;exact⟨_,rfl,fR A (bH 41 (E.tk i) (E.tk (j-1)).t) rfl rfl rfl rfl⟩
theorem Hu(a:(E.tk i).k=48)(p:(E.tk (i+1)).k=1)(u:(E.tk (i+2)).k=47)(J:i+2<E.n)(v:CN E 134 #[pV E] (i+3) x j)(X:i+3<=j)(L:j<=E.n):CN E 227 #[pV E] i (one (nd 42 (E.tk i) (E.tk (j-1)).t 0 0 (E.tk (i+1)).x []) x) (j):=by
 intro K b m;have q:=Sw.start b;clear b;simp only[ag,Fo.sz_app]at m;have C:=Fg;go_in;go_wp2_with fail;refine au (gL q a (by omega) (by decide)) fun Y l=>?_;obtain⟨am,e,d⟩:=dv l a;simp only[bg]at e;obtain⟨a0,O,S,G,N,U⟩:=dZ d a;go_wp2_with fail;refine au (aU d a (by omega) (by decide)) fun A z=>?_;clear e;go_wp2_with fail;refine au (aU z p (by omega) (by decide)) fun H w=>?_;simp only[bg];go_wp2_with fail;refine au (aU w u (by omega) (by decide)) fun M s=>?_;go_wp2_with fail;refine(cM s v (by omega)).mono ?_;rintro I ak ⟨g,c,rfl,f⟩;obtain⟨al,ao,W,af,Z,ap⟩:=dZ f a;obtain⟨ar,T,h⟩:=fe f [.iface g c] #[.iface g c] rfl 1 rfl (by decide);obtain⟨an,av,V,Q,B,F⟩:=dZ h a;go_wp2_with fail;refine au (bL h a (by omega) (by omega) 42 _ _ _) fun o r=>?_;go_wp2_with fail;go_ret;exact⟨_,rfl,jJ (nk:=42) (by decide) o.heap.size ▸ fR r (nd 42 (E.tk i) (E.tk (j-1)).t 0 0 (E.tk (i+1)).x []) (oU (by decide) _ _ _) rfl (by show _=(_++yp _ _ (aY 42)).toArray;rw[show aY 42=3 by decide];rfl) (by show _=iU (aY 42);rw[show aY 42=3 by decide];rfl)⟩
end
section
variable {E : Pe} {i j k k1 : Nat} {x y R Ex : Fo}
theorem mo.top{w:World}{lo:Nat}{e:Option Nat}{N:Nd}{ks:Fo}{t:TypeId}{p:Value}(h:mo w lo e (one N ks) [.iface t p]):∃b,t=eK (aY N.k)/\p= .pointer (some ⟨b,0,none⟩)/\w.cell? ⟨b,0,none⟩=some (.int .i64 N.k):=by
 obtain⟨f,b,g,l,n,o,r,m,q,d,⟨_,_,c,_⟩,_⟩:=h;have a:=(List.cons.inj d.1).1;unfold bi at a;cases a;exact⟨b,rfl,rfl,by unfold bK at c;rw[cell_of_row _ _ _ _ _ _ c];rfl⟩
theorem Jn{N:Nd}{ks:Fo}(c:(E.tk i).k=40)(a1:i<E.n)(w:CN E 134 #[pV E] (i+1) (one N ks) k)(s:(E.tk k).k=41)(ao:i+1<=k)(an:k+1<E.n):CN E 170 #[pV E] i (dE N ks (E.tk i) (E.tk k).t) (k+1):=by
 intro b z am;have u:=Sw.start z;clear z;have av:(one N ks).sz<=(dE N ks (E.tk i) (E.tk k).t).sz:=by unfold dE;split<;>simp only[ag]<;>omega
 rcases(by omega:N.k=34\/N.k=27\/(N.k≠34/\N.k≠27)) with hN|hN|hN
 ·go_in;go_wp2_with fail;refine au (aU u c (by omega) (by decide)) fun F h=>?_;obtain⟨I,e,l⟩:=dv h c;simp only[bg]at e;go_wp2_with fail;refine(cM l w (by omega)).mono ?_;rintro B G ⟨C,A,rfl,o⟩;clear e;go_wp2_with fail;refine au (aU o s (by omega) (by decide)) fun J d=>?_;obtain⟨a,rfl,rfl,g⟩:=mo.top (N:=N) (ks:=ks) d.out.nn;have H:=fun b=>qF (aY N.k) a b;have p:=fun b=>bm a b;have r:=g;rw[hN]at r;generalize m:eK (aY N.k)=f at *;clear m g;obtain⟨Y,af,V,X,W,ak⟩:=dZ d c;obtain⟨T,O,q⟩:=fe d [.iface f (.pointer (some ⟨a,0,none⟩))] #[.iface f (.pointer (some ⟨a,0,none⟩))] rfl 1 rfl (by decide);obtain⟨Z,al,U,S,L,M⟩:=dZ q c;go_wp2_with (go_at_call 265;refine bc (p _) ?_);refine au (bL q c (by omega) (by omega) 37 _ _ _) fun K v=>?_;go_wp2_with fail;go_ret;refine⟨_,rfl,?_⟩;unfold dE;rw[if_pos (by omega)];exact fR v (bH 37 (E.tk i) (E.tk k).t) rfl rfl rfl rfl
 ·go_in;go_wp2_with fail;refine au (aU u c (by omega) (by decide)) fun F h=>?_;obtain⟨I,e,l⟩:=dv h c;simp only[bg]at e;go_wp2_with fail;refine(cM l w (by omega)).mono ?_;rintro B G ⟨C,A,rfl,o⟩;clear e;go_wp2_with fail;refine au (aU o s (by omega) (by decide)) fun J d=>?_;obtain⟨a,rfl,rfl,g⟩:=mo.top (N:=N) (ks:=ks) d.out.nn;have H:=fun b=>qF (aY N.k) a b;have p:=fun b=>bm a b;have r:=g;rw[hN]at r;generalize m:eK (aY N.k)=f at *;clear m g;obtain⟨Y,af,V,X,W,ak⟩:=dZ d c;obtain⟨T,O,q⟩:=fe d [.iface f (.pointer (some ⟨a,0,none⟩))] #[.iface f (.pointer (some ⟨a,0,none⟩))] rfl 1 rfl (by decide);obtain⟨Z,al,U,S,L,M⟩:=dZ q c;go_wp2_with (go_at_call 265;refine bc (p _) ?_);refine au (bL q c (by omega) (by omega) 37 _ _ _) fun K v=>?_;go_wp2_with fail;go_ret;refine⟨_,rfl,?_⟩;unfold dE;rw[if_pos (by omega)];exact fR v (bH 37 (E.tk i) (E.tk k).t) rfl rfl rfl rfl
 ·go_in;go_wp2_with fail;refine au (aU u c (by omega) (by decide)) fun F h=>?_;obtain⟨I,e,l⟩:=dv h c;simp only[bg]at e;go_wp2_with fail;refine(cM l w (by omega)).mono ?_;rintro B G ⟨C,A,rfl,o⟩;clear e;go_wp2_with fail;refine au (aU o s (by omega) (by decide)) fun J d=>?_;obtain⟨a,rfl,rfl,g⟩:=mo.top (N:=N) (ks:=ks) d.out.nn;have H:=fun b=>qF (aY N.k) a b;have p:=fun b=>bm a b;have a0:(N.k==34)=false:=by simp[hN.1]
  have ar:(N.k==27)=false:=by simp[hN.2]
  generalize m:eK (aY N.k)=f at *;clear m;go_wp2_with (first|(go_at_call 265;refine bc (p _) ?_));go_ret;refine⟨_,rfl,?_⟩;unfold dE;rw[if_neg (by omega)];exact d.out.drop (fun ap Q=>by cases Q) (.inr rfl)
theorem Jo(c:(E.tk i).k=40)(f:(E.tk (i+1)).k=41)(l:i+1<E.n):CR E 172 #[pV E] i (.nil) (i+2):=by
 intro m a h;have e:=Sw.start a;clear a;go_in;go_wp2_with fail;refine au (aU e c (by omega) (by decide)) fun g b=>?_;go_wp2_with fail;refine au (iG b f (by omega)) fun o d=>?_;go_wp2_with fail;go_ret;exact⟨_,[],rfl,d⟩
theorem Kh(c:(E.tk i).k=40)(B:i+1<E.n)(h:(E.tk (i+1)).k≠41)(d:CR E 165 #[pV E,.func (.func 134) #[pV E] #[]] (i+1) Ex k)(o:(E.tk k).k=41)(A:k<E.n):CR E 172 #[pV E] i (Ex) (k+1):=by
 intro C a w;have l:=Sw.start a;clear a;go_in;go_wp2_with fail;refine au (aU l c (by omega) (by decide)) fun s b=>?_;go_wp2_with fail;refine au (iY b h (by omega)) fun F e=>?_;go_wp2_with fail;refine(kN e d (by omega)).mono ?_;rintro z r ⟨u,t,p,f,rfl,m,q⟩;go_wp2_with fail;refine au (aU m o (by omega) (by decide)) fun v g=>?_;go_wp2_with fail;go_ret;exact⟨_,f,rfl,g⟩
theorem F3{q:Int}{m:Nat}(a:(E.tk i).k=q)(ch:i<E.n)(b6:(q=1/\CN E 171 #[pV E,.int .i64 26] i x k)\/(q=40/\CN E 170 #[pV E] i x k))(S:Ps E (fun i x j=>CN E 134 #[pV E] i x j) (fun i x j=>CR E 165 #[pV E,.func (.func 134) #[pV E] #[]] i x j) (E.tk i) m x k R j):CN E 135 #[pV E] i R j:=by
 intro an bs cl;have Q:=Sw.start bs;have bn:Hid (Ps E (fun i x j=>CN E 134 #[pV E] i x j) (fun i x j=>CR E 165 #[pV E,.func (.func 134) #[pV E] #[]] i x j) (E.tk i) m x k R j):=S;have cr:=S.le;clear bs S;rcases b6 with⟨rfl,af⟩|⟨rfl,af⟩
 case' inl=>
  go_in;go_wp2_with fail;refine au (gL Q a (by omega) (by decide)) fun bA z=>?_;obtain⟨b4,C,c⟩:=dv z a;simp only[bg]at C;obtain⟨ak,ap,V,al,ao,a0⟩:=dZ c a;go_wp2_with fail;refine(cM c af (by omega)).mono ?_;rintro O G ⟨bd,bt,rfl,d⟩;clear C;have ar:=ab d;go_wp2_with fail;clear Q z c d ak ap V al ao a0
 case' inr=>
  go_in;go_wp2_with fail;refine au (gL Q a (by omega) (by decide)) fun bA z=>?_;obtain⟨b4,C,c⟩:=dv z a;simp only[bg]at C;obtain⟨ak,ap,V,al,ao,a0⟩:=dZ c a;go_wp2_with fail;refine(cM c af (by omega)).mono ?_;rintro O G ⟨bd,bt,rfl,d⟩;clear C;have ar:=ab d;go_wp2_with fail;clear Q z c d ak ap V al ao a0
 all_goals
  go_loopg [4] m (fun gk b2 wr=>∃(k:Nat) (r:Fo) (bD:TypeId) (bx:Value),b2= .iface bD bx/\Hid (Ps E (fun i x j=>CN E 134 #[pV E] i x j) (fun i x j=>CR E 165 #[pV E,.func (.func 134) #[pV E] #[]] i x j) (E.tk i) gk r k R j/\Sw E an wr k s0 [] r [.iface bD bx] [tkB bA.heap.size (E.tk i)] []))
  case atStart=>exact⟨k,x,bd,bt,rfl,bn.out,ar.out⟩
  case round=>
   clear ar bn;obtain⟨o,r,h,g,rfl,bo⟩:=hrel;obtain⟨b3,br⟩:=bo.out;have c:=ab br;clear br bo;cases b3 with
   |stop e p=>
    have cs:((E.tk j).k==48)=false:=by have:=of_decide_eq_false p;simp;omega
    have cm:((E.tk j).k==44)=false:=by have:=of_decide_eq_false p;simp;omega
    have cn:((E.tk j).k==40)=false:=by have:=of_decide_eq_false p;simp;omega
    go_wp2_with fail;refine au (cE c rfl e) fun N s=>?_;go_wp2_with fail;go_ret;exact⟨_,rfl,s.out.drop (fun cq b7=>by cases b7) (.inr rfl)⟩
   |@dot l _ _ _ _ e p A b=>
    have cf:=Fg;have u:Hid (Ps E (fun i x j=>CN E 134 #[pV E] i x j) (fun i x j=>CR E 165 #[pV E,.func (.func 134) #[pV E] #[]] i x j) (E.tk i) l (one (nd 33 (E.tk i) (E.tk (o+1)).t 0 0 (E.tk (o+1)).x []) r) (o+2) _ j):=b;have w:=b.le;simp only[ag,Fo.sz_app]at w;clear b;go_wp2_with fail;refine au (cE c e (by omega)) fun G d=>?_;go_wp2_with fail;refine au (aU d e (by omega) (by decide)) fun N s=>?_;go_wp2_with fail;refine au (aU s p (by omega) (by decide)) fun av f=>?_;simp only[bg];obtain⟨a3,Y,a1,a2,X,a8⟩:=dZ f a;obtain⟨bE,Z,M⟩:=fe f [.iface h g] #[.iface h g] rfl 1 rfl (by decide);obtain⟨cb,cc,b9,b8,bN,b0⟩:=dZ M a;go_wp2_with fail;refine au (bL M a (by omega) (by omega) 33 _ _ _) fun U t=>?_;clear Z;go_wp2_with fail;go_roundg l
    case measure=>omega
    case rel=>
     refine⟨o+2,_,_,_,rfl,u.out,?_⟩;rw[<-jJ (nk:=33) (by decide)];exact(mq t (nd 33 (E.tk i) (E.tk (o+1)).t 0 0 (E.tk (o+1)).x []) (oU (by decide) _ _ _) rfl (by show _=(_++yp _ _ (aY 33)).toArray;rw[show aY 33=3 by decide];rfl) (by show _=iU (aY 33);rw[show aY 33=3 by decide];rfl)).out
   |@sq l _ k1 _ _ B _ e p A a9 bw b=>
    have u:Hid (Ps E (fun i x j=>CN E 134 #[pV E] i x j) (fun i x j=>CR E 165 #[pV E,.func (.func 134) #[pV E] #[]] i x j) (E.tk i) l (one (bH 32 (E.tk i) (E.tk k1).t) (r.app B)) (k1+1) _ j):=b;have w:=b.le;simp only[ag,Fo.sz_app]at w;clear b;go_wp2_with fail;refine au (cE c e (by omega)) fun G d=>?_;go_wp2_with fail;refine au (aU d e (by omega) (by decide)) fun N s=>?_;go_wp2_with fail;refine(cM s A (by omega)).mono ?_;rintro O av ⟨bl,bh,rfl,f⟩;go_wp2_with fail;refine au (aU f a9 (by omega) (by decide)) fun ck bk=>?_;obtain⟨a3,Y,a1,a2,X,a8⟩:=dZ bk a;obtain⟨bE,Z,M⟩:=fe bk [.iface h g,.iface bl bh] #[.iface h g,.iface bl bh] rfl 2 rfl (by decide);obtain⟨cb,cc,b9,b8,bN,b0⟩:=dZ M a;go_wp2_with fail;refine au (bL M a (by omega) (by omega) 32 _ _ _) fun U t=>?_;clear Z;go_wp2_with fail;go_roundg l
    case measure=>omega
    case rel=>exact⟨k1+1,_,_,_,rfl,u.out,(mq t (bH 32 (E.tk i) (E.tk k1).t) rfl rfl rfl rfl).out⟩
   |@call0 l _ _ _ _ e p A b=>
    have u:Hid (Ps E (fun i x j=>CN E 134 #[pV E] i x j) (fun i x j=>CR E 165 #[pV E,.func (.func 134) #[pV E] #[]] i x j) (E.tk i) l (one (bH 34 (E.tk i) (E.tk (o+1)).t) r) (o+2) _ j):=b;have w:=b.le;simp only[ag,Fo.sz_app]at w;clear b;go_wp2_with fail;refine au (cE c e (by omega)) fun G d=>?_;obtain⟨N,W,s⟩:=fe d [.iface h g] #[.iface h g] rfl 1 rfl (by decide);go_wp2_with fail;clear W;refine(CO s (Jo e p (by omega)) (by decide)).mono ?_;rintro O av ⟨b1,b5,ca,I,rfl,f,v⟩;go_wp2_with (at_builtin;refine bV rfl _ _ rfl rfl f.out.ro rfl v.out.1 v.out.2.1 (by have:=v.out.2.2;have:Fo.nil.len=0:=rfl;have:=(.nil:Fo).len_le;show 1+_<=_;omega) (by have:=f.out.gr.size;omega) ?_;intro a6 am a4 bb F T L J;have H:=f.out.put F L J;clear F T L J;have K:Hid (Sw E an bb (o+2) (.slice a6 am a4) ([.iface h g]++I) (r.app .nil) ([.iface h g]++I) _ _):=H;clear H;obtain⟨a3,Y,a1,a2,X,a8⟩:=dZ K a);refine au (bL K a (by omega) (by omega) 34 _ _ _) fun U t=>?_;go_wp2_with fail;go_roundg l
    case measure=>omega
    case rel=>exact⟨(o+2),_,_,_,rfl,u.out,(mq (Fo.app_nil r ▸ t) (bH 34 (E.tk i) (E.tk (o+1)).t) rfl rfl rfl rfl).out⟩
   |@call l _ k1 _ _ B _ e p A a9 bw cg b=>
    have u:Hid (Ps E (fun i x j=>CN E 134 #[pV E] i x j) (fun i x j=>CR E 165 #[pV E,.func (.func 134) #[pV E] #[]] i x j) (E.tk i) l (one (bH 34 (E.tk i) (E.tk k1).t) (r.app B)) (k1+1) _ j):=b;have w:=b.le;simp only[ag,Fo.sz_app]at w;clear b;go_wp2_with fail;refine au (cE c e (by omega)) fun G d=>?_;obtain⟨N,W,s⟩:=fe d [.iface h g] #[.iface h g] rfl 1 rfl (by decide);go_wp2_with fail;clear W;refine(CO s (Kh e p A a9 bw (by omega)) (by omega)).mono ?_;rintro O av ⟨b1,b5,ca,I,rfl,f,v⟩;go_wp2_with (at_builtin;refine bV rfl _ _ rfl rfl f.out.ro rfl v.out.1 v.out.2.1 (by have:=v.out.2.2;have:Fo.nil.len=0:=rfl;have:=(B:Fo).len_le;show 1+_<=_;omega) (by have:=f.out.gr.size;omega) ?_;intro a6 am a4 bb F T L J;have H:=f.out.put F L J;clear F T L J;have K:Hid (Sw E an bb (k1+1) (.slice a6 am a4) ([.iface h g]++I) (r.app B) ([.iface h g]++I) _ _):=H;clear H;obtain⟨a3,Y,a1,a2,X,a8⟩:=dZ K a);refine au (bL K a (by omega) (by omega) 34 _ _ _) fun U t=>?_;go_wp2_with fail;go_roundg l
    case measure=>omega
    case rel=>exact⟨(k1+1),_,_,_,rfl,u.out,(mq t (bH 34 (E.tk i) (E.tk k1).t) rfl rfl rfl rfl).out⟩
end
section
variable {E : Pe} {i j k k1 : Nat} {x y R Ex : Fo}
abbrev lN(vn:Value)(r:Bool):Array Value:=#[.int .i64 0,.int .i64 0,.int .i64 0,.int .i64 0,.int .i64 0,.slice none 0 0,vn,.bool r]
theorem Sw.setL{W w:World}{b q:Nat}{cs:Array Value}{u:Value}{T:Bxs}{m:List (Value×List ByteArray)}(h:Sw E W w i s0 [] .nil [] ((b,153,cs)::T) m)(H:∀p∈T,p.2.1≠153):Sw E W (w.setCell ⟨b,q,none⟩ u) i s0 [] .nil [] ((b,153,cs.setIfInBounds q u)::T) m:=by
 obtain⟨g,A,l⟩:=h.tb _ (List.mem_cons_self ..);have a:∀{k:Nat}{cs:Array Value}{e:TypeId}{d:Nat×Nat},w.heap[k]?=some (.cells cs e d)->e≠153->(w.setCell ⟨b,q,none⟩ u).heap[k]?=some (.cells cs e d):=fun {k cs e d} c s=>by
  rw[heap_setCell_other _ _ _ _ (fun a=>by rw[a]at c;have:=l.symm.trans c;simp only[Option.some.injEq,Obj.cells.injEq]at this;exact s this.2.1.symm)];exact c
 obtain⟨K,d,t,v⟩:=h.pp.tks;obtain⟨B,L,M⟩:=h.pp.pw;have F:=h.lt;have Q:=h.pp.pg;refine⟨⟨h.pp.hn,⟨K,d,a t (by decide),v⟩,a h.pp.row (by decide),Q,B,L,(heap_setCell_other _ _ _ _ (show 1≠b from fun x=>by simp only at g;omega)).trans M⟩,?_,F,World.ownsRow_nil _ _ _ _,⟨[],⟨rfl,rfl⟩,by obtain⟨S,o,O⟩:=h.nb;obtain⟨_,rfl⟩:=o;exact O⟩,fun p hp=>?_,fun p hp=>?_⟩
 ·exact h.gr.andThen (ci (dt w _) q u) (fun k c=> .inl (by cases c;exact g))
 ·rcases List.mem_cons.1 hp with rfl|hp
  ·exact⟨g,A,heap_setCell_same _ b q _ _ _ l⟩
  ·exact⟨(h.tb p (List.mem_cons_of_mem _ hp)).1,(h.tb p (List.mem_cons_of_mem _ hp)).2.1,a (h.tb p (List.mem_cons_of_mem _ hp)).2.2 (H p hp)⟩
 ·obtain⟨n,f⟩:=h.nm p hp;refine⟨n,?_⟩;rcases f with f|⟨N,J,G,z,C,r,I⟩
  ·exact .inl f
  ·exact .inr ⟨N,J,G,z,C,a r (by decide),I⟩
theorem zT{w:World}{b:Nat}{vn:Value}{r:Bool}(h:w.heap[b]?=some (.cells (lN vn r) 153 (0,0))):w.cell? ⟨b,6,none⟩=some vn/\w.cell? ⟨b,7,none⟩=some (.bool r)/\∀j,w.frozen? ⟨b,j,none⟩=false:=⟨by rw[cell_of_row _ _ _ _ _ _ h];rfl,by rw[cell_of_row _ _ _ _ _ _ h];rfl,fun j=>frozen_of_row _ _ _ _ _ h⟩
theorem Fh{W w:World}{b:Nat}{vn:Value}{r:Bool}{T:Bxs}{a:List (Value×List ByteArray)}(S:Hid (Sw E W w i s0 [] .nil [] ((b,153,lN vn r)::T) a)):w.cell? ⟨b,6,none⟩=some vn/\w.cell? ⟨b,7,none⟩=some (.bool r)/\∀j,w.frozen? ⟨b,j,none⟩=false:=zT (S.out.tb _ (List.mem_cons_self ..)).2.2
end
end Go.Proofs.YtcbmoiabehpliaaGreatDoor
