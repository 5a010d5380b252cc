import Derived.Test.YtbkolnpplhbdmaaGreatDoorHPl20
import Derived.Test.YtbkolnpplhbdmaaGreatDoorHPl25
import Derived.Test.YtbkolnpplhbdmaaGreatDoorHPl26
set_option linter.all false
set_option maxRecDepth 100000
set_option maxHeartbeats 12800000
open Go.Proofs.Tryz
open Option renaming some->O,none->Q
open Go.Value renaming slice->U,pointer->Y,int->Z,iface->A0,bool->Bc,ownBlock->Bk,slice->Br,int->Ce,nilIface->Ck,tuple->E3,string->F1
open Go renaming undef->V,Value->Ad,World->A3,Calls->B4,grownBy_putObj'->B6,TypeId->B7,wpAnyH_ready->Fs,maxLen->G0
open Go.IntKind renaming i64->X
open Go.Obj renaming cells->Ak
open Bool renaming false->Ax,true->B1
open Go.Proofs.Tryz renaming prog->A1
open Go.World renaming putObj_heap_other->A2,setCell->E1,news_of_block->E2
open List renaming set->A5,replicate->B2
open Go.KeepsOthers renaming setCell->A9
open Go.Ending renaming returned->Bn
open Go.RowKit renaming Hid->B0,intOf->C2,Below->F2
open Go.Lib renaming asciiSpaceTab->B3,TabIs->F0
namespace Go.Proofs.YtbkolnpplhbdmaaGreatDoor
open Go.RowKit Go.Maps Go.WideMaps
variable{B b base bn c g i j k lb m mb n p r:Nat}{M:List (Value×List ByteArray)}{N:Nd}{S:List Int}{T:Bxs}{W W' w w0:World}{kv v vk vn vs:Value}{ns:List Nd}{t:TypeId}{xs:List Value}
def Jm:∀(ts:List Tk)(q i:Nat)(T:Tk),ts[q]?=O T->i<6->(Am ts)[q*6+i]?=(cTk T)[i]?
 |[],q,i,T,h,b=>by simp at h
 |a::r,0,i,T,h,b=>by
  simp at h;subst h;show(cTk a++Am r)[0*6+i]?=_;rw[gw (by show 0*6+i<6;omega),Nat.zero_mul,dv]
 |a::r,q+1,i,T,h,b=>by
  show(cTk a++Am r)[(q+1)*6+i]?=_;rw[eD (by show 6<=_;omega),show(q+1)*6+i-(cTk a).length=q*6+i by show _-6=_;omega];exact Jm r q i T (by simpa using h) b
def aiI{c:Array Ad}{ts:List Tk}{tk:Nat->Tk}(h:c.toList.take (n*6)=Am ts)(j:ts.length=n)(g:∀q T,ts[q]?=O T->{T with l:=(tk q).l}=tk q/\((tk q).k≠6->T.l=(tk q).l)):TkR c tk n:=by
 intro q m;have d:=aw (show q<ts.length by omega);obtain⟨e,f⟩:=g q _ d;generalize ts[q]=T at d e f;have a:∀b,b<6->c[q*6+b]?=(cTk T)[b]?:=λb i=>by rw[<-Jm ts q b T d i,<-h,nh,ab (by omega),vy]
 refine⟨T.l,?_,?_,?_,a 3 (by omega),?_,?_,f⟩;all_goals rw[<-e]
 .exact a 0 (by omega)
 .exact a 1 (by omega)
 .exact a 2 (by omega)
 .exact a 4 (by omega)
 .exact a 5 (by omega)
def nI(s:ByteArray):List Tk×Int:=if 0<=(mj s).2.2 then([],(mj s).2.2) else if(dm (mj s).2.1 6).2=B1 then((mj s).1, -1) else([],(s.size:Nat))
def TkP(s:ByteArray)(w:A3)(e:Ending)(b:A3):Prop:=∃a c,e= Bn (E3 #[U a (nI s).1.length c,Z X (nI s).2])/\b.ownsRow w.heap.size 49 6 (U a (nI s).1.length c) (nI s).1.length (Am (nI s).1)/\cg w b
def row3{a b c:Ad}(h:w.heap[r]?=O (Ak #[a,b,c] t (0,0))):w.cell? ⟨r,0,Q⟩=O a/\w.cell? ⟨r,1,Q⟩=O b/\w.cell? ⟨r,2,Q⟩=O c/\∀j,w.frozen? ⟨r,j,Q⟩=Ax:=
 ⟨by rw[aj _ _ _ _ _ _ h];rfl,by rw[aj _ _ _ _ _ _ h];rfl,by rw[aj _ _ _ _ _ _ h];rfl,λj=>cH _ _ _ _ _ h⟩
def set3{d e f:Ad}(h:w.heap[r]?=O (Ak #[d,e,f] t (0,0)))(a b c:Ad):(((w.setCell ⟨r,0,Q⟩ a).setCell ⟨r,1,Q⟩ b).setCell ⟨r,2,Q⟩ c).heap[r]?=O (Ak #[a,b,c] t (0,0)):=
 bp _ r 2 _ _ _ (bp _ r 1 _ _ _ (bp _ r 0 _ _ _ h))
def am2(h:k≠r)(a b c:Ad):(((w.setCell ⟨r,0,Q⟩ a).setCell ⟨r,1,Q⟩ b).setCell ⟨r,2,Q⟩ c).heap[k]?=w.heap[k]?:=
 (ay _ _ _ _ h).trans ((ay _ _ _ _ h).trans (ay _ _ _ _ h))
def aiJ{a:A3}(h:F2 r a w)(b c f:Ad):F2 r a (((w.setCell ⟨r,0,Q⟩ b).setCell ⟨r,1,Q⟩ c).setCell ⟨r,2,Q⟩ f):=by
 have d:F2 r a (w.setCell ⟨r,0,Q⟩ b):=h.setCell (ag _) _;have e:F2 r a ((w.setCell ⟨r,0,Q⟩ b).setCell ⟨r,1,Q⟩ c):=d.setCell (ag _) _;exact e.setCell (ag _) _
def Acc(s:ByteArray):Prop:=(mj s).2.2= -1/\(dm (mj s).2.1 6).2=B1
def A6(s:ByteArray)(ns:List Nd):Prop:=∃a m R b,s.size<=65536/\Acc s/\nI s=(a, -1)/\PF s a m R b/\eG (rm s R)=(0,0)/\ns=rm s R
def aiK(s:ByteArray):Prop:=∀w,B4 A1 17 #[F1 s] w (TkP s w)
def psV(c a:Int)(v:Ad):Ad:= .agg #[Z X c,Z X a,v]
def Nl(w:A3)(v:Ad)(ns:List Nd):Prop:=∃a b,a.map Mb.N=ns/\Lw w b v a
def Nl.nds(h:Nl w v ns):gg w v ns:=by
 obtain⟨b,c,rfl,a⟩:=h;exact a.nds
def apn(w:A3):Nl w (U Q 0 0) []:=⟨[],0,rfl,fs _ _ _ _,λb a=>by cases a⟩
def PsP(w:A3)(c a:Int)(ns:List Nd)(e:Ending)(b:A3):Prop:=∃v,e= Bn (psV c a v)/\Nl b v ns/\cg w b
def okC(ns:List Nd):Int:=if(eG ns).1=0 then 0 else 2
def okN(ns:List Nd):List Nd:=if(eG ns).1=0 then ns else []
def adI(s:ByteArray):∀(f:Nat)(st:List Int)(p:Nat)(l:Int)(c:List Tk),p<=s.size->c.Pairwise (λa b=>a.f<b.f)->(∀T∈c,0<=T.f/\T.f<(p:Int))->(sD s f st p l c).1.Pairwise (λa b=>a.f<b.f)/\∀T∈(sD s f st p l c).1,0<=T.f
 |0,st,p,l,c,_,_,_=>⟨.nil,λT hT=>by cases hT⟩
 |f+1,st,p,l,c,z,r,k=>by
  have j:∀(g:Tk)(d:Nat),g.f=(p:Int)->p<d->(c++[g]).Pairwise (λa b=>a.f<b.f)/\∀T∈c++[g],0<=T.f/\T.f<(d:Int):=λg d q m=>by
   refine⟨List.pairwise_append.2 ⟨r,List.pairwise_singleton _ _,λa u b h=>?_⟩,λT hT=>?_⟩
   .rw[List.mem_singleton.1 h,q];exact(k a u).2
   .rcases List.mem_append.1 hT with hT|hT
    .have:=k T hT;omega
    .rw[List.mem_singleton.1 hT,q];omega
  have y:∀d,p<d->∀T∈c,0<=T.f/\T.f<(d:Int):=λd m T hT=>by have:=k T hT;omega
  have h:∀e,e<=s.size->e<=blk s (s.size+1) e/\blk s (s.size+1) e<=s.size:=λe w=>ou s (s.size+1) e w;rw[sD];split
  .rename_i m;have:=j ⟨6,(s.size:Nat),(s.size:Nat),l,0,⟨#[]⟩⟩ (p+1) (by show((s.size:Nat):Int)=_;omega) (by omega);exact⟨this.1,λT hT=>(this.2 T hT).1⟩
  .rename_i m;split
   .rename_i t;have o:=nC s p (by omega) (ak0 s p t).1;have i:=h _ o.2.1;split
    .have:=j ⟨5,(p:Nat),((db s p).a:Nat),l,(db s p).n,(db s p).x⟩ (blk s (s.size+1) (db s p).a) rfl (by omega);exact adI s f _ _ _ _ i.2 this.1 this.2
    .exact adI s f _ _ _ _ i.2 r (y _ (by omega))
   .split
    .split
     .rename_i v;have o:=nC s p (by omega) v;have i:=h _ o.2.1;have:=j ⟨ya s p,(p:Nat),((db s p).a:Nat),l,(db s p).n,(db s p).x⟩ (blk s (s.size+1) (db s p).a) rfl (by omega);exact adI s f _ _ _ _ i.2 this.1 this.2
     .exact⟨.nil,λT hT=>by cases hT⟩
    .exact⟨.nil,λT hT=>by cases hT⟩
open Go.Lib (strCells strCells_length)
structure TkO (n:Nat) (ts:List Tk):Prop where
 each:∀T∈ts,0<=T.f/\T.f<=T.t/\T.t<=(n:Int)/\0<=T.l
 next:ts.Pairwise λa b=>a.t<=b.f
def adJ(s:ByteArray):∀(f:Nat)(st:List Int)(p:Nat)(l:Int)(a:List Tk),p<=s.size->TkO s.size a->(∀T∈a,T.t<=(p:Int))->0<=l->TkO s.size (sD s f st p l a).1
 |0,st,p,l,a,_,_,_,_=>⟨λT hT=>(by cases hT),.nil⟩
 |f+1,st,p,l,a,H,i,j,g=>by
  have h:∀(c:Tk)(q b:Nat),c.f=(p:Int)->c.t=(q:Int)->p<=q->q<=s.size->q<=b->0<=c.l->TkO s.size (a++[c])/\∀T∈a++[c],T.t<=(b:Int):=λc q b m o C E F G=>by
   refine⟨⟨λT hT=>?_,List.pairwise_append.2 ⟨i.next,List.pairwise_singleton _ _,λu w B d=>?_⟩⟩,λT hT=>?_⟩
   .rcases List.mem_append.1 hT with hT|hT
    .exact i.each T hT
    .rw[List.mem_singleton.1 hT,m,o];omega
   .rw[List.mem_singleton.1 d,m];exact j u w
   .rcases List.mem_append.1 hT with hT|hT
    .have:=j T hT;omega
    .rw[List.mem_singleton.1 hT,o];omega
  have A:∀b,p<=b->∀T∈a,T.t<=(b:Int):=λb r T hT=>by have:=j T hT;omega
  have d:∀q,q<=s.size->q<=blk s (s.size+1) q/\blk s (s.size+1) q<=s.size:=λq z=>ou s (s.size+1) q z;rw[sD];split
  .rename_i r;exact(h ⟨6,(s.size:Nat),(s.size:Nat),l,0,⟨#[]⟩⟩ s.size s.size (by show((s.size:Nat):Int)=_;omega) rfl (by omega) (by omega) (by omega) g).1
  .rename_i r;split
   .rename_i v;have k:=nC s p (by omega) (ak0 s p v).1;have e:=d _ k.2.1;split
    .have:=h ⟨5,(p:Nat),((db s p).a:Nat),l,(db s p).n,(db s p).x⟩ (db s p).a (blk s (s.size+1) (db s p).a) rfl rfl (by omega) (by omega) (by omega) g;exact adJ s f _ _ _ _ e.2 this.1 this.2 (by omega)
    .exact adJ s f _ _ _ _ e.2 i (A _ (by omega)) (by omega)
   .split
    .split
     .rename_i y;have k:=nC s p (by omega) y;have e:=d _ k.2.1;have:=h ⟨ya s p,(p:Nat),((db s p).a:Nat),l,(db s p).n,(db s p).x⟩ (db s p).a (blk s (s.size+1) (db s p).a) rfl rfl (by omega) (by omega) (by omega) g;exact adJ s f _ _ _ _ e.2 this.1 this.2 g
     .exact⟨λT hT=>(by cases hT),.nil⟩
    .exact⟨λT hT=>(by cases hT),.nil⟩
def adK(s:ByteArray):TkO s.size (nI s).1:=by
 have b:TkO s.size []:=⟨λc a=>(by cases a),.nil⟩;unfold nI;split
 .exact b
 split
 .exact adJ s _ _ _ _ _ (ou s (s.size+1) 0 (aD _)).2 b (λc a=>(by cases a)) (by decide)
 .exact b
def adL{n:Int}:∀(l:List Tk)(lo:Int),l.Pairwise (λa b=>a.f<b.f)->(∀T∈l,lo<=T.f/\T.f<=n)->lo<=n+1->(l.length:Int)<=n+1-lo
 |[],lo,_,_,h=>by simp;omega
 |T::r,lo,j,e,h=>by
  have k:=e T aI;have⟨g,i⟩:=List.pairwise_cons.1 j;have:=adL (n:=n) r (T.f+1) i (λc d=>by have:=g c d;have:=e c (cG _ d);omega) (by omega);rw[bc];simp;omega
def aad(s:ByteArray):(nI s).1.length<=s.size+1:=by
 have e:=adK s;have g:(nI s).1.Pairwise λc d=>c.f<d.f:=by
  unfold nI;split
  .exact .nil
  split
  .exact(adI s (s.size+1) [100,6] (blk s (s.size+1) 0) 1 [] (ou s (s.size+1) 0 (aD _)).2 .nil (λb a=>by cases a)).1
  .exact .nil
 have:=adL (n:=(s.size:Int)) _ 0 g (λb a=>by have:=e.each b a;omega) (by omega);omega
end Go.Proofs.YtbkolnpplhbdmaaGreatDoor
namespace Go.Proofs.YtbkolnpplhbdmaaGreatDoor
open Go.RowKit Go.Maps Go.WideMaps
variable{B b base bn c g i j k lb m mb n p r:Nat}{M:List (Value×List ByteArray)}{N:Nd}{S:List Int}{T:Bxs}{W W' w w0:World}{kv v vk vn vs:Value}{ns:List Nd}{t:TypeId}{xs:List Value}
section
variable {E : Pe} {i j k k1 : Nat} {x y R Ex : Fo}
def Fc{nk:Int}(a:fJ nk=3)(b:Nat):gq nk b= A0 151 (Y (O ⟨b,0,Q⟩)):=by unfold gq;rw[a];rfl
def aae{nk:Int}(a:fJ nk=3)(s:Tk)(e:Int)(x:ByteArray):oJ (nd nk s e 0 0 x []) (fJ nk)=nd nk s e 0 0 x []:=by rw[a];rfl
def aiL(w:i+1<E.n){nk k:Int}(q:k≠6)(c:fJ nk=3)(a:(E.tk i).k=k):CN E 187 #[pV E,Z X nk] i (one (nd nk (E.tk i) (E.tk i).t 0 0 (E.tk i).x []) .nil) (i+1):=by
 intro z p y;have m:=Sw.start p;go_in;go_wp2_with fail;refine dt (lC m a (by omega) q) λw1 o=>?_;have⟨s,r,d⟩:=F8 o a;simp only[qh]at r;go_wp2_with fail;have e:=sB d (bF (ah _ s));have h:=F9 d a;have j:=F9 e a;go_region_held3 (λb=>b.cell? ⟨w1.heap.size,0,Q⟩=O (Z X k)/\b.cell? ⟨w1.heap.size,1,Q⟩=O (Z X (E.tk i).f)/\b.cell? ⟨w1.heap.size,2,Q⟩=O (Z X (E.tk i).t)/\b.cell? ⟨w1.heap.size,3,Q⟩=O (Z X (E.tk i).l)/\b.cell? ⟨w1.heap.size,4,Q⟩=O (Z X (E.tk i).n)/\b.cell? ⟨w1.heap.size,5,Q⟩=O (F1 (E.tk i).x)) (first|exact h|exact j|exact F9 g a|go_keep) (first|(go_at_call 182;refine(sx e a (by omega) (by omega) _ _ _ _).mono ?_;rintro v u ⟨rfl,g⟩))
 go_wp2;go_ret;exact⟨_,rfl,Fc c u.heap.size ▸ L8 g (nd nk (E.tk i) (E.tk i).t 0 0 (E.tk i).x []) (aae c _ _ _) rfl (by show _=(_++exT _ _ (fJ nk)).toArray;rw[c];rfl) (by show _=xx (fJ nk);rw[c];rfl)⟩
def as1(u:i+1<E.n)(a:(E.tk i).k=2):CN E 220 #[pV E] i (one (nd 23 (E.tk i) (E.tk i).t 0 (E.tk i).n z0 []) .nil) (i+1):=by
 intro w p v;have j:=Sw.start p;go_in;go_wp21
 refine dt (oK j a) λz o=>?_;go_wp21
 refine dt (lC o a (by omega)) λw1 m=>?_;have⟨r,q,c⟩:=F8 m a;simp only[qh]at q;go_wp21
 have d:=sB c (bF (ah _ r));have g:=F9 c a;have h:=F9 d a;go_region_held3 (λb=>b.cell? ⟨w1.heap.size,0,Q⟩=O (Z X 2)/\b.cell? ⟨w1.heap.size,1,Q⟩=O (Z X (E.tk i).f)/\b.cell? ⟨w1.heap.size,2,Q⟩=O (Z X (E.tk i).t)/\b.cell? ⟨w1.heap.size,3,Q⟩=O (Z X (E.tk i).l)/\b.cell? ⟨w1.heap.size,4,Q⟩=O (Z X (E.tk i).n)/\b.cell? ⟨w1.heap.size,5,Q⟩=O (F1 (E.tk i).x)) (first|exact g|exact h|exact F9 e a|go_keep) (first|(go_at_call 182;refine(sx d a (by omega) (by omega) 23 _ _ _).mono ?_;rintro s y ⟨rfl,e⟩))
 go_wp21
 go_ret;exact⟨_,rfl,L8 e (nd 23 (E.tk i) (E.tk i).t 0 (E.tk i).n z0 []) rfl rfl rfl rfl⟩
abbrev CXi(E:Pe)(p:Int)(i:Nat)(x:Fo)(j:Nat):Prop:=CN E 185 #[pV E,Z X p] i x j
def sT{a c:List Ad}{D:Fo}{b:Nat×B7×Array Ad}(S:B0 (Sw E W w i kv a D c (b::T) M)):B0 (Sw E W w i kv a D c T M):=S.drop (λe d=>cG _ d) (.inl rfl)
def arx{k q:Int}{t:Tk}{d f:B7}{a b:Ad}(i:B0 (Sw E W w j s0 [] R [A0 d a,A0 f b] T M))(r:t.k=k)(l:1<=j)(p:j<=E.n)(u:10<=q)(v:q<=78):B4 A1 222 #[pV E,Z X q,.agg (qh k t),A0 d a,A0 f b] w λe s=>∃g c,e= Bn (A0 g c)/\B0 (Sw E W s j s0 [] (one (sn q t (E.tk (j-1)).t) R) [A0 g c] T M):=by
 unfold sn;by_cases m:q=10<;>by_cases o:q=26;all_goals
  try omega
 all_goals
  try subst m
  try subst o
  simp only[*,↓reduceIte,Int.reduceEq];go_in;go_wp2_with fail;refine dt (sx (sLt (sBx i)) r l p _ _ _ _) λw h=>?_;go_wp2;go_ret;exact⟨_,_,rfl,sT (G8 h _ (by rfl) (by rfl) (by simp only[fe]<;>rfl) (by rfl))⟩
def ary{d:List Ad}{D:Fo}{k:Int}(S:B0 (Sw E W w i s0 [] D d T M))(o:gG k=B1)(n:k<=78):B4 A1 221 #[Z X k] w λe f=>e= Bn (E3 #[.agg #[Z X k,Z X (Bj k),Z X (Ky k)],Bc B1])/\B0 (Sw E W f i s0 [] D d T M):=by
 obtain⟨c,b,rfl⟩:=apj o n;have⟨p,m,a⟩:=S.pp.pw;have⟨h,j,_,l⟩:=adG c b;refine(abH w p m a c b _ rfl l).mono ?_;rintro e f ⟨a,g⟩;rw[h,j]at a;exact⟨a,sB S g⟩
def arz{b:List Ad}{D:Fo}{k:Int}(S:B0 (Sw E W w i s0 [] D b T M))(h:gG k=Ax):B4 A1 221 #[Z X k] w λe c=>e= Bn (E3 #[.agg #[Z X 0,Z X 0,Z X 0],Bc Ax])/\B0 (Sw E W c i s0 [] D b T M):=by
 have⟨j,f,a⟩:=S.pp.pw;refine(abJ w j f a k (λi g e=>?_)).mono ?_
 .have:=(adG i g).2.2.1;rw[e,h]at this;cases this
 rintro e c ⟨a,d⟩;exact⟨a,sB S d⟩
def am3{d:List Ad}{D:Fo}(S:B0 (Sw E W w i s0 [] D d T M))(a b c:Ad):∃e,w.alloc (Ak #[a,b,c] 186)=e/\B0 (Sw E W e i s0 [] D d ((w.heap.size,186,#[a,b,c])::T) M):=⟨_,rfl,S.boxg _ _ (by decide) (by decide)⟩
def sC3{f:List Ad}{D:Fo}{d:Nat}{a b c:Ad}(S:B0 (Sw E W w i s0 [] D f ((d,186,#[a,b,c])::T) M)):w.cell? ⟨d,0,Q⟩=O a/\w.cell? ⟨d,1,Q⟩=O b/\w.cell? ⟨d,2,Q⟩=O c:=by
 have e:=(S.tb _ (aI ..)).2.2;exact⟨by rw[aj _ _ _ _ _ _ e];rfl,by rw[aj _ _ _ _ _ _ e];rfl,by rw[aj _ _ _ _ _ _ e];rfl⟩
def apo{p:Int}(a0:(E.tk i).k≠6)(bn:i<E.n)(A:∀q,(E.tk q).k<=78)(a6:CN E 220 #[pV E] i x k)(C:Ms E (CXi E) p (E.tk i) m x k R j):CXi E p i R j:=by
 intro bh z bo;have ad:=Sw.start z;have L:=am C;have br:=C.le;go_in;go_wp21
 refine dt (E8 ad rfl (by omega) a0) λw1 af=>?_;obtain⟨bx,a2,c⟩:=F8 af (t:=E.tk i) rfl;simp only[qh]at a2;go_wp21
 refine(xH c a6).mono ?_;rintro h bA ⟨bb,a9,rfl,ak⟩;have H:=am ak;go_wp21
 go_loopg [6] m (λgk bf wr=>∃(k:Nat) (o:Fo) (t:B7) (F:Ad),bf= A0 t F/\B0 (Ms E (CXi E) p (E.tk i) gk o k R j/\Sw E bh wr k s0 [] o [A0 t F] [tkB w1.heap.size (E.tk i)] []))
 case atStart=>exact⟨k,x,bb,a9,rfl,L,H⟩
 case round=>
  obtain⟨b,o,bw,bt,rfl,K⟩:=hrel;have⟨av,aK⟩:=K.out;have c:=am aK;cases av with
  |stop g ao=>
   cases a:gG (E.tk j).k with
   |false=>
    go_wp21
    refine dt (oK c rfl g) λG d=>?_;go_wp21
    refine dt (arz d a) λw5 e=>?_;go_wp21
    go_ret;exact⟨_,rfl,(e.boxg _ _ (by decide) (by decide)).drop (λp r=>by cases r) (.inr rfl)⟩
   |true=>
    go_wp21
    refine dt (oK c rfl g) λG d=>?_;go_wp21
    refine dt (ary d a (A _)) λw5 e=>?_;have⟨bj,a3,f⟩:=am3 e (Z X (E.tk j).k) (Z X (Bj (E.tk j).k)) (Z X (Ky (E.tk j).k));have⟨s,u,v⟩:=sC3 f;go_wp21
    go_ret;exact⟨_,rfl,f.drop (λp r=>by cases r) (.inr rfl)⟩
  |@go a8 _ a7 _ _ b7 bk g a ao ap bl ar y=>
   have a5:=y.le;rw[bz,Fo.sz_app]at a5;have a1:(E.tk b).k≠6:=λh=>by rw[h]at a;revert a;decide
   have B:=A b;have a4:10<=(E.tk b).k:=by have z:=aB a;omega
   have J:=am y;go_wp21
   refine dt (oK c rfl g) λG d=>?_;go_wp21
   refine dt (ary d a B) λw5 e=>?_;have⟨bj,a3,f⟩:=am3 e (Z X (E.tk b).k) (Z X (Bj (E.tk b).k)) (Z X (Ky (E.tk b).k));have⟨s,u,v⟩:=sC3 f;go_wp21
   refine dt (lC f rfl g a1) λbD w=>?_;have⟨s,u,v⟩:=sC3 w;go_wp21
   refine(xH w ap).mono ?_;rintro h bE ⟨bv,bs,rfl,l⟩;have⟨s,u,v⟩:=sC3 l;have⟨b1,b2,b3,b4,b5,b6⟩:=F9 (sT l) rfl;go_wp21
   have al:=am l;refine(arx al (t:=E.tk i) rfl (by omega) ar a4 B).mono ?_;rintro h b0 ⟨bd,ba,rfl,an⟩;have I:=sT an;go_wp21
   go_roundg a8
   case measure=>omega
   case rel=>exact⟨a7,_,bd,ba,rfl,J,I⟩
end
section
variable {E : Pe} {i j k k1 : Nat} {x y R Ex : Fo}
def as2(p:(E.tk i).k=42)(a8:i<E.n)(a0:Es E (CN E 261 #[pV E]) m (i+1) Ex j)(av:(E.tk j).k=43)(a9:j+1<E.n):CN E 244 #[pV E] i (one (jx 35 (E.tk i) (E.tk j).t) Ex) (j+1):=by
 intro a6 an aK;have ak:=Sw.start an;have af:=am a0;simp only[bz]at aK;go_in;go_wp21
 refine dt (lC ak p (by omega)) λw1 al=>?_;have⟨bd,ar,f⟩:=F8 al p;simp only[qh]at ar;have L:=am f;go_wp21
 go_loopg [4] m (λgk a4 wr=>∃(k:Nat) (D r:Fo) (v:Option Addr) (n x:Nat) (H:List Ad),a4= U v n x/\B0 (Es E (CN E 261 #[pV E]) gk k r j/\Sw E a6 wr k (U v n x) H D H [tkB w1.heap.size (E.tk i)] []/\D.app r=Ex))
 case atStart=>exact⟨i+1,.nil,Ex,Q,0,0,[],rfl,af,L,rfl⟩
 case round=>
  obtain⟨bb,D,r,v,n,x,H,rfl,ad⟩:=hrel;have⟨ao,I,b⟩:=ad.out;have f:=am I;have ba:=De.len _ _ I.nn;cases ao with
  |stop o l=>
   rw[Fo.app_nil]at b;go_wp21
   refine dt (xg f av l) λJ a=>?_;have⟨bf,bh,c,bj,bk,bl⟩:=F9 a p;go_wp21
   refine dt (sx a p (by omega) (by omega) 35 _ _ _) λK g=>?_;subst b;go_wp21
   go_ret;exact⟨_,rfl,L8 g (jx 35 (E.tk i) (E.tk j).t) rfl rfl rfl rfl⟩
  |@com F _ C _ c e o l y A B z=>
   have a1:D.sz+(c.sz+e.sz)<=50000000:=by have h:=congrArg Fo.sz b;simp only[Fo.sz_app]at h;omega
   have ap:=D.len_le;have d:=gF b z;go_wp21
   refine dt (Ca f o l) λJ a=>?_;go_wp21
   refine(xH a y).mono ?_;rintro h K ⟨a3,a2,rfl,g⟩;go_wp2_with (at_builtin;refine sAp g rfl (by omega) rfl _ _ rfl rfl rfl ?_;intro w G c5 w5 s);refine dt (xg s A B) λa7 u=>?_;have q:=am u;go_wp21
   go_roundg F
   case measure=>omega
   case rel=>exact⟨(C+1),D.app c,e,w,G,c5,_,rfl,d.2,q,by rw[Fo.app_app];exact d.1⟩
  |@last F _ C _ c e o l y A B z=>
   have a1:D.sz+(c.sz+e.sz)<=50000000:=by have h:=congrArg Fo.sz b;simp only[Fo.sz_app]at h;omega
   have ap:=D.len_le;have d:=gF b z;go_wp21
   refine dt (Ca f o l) λJ a=>?_;go_wp21
   refine(xH a y).mono ?_;rintro h K ⟨a3,a2,rfl,g⟩;go_wp2_with (at_builtin;refine sAp g rfl (by omega) rfl _ _ rfl rfl rfl ?_;intro w G c5 w5 s);refine dt (Ca s A B) λa7 u=>?_;have q:=am u;go_wp21
   go_roundg F
   case measure=>omega
   case rel=>exact⟨C,D.app c,e,w,G,c5,_,rfl,d.2,q,by rw[Fo.app_app];exact d.1⟩
end
section
variable {E : Pe} {i j k k1 : Nat} {x y R Ex : Fo}
def De.top{lo:Nat}{e:Option Nat}{ks:Fo}{p:Ad}(h:De w lo e (one N ks) [A0 t p]):∃b,t=pI (fJ N.k)/\p= Y (O ⟨b,0,Q⟩)/\w.cell? ⟨b,0,Q⟩=O (Z X N.k):=by
 obtain⟨i,b,l,n,m,j,o,f,g,d,⟨_,_,c,_⟩,_⟩:=h;have a:=(gL d.1).1;unfold gq at a;cases a;exact⟨b,rfl,rfl,by unfold il at c;rw[aj _ _ _ _ _ _ c];rfl⟩
def arA{ks:Fo}(b:(E.tk i).k=40)(aK:i<E.n)(u:CN E 118 #[pV E] (i+1) (one N ks) k)(s:(E.tk k).k=41)(a0:i+1<=k)(a1:k+1<E.n):CN E 186 #[pV E] i (mh N ks (E.tk i) (E.tk k).t) (k+1):=by
 intro c F a2;have p:=Sw.start F;have a3:(one N ks).sz<=(mh N ks (E.tk i) (E.tk k).t).sz:=by unfold mh;split<;>simp only[bz]<;>omega
 rcases(by omega:N.k=34\/N.k=27\/(N.k≠34/\N.k≠27)) with hN|hN|hN
 .go_in;go_wp21
  refine dt (lC p b (by omega)) λw1 f=>?_;have⟨A,l,g⟩:=F8 f b;simp only[qh]at l;go_wp21
  refine(xH g u).mono ?_;rintro v B ⟨z,y,rfl,h⟩;go_wp21
  refine dt (lC h s (by omega)) λC d=>?_;obtain⟨a,rfl,rfl,o⟩:=De.top (N:=N) (ks:=ks) d.nn;have w:=λc=>G7 (fJ N.k) a c;have m:=λc=>gD a c;have r:=o;rw[hN]at r;generalize x:pI (fJ N.k)=e at *;have⟨J,K,L,ad,af,ak⟩:=F9 d b;have⟨w5,G,j⟩:=LL d [A0 e (Y (O ⟨a,0,Q⟩))] #[A0 e (Y (O ⟨a,0,Q⟩))] rfl 1 rfl (by decide);have⟨al,an,ao,ap,ar,av⟩:=F9 j b;go_wp2_with (go_at_call 299;refine fC (m _) ?_);refine dt (sx j b (by omega) (by omega) 37 _ _ _) λI q=>?_;go_wp21
  go_ret;refine⟨_,rfl,?_⟩;unfold mh;rw[ab (by omega)];exact L8 q (jx 37 (E.tk i) (E.tk k).t) rfl rfl rfl rfl
 .go_in;go_wp21
  refine dt (lC p b (by omega)) λw1 f=>?_;have⟨A,l,g⟩:=F8 f b;simp only[qh]at l;go_wp21
  refine(xH g u).mono ?_;rintro v B ⟨z,y,rfl,h⟩;go_wp21
  refine dt (lC h s (by omega)) λC d=>?_;obtain⟨a,rfl,rfl,o⟩:=De.top (N:=N) (ks:=ks) d.nn;have w:=λc=>G7 (fJ N.k) a c;have m:=λc=>gD a c;have r:=o;rw[hN]at r;generalize x:pI (fJ N.k)=e at *;have⟨J,K,L,ad,af,ak⟩:=F9 d b;have⟨w5,G,j⟩:=LL d [A0 e (Y (O ⟨a,0,Q⟩))] #[A0 e (Y (O ⟨a,0,Q⟩))] rfl 1 rfl (by decide);have⟨al,an,ao,ap,ar,av⟩:=F9 j b;go_wp2_with (go_at_call 299;refine fC (m _) ?_);refine dt (sx j b (by omega) (by omega) 37 _ _ _) λI q=>?_;go_wp21
  go_ret;refine⟨_,rfl,?_⟩;unfold mh;rw[ab (by omega)];exact L8 q (jx 37 (E.tk i) (E.tk k).t) rfl rfl rfl rfl
 .go_in;go_wp21
  refine dt (lC p b (by omega)) λw1 f=>?_;have⟨A,l,g⟩:=F8 f b;simp only[qh]at l;go_wp21
  refine(xH g u).mono ?_;rintro v B ⟨z,y,rfl,h⟩;go_wp21
  refine dt (lC h s (by omega)) λC d=>?_;obtain⟨a,rfl,rfl,o⟩:=De.top (N:=N) (ks:=ks) d.nn;have w:=λc=>G7 (fJ N.k) a c;have m:=λc=>gD a c;generalize x:pI (fJ N.k)=e at *;go_wp2_with (first|(go_at_call 299;refine fC (m _) ?_));go_ret;refine⟨_,rfl,?_⟩;unfold mh;rw[aa (by omega)];exact d.drop (λa4 H=>by cases H) (.inr rfl)
def arB(f:(E.tk i).k=40)(e:(E.tk (i+1)).k=41)(g:i+1<E.n):CR E 188 #[pV E] i (.nil) (i+2):=by
 intro j d h;have a:=Sw.start d;go_in;go_wp2_with fail;refine dt (lC a f (by omega)) λw1 b=>?_;go_wp2_with fail;refine dt (xg b e) λl c=>?_;go_wp2;go_ret;exact⟨_,[],rfl,c⟩
def as3(j:(E.tk i).k=40)(r:i+1<E.n)(l:(E.tk (i+1)).k≠41)(h:CR E 181 #[pV E,.func (.func 118) #[pV E] #[]] (i+1) Ex k)(g:(E.tk k).k=41)(s:k<E.n):CR E 188 #[pV E] i (Ex) (k+1):=by
 intro w f t;have a:=Sw.start f;go_in;go_wp21
 refine dt (lC a j (by omega)) λw1 b=>?_;go_wp21
 refine dt (Ca b l) λx c=>?_;go_wp21
 refine(adE c h).mono ?_;rintro q y ⟨o,v,p,m,rfl,d,u⟩;go_wp21
 refine dt (lC d g (by omega)) λz e=>?_;go_wp21
 go_ret;exact⟨_,m,rfl,e⟩
def am4{q:Int}(a:(E.tk i).k=q)(cs:i<E.n)(bA:(q=1/\CN E 187 #[pV E,Z X 26] i x k)\/(q=40/\CN E 186 #[pV E] i x k))(a8:LH E (λi x j=>CN E 118 #[pV E] i x j) (λi x j=>CR E 181 #[pV E,.func (.func 118) #[pV E] #[]] i x j) (E.tk i) m x k R j):CN E 119 #[pV E] i R j:=by
 intro b7 br ct;have a2:=Sw.start br;have bk:=a8;have cu:=a8.le;rcases bA with⟨rfl,al⟩|⟨rfl,al⟩
 case' inl=>
  go_in;go_wp2_with fail;refine dt (E8 a2 a (by omega) (by decide)) λw1 L=>?_;have⟨b8,af,d⟩:=F8 L a;simp only[qh]at af;have⟨b0,b1,b2,b3,b4,r5⟩:=F9 d a;go_wp2_with fail;refine(xH d al).mono ?_;rintro J H ⟨bf,ba,rfl,e⟩;have a1:=am e;go_wp2_with fail
 case' inr=>
  go_in;go_wp2_with fail;refine dt (E8 a2 a (by omega) (by decide)) λw1 L=>?_;have⟨b8,af,d⟩:=F8 L a;simp only[qh]at af;have⟨b0,b1,b2,b3,b4,r5⟩:=F9 d a;go_wp2_with fail;refine(xH d al).mono ?_;rintro J H ⟨bf,ba,rfl,e⟩;have a1:=am e;go_wp2_with fail
 all_goals
  go_loopg [4] m (λgk b6 wr=>∃(k:Nat) (I:Fo) (bd:B7) (a9:Ad),b6= A0 bd a9/\B0 (LH E (λi x j=>CN E 118 #[pV E] i x j) (λi x j=>CR E 181 #[pV E,.func (.func 118) #[pV E] #[]] i x j) (E.tk i) gk I k R j/\Sw E b7 wr k s0 [] I [A0 bd a9] [tkB w1.heap.size (E.tk i)] []))
  case atStart=>exact⟨k,x,bf,ba,rfl,bk,a1⟩
  case round=>
   obtain⟨F,I,o,l,rfl,bj⟩:=hrel;have⟨bs,bt⟩:=bj.out;have d:=am bt;cases bs with
   |stop b g=>
    have cp:((E.tk j).k==48)=Ax:=by have:=mA g;simp;omega
    have cn:((E.tk j).k==44)=Ax:=by have:=mA g;simp;omega
    have cl:((E.tk j).k==40)=Ax:=by have:=mA g;simp;omega
    go_wp2_with fail;refine dt (oK d rfl b) λK h=>?_;go_wp2;go_ret;exact⟨_,rfl,h.drop (λcv bx=>by cases bx) (.inr rfl)⟩
   |@dot u _ _ _ _ b g z f=>
    have cq:=alE;have p:=f;have t:=f.le;simp only[bz,Fo.sz_app]at t;go_wp2_with fail;refine dt (oK d b) λH e=>?_;go_wp2_with fail;refine dt (lC e b (by omega)) λK h=>?_;go_wp2_with fail;refine dt (lC h g (by omega)) λw5 c=>?_;simp only[qh];have⟨ao,ap,ar,av,aK,a0⟩:=F9 c a;have⟨b9,bw,v⟩:=LL c [A0 o l] #[A0 o l] rfl 1 rfl (by decide);have⟨cb,cc,cd,ce,cf,ck⟩:=F9 v a;go_wp2_with fail;refine dt (sx v a (by omega) (by omega) 33 _ _ _) λan s=>?_;go_wp2;go_roundg u
    case measure=>omega
    case rel=>
     refine⟨F+2,_,_,_,rfl,p,?_⟩;rw[<-Fc (nk:=33) (by decide)];exact(G8 s (nd 33 (E.tk i) (E.tk (F+1)).t 0 0 (E.tk (F+1)).x []) (aae (by decide) _ _ _) rfl (by show _=(_++exT _ _ (fJ 33)).toArray;rw[show fJ 33=3 by decide];rfl) (by show _=xx (fJ 33);rw[show fJ 33=3 by decide];rfl)).out
   |@sq u _ C _ _ a4 _ b g z ad a6 f=>
    have p:=f;have t:=f.le;simp only[bz,Fo.sz_app]at t;go_wp2_with fail;refine dt (oK d b) λH e=>?_;go_wp2_with fail;refine dt (lC e b (by omega)) λK h=>?_;go_wp2_with fail;refine(xH h z).mono ?_;rintro J w5 ⟨bh,bb,rfl,c⟩;go_wp2_with fail;refine dt (lC c ad (by omega)) λcw a3=>?_;have⟨ao,ap,ar,av,aK,a0⟩:=F9 a3 a;have⟨b9,bw,v⟩:=LL a3 [A0 o l,A0 bh bb] #[A0 o l,A0 bh bb] rfl 2 rfl (by decide);have⟨cb,cc,cd,ce,cf,ck⟩:=F9 v a;go_wp2_with fail;refine dt (sx v a (by omega) (by omega) 32 _ _ _) λan s=>?_;go_wp2;go_roundg u
    case measure=>omega
    case rel=>exact⟨C+1,_,_,_,rfl,p,(G8 s (jx 32 (E.tk i) (E.tk C).t) rfl rfl rfl rfl).out⟩
   |@call0 u _ _ _ _ b g z f=>
    have p:=f;have t:=f.le;simp only[bz,Fo.sz_app]at t;go_wp2_with fail;refine dt (oK d b) λH e=>?_;have⟨K,bv,h⟩:=LL e [A0 o l] #[A0 o l] rfl 1 rfl (by decide);go_wp2_with fail;refine(aiC h (arB b g (by omega)) (by decide)).mono ?_;rintro J w5 ⟨bl,bD,c5,b5,rfl,c,r⟩;go_wp2_with (at_builtin;refine tJ rfl _ _ rfl rfl c.ro rfl r.1 r.2.1 (by have:=r.2.2;have:Fo.nil.len=0:=rfl;have:=(.nil:Fo).len_le;show 1+_<=_;omega) (by have:=c.gr.size;omega) ?_;intro bn bE bo ca G ak B A;have y:=c.put G B A;clear G ak B A;have w:=y;clear y;obtain⟨ao,ap,ar,av,aK,a0⟩:=F9 w a);refine dt (sx w a (by omega) (by omega) 34 _ _ _) λan s=>?_;go_wp2;go_roundg u
    case measure=>omega
    case rel=>exact⟨(F+2),_,_,_,rfl,p,(G8 (Fo.app_nil I ▸ s) (jx 34 (E.tk i) (E.tk (F+1)).t) rfl rfl rfl rfl).out⟩
   |@call u _ C _ _ a4 _ b g z ad a6 cr f=>
    have p:=f;have t:=f.le;simp only[bz,Fo.sz_app]at t;go_wp2_with fail;refine dt (oK d b) λH e=>?_;have⟨K,bv,h⟩:=LL e [A0 o l] #[A0 o l] rfl 1 rfl (by decide);go_wp2_with fail;refine(aiC h (as3 b g z ad a6 (by omega)) (by omega)).mono ?_;rintro J w5 ⟨bl,bD,c5,b5,rfl,c,r⟩;go_wp2_with (at_builtin;refine tJ rfl _ _ rfl rfl c.ro rfl r.1 r.2.1 (by have:=r.2.2;have:Fo.nil.len=0:=rfl;have:=(a4:Fo).len_le;show 1+_<=_;omega) (by have:=c.gr.size;omega) ?_;intro bn bE bo ca G ak B A;have y:=c.put G B A;clear G ak B A;have w:=y;clear y;obtain⟨ao,ap,ar,av,aK,a0⟩:=F9 w a);refine dt (sx w a (by omega) (by omega) 34 _ _ _) λan s=>?_;go_wp2;go_roundg u
    case measure=>omega
    case rel=>exact⟨(C+1),_,_,_,rfl,p,(G8 s (jx 34 (E.tk i) (E.tk C).t) rfl rfl rfl rfl).out⟩
end
section
variable {E : Pe} {i j k k1 : Nat} {x y R Ex : Fo}
abbrev Fe(vn:Ad)(r:Bool):Array Ad:=#[Z X 0,Z X 0,Z X 0,Z X 0,Z X 0,U Q 0 0,vn,Bc r]
def Sw.setL{q:Nat}{cs:Array Ad}{u:Ad}(h:Sw E W w i s0 [] .nil [] ((b,159,cs)::T) M)(v:∀p∈T,p.2.1≠159):Sw E W (w.setCell ⟨b,q,Q⟩ u) i s0 [] .nil [] ((b,159,cs.setIfInBounds q u)::T) M:=by
 obtain⟨g,l,k⟩:=h.tb _ (aI ..);have a:∀{e:Nat}{cs:Array Ad}{f:B7}{c:Nat×Nat},w.heap[e]?=O (Ak cs f c)->f≠159->(w.setCell ⟨b,q,Q⟩ u).heap[e]?=O (Ak cs f c):=λ{e cs f c} d B=>by
  rw[ay _ _ _ _ (λa=>by rw[a]at d;have:=k.symm.trans d;simp only[fw,lF]at this;exact B this.2.1.symm)];exact d
 have⟨n,c,H,I⟩:=h.pp.tks;have⟨L,r,J⟩:=h.pp.pw;have z:=h.lt;have A:=h.pp.pg;refine⟨⟨h.pp.hn,⟨n,c,a H (by decide),I⟩,a h.pp.row (by decide),A,L,r,(ay _ _ _ _ (show 1≠b from λaf=>by simp only at g;omega)).trans J⟩,?_,z,fs _ _ _ _,⟨[],⟨rfl,rfl⟩,by obtain⟨ad,F,G⟩:=h.nb;obtain⟨_,rfl⟩:=F;exact G⟩,λp hp=>?_,λp hp=>?_⟩
 .exact h.gr.andThen (re (ux w _) q u) (λe d=> .inl (by cases d;exact g))
 .rcases List.mem_cons.1 hp with rfl|hp
  .exact⟨g,l,bp _ b q _ _ _ k⟩
  .exact⟨(h.tb p (cG _ hp)).1,(h.tb p (cG _ hp)).2.1,a (h.tb p (cG _ hp)).2.2 (v p hp)⟩
 .obtain⟨t,j⟩:=h.nm p hp;refine⟨t,?_⟩;rcases j with j|⟨s,m,o,C,y,x,K⟩
  .exact .inl j
  .exact .inr ⟨s,m,o,C,y,a x (by decide),K⟩
def afs{r:Bool}(h:w.heap[b]?=O (Ak (Fe vn r) 159 (0,0))):w.cell? ⟨b,6,Q⟩=O vn/\w.cell? ⟨b,7,Q⟩=O (Bc r)/\∀j,w.frozen? ⟨b,j,Q⟩=Ax:=⟨by rw[aj _ _ _ _ _ _ h];rfl,by rw[aj _ _ _ _ _ _ h];rfl,λj=>cH _ _ _ _ _ h⟩
def sLC{r:Bool}(S:B0 (Sw E W w i s0 [] .nil [] ((b,159,Fe vn r)::T) M)):w.cell? ⟨b,6,Q⟩=O vn/\w.cell? ⟨b,7,Q⟩=O (Bc r)/\∀j,w.frozen? ⟨b,j,Q⟩=Ax:=afs (S.tb _ (aI ..)).2.2
end
def ffB(N:Nd)(L:Nat):Nat->Bool
 |0=>decide (1<=(N.nm.length:Int)/\(N.nm.length:Int)<=E9 N.k)&&uA N.nm N.nm.length 0
 |1=>decide (1<=N.n/\N.n<(L:Int))
 |2=>B1
 |3=>txB N.k N.x
 |4=>if N.k=30 then(decide ((19:Int)<=N.op)&&decide (N.op<=22)) else(decide ((1:Int)<=N.op)&&decide (N.op<=18))
 |5=>uA N.nm N.nm.length 0
 |_=>B1
def Gb(w:A3)(lb mb:Nat)(e:Ad)(h:Lk w lb mb e)(b:Nat)(N:Nd)(vn:Ad)(c:Int)(i:Option Addr)(L ck:Nat)(r:L<=1048576)(m:dz w vn N.nm)(j:N.nm.length<=1048576)(o:∀s∈N.nm,s.size<=1048576)(y:N.x.size<=1048576)(a:il w b N vn c (U i L ck)):
  B4 A1 124 #[Y (O ⟨lb,0,Q⟩),gq N.k b] w (jf w (Bc (ffB N L (fJ N.k)))):=by
 unfold il at a;unfold gq;have d:∀{g:Bool},(B4 A1 124 #[Y (O ⟨lb,0,Q⟩),A0 (pI (fJ N.k)) (Y (O ⟨b,0,Q⟩))] w (jt w (Bc g)))->(B4 A1 124 #[Y (O ⟨lb,0,Q⟩),A0 (pI (fJ N.k)) (Y (O ⟨b,0,Q⟩))] w (jf w (Bc g))):=λu=>u.mono λv z ⟨p,q⟩=>⟨p,q ▸ ah _ _⟩;rcases Fa N.k with hc|hc|hc|hc|hc|hc|hc
 .refine d ?_;rw[hc]at a⊢;exact ff0 w lb mb e h b N.k N.f N.t N.l c _ vn N.nm m j o a
 .rw[hc]at a⊢;exact ff1 w lb b N.k N.f N.t N.l c N.n i L ck r a
 .refine d ?_;rw[hc]at a⊢;exact ff2 w lb b
 .rw[hc]at a⊢;exact ff3 w lb mb e h b N.k N.f N.t N.l c _ N.x (by omega) a
 .refine d ?_;rw[hc]at a⊢;exact ff4 w lb b N.k N.f N.t N.l c N.op _ a
 .refine d ?_;rw[hc]at a⊢;exact ff5 w lb mb e h b N.k N.f N.t N.l c _ vn (decide (N.op=1)) N.nm m j o a
 .refine d ?_;rw[hc]at a⊢;exact ff6 w lb b
def il.cells{a:Int}(h:il W b N vn a kv):W.cell? ⟨b,0,Q⟩=O (Z X N.k)/\W.cell? ⟨b,1,Q⟩=O (Z X N.f)/\W.cell? ⟨b,2,Q⟩=O (Z X N.t)/\W.cell? ⟨b,4,Q⟩=O (Z X a)/\W.cell? ⟨b,5,Q⟩=O kv/\∀j,W.frozen? ⟨b,j,Q⟩=Ax:=by
 unfold il at h;refine⟨?_,?_,?_,?_,?_,λj=>cH _ _ _ _ _ h⟩
 .rw[aj _ _ _ _ _ _ h];simp
 .rw[aj _ _ _ _ _ _ h];simp
 .rw[aj _ _ _ _ _ _ h];simp
 .rw[aj _ _ _ _ _ _ h];simp
 .rw[aj _ _ _ _ _ _ h];simp
def kfB(N:Nd)(ks:List Int):Bool:=if fJ N.k=1 then gj (Ga N.n.toNat) ks else rkB N.k ks
def aaf(w:A3)(b:Nat)(N:Nd)(vn d:Ad)(i:Int)(ks:List Int)(e:jm w d ks)(g:ks.length<=1048576)(h:∀W,cg w W->F0 A1 W "strings.asciiSpace" .u8 B3)(c:il w b N vn i d)(o:fJ N.k=1->0<=N.n/\N.n<=200):
  B4 A1 125 #[gq N.k b] w (jf w (Bc (kfB N ks))):=by
 unfold kfB;by_cases a:fJ N.k=1
 .rw[ab a];have⟨p,q⟩:=o a;unfold il at c;unfold gq;rw[a]at c⊢;have m:N.n=((N.n.toNat:Nat):Int):=by omega
  refine aab w b N.k N.f N.t N.l i N.n.toNat (by omega) d ks e g h ?_;rw[<-m];exact c
 .rw[aa a];have⟨j,_,_,_,c5,_⟩:=c.cells;exact aac w b N.k a d ks e g (h w (ah _ _)) j c5
structure Im where
 N:Nd
 b:Nat
 vn:Ad
 kv:Ad
def nV(x:Im):Ad:=gq x.N.k x.b
def qy(L:List Im)(ks:List Int):List Ad:=ks.map λa=>match L[a.toNat]? with|some y=>nV y|none=> Ck
structure nF (W:A3) (base:Nat) (vs:Ad) (L:List Im):Prop where
 row:W.ownsRow base 55 1 vs L.length (L.map nV)
 box:∀(i:Nat) x,L[i]?=O x->il W x.b x.N x.vn i x.kv
 kid:∀(i:Nat) x,L[i]?=O x->W.ownsRow base 55 1 x.kv x.N.ks.length (qy (L.take i) x.N.ks)
 far:∀x∈L,x.kv.ownBlock=Q\/x.kv.ownBlock≠vs.ownBlock
 rng:∀(i:Nat) x z,L[i]?=O x->z∈x.N.ks->0<=z/\z<(i:Int)
def il.below{a:Int}(h:il W b N vn a kv)(c:cg W W'):il W' b N vn a kv:=(c.block _ (ai h)).trans h
def nF.below{L:List Im}(h:nF W base vs L)(a:cg W W'):nF W' base vs L:=
 ⟨dA h.row a,λc d b=>(h.box c d b).below a,λc d b=>dA (h.kid c d b) a,h.far,h.rng⟩
def rG{a:Nat}{f g:Array Ad}{d e:B7}{h i:Nat×Nat}(j:W.heap[a]?=O (Ak f d h))(k:W.heap[b]?=O (Ak g e i))(ht:d≠e):a≠b:=by
 rintro rfl;have c:=j.symm.trans k;simp only[fw,lF]at c;exact ht c.2.1
def qz(c:Nat):xx c≠55/\xx c≠162/\xx c≠34:=by
 unfold xx;split<;>decide
def Ff{cs:Array Ad}{f:Nat×Nat}(h:W.ownsMap A1 9 (plainElem (H:=Unit) A1 3) mb 22 (zI 22))(c:W.heap[b]?=O (Ak cs t f)):mb≠b:=by
 rintro rfl;obtain⟨e,d,a,g⟩:=h;rw[c]at a;cases a
def ad0(W:A3)(g:Nat):Prop:=∃a,W.heap[g]?=O (Ak a 55 (0,0))
def qi(h:W.ownsRow base 55 1 v n xs)(b:v.ownBlock=O g):ad0 W g/\base<=g:=by
 rcases bJ h with⟨_,rfl⟩|⟨d,i,rfl⟩
 .simp[Bk]at b
 .obtain rfl:d=g:=by simpa [Bk] using b
  rcases h.2 with⟨a,_⟩|⟨k,j,c,a,e,f,_⟩
  .cases a
  .cases a;exact⟨⟨c,f⟩,e⟩
structure Cc (w0:A3) (lb mb p bn:Nat) (vs:Ad) (L:List Im) (N:Nd) (vn vk kv:Ad) (j:Nat) (W:A3):Prop where
 lk:Lk W lb mb vs
 ns:nF W w0.heap.size vs L
 rb:qK p W 34 N vn vk
 bx:il W bn N vn L.length kv
 kr:W.ownsRow w0.heap.size 55 1 kv j (qy L (N.ks.take j))
 fr:kv.ownBlock=Q\/kv.ownBlock≠vs.ownBlock
 fo:∀x∈L,x.kv.ownBlock=Q\/x.kv.ownBlock≠kv.ownBlock
 bl:cg w0 W
 lo:w0.heap.size<=lb/\w0.heap.size<=bn/\w0.heap.size<=p
def Cc.below{L:List Im}(h:Cc w0 lb mb p bn vs L N vn vk kv j W)(a:cg W W'):Cc w0 lb mb p bn vs L N vn vk kv j W':=
 ⟨h.lk.below a,h.ns.below a,h.rb.below a,h.bx.below a,dA h.kr a,h.fr,h.fo,h.bl.trans (a.mono h.bl.size),h.lo⟩
def Cc.kid{L:List Im}(ao:pf w0)(h:Cc w0 lb mb p bn vs L N vn vk kv j W)(s:W.grownBy W' kv.ownBlock){f H:Nat}(v:W'.ownsRow w0.heap.size 55 1 (U (O ⟨g,0,Q⟩) (j+1) f) (j+1) (qy L (N.ks.take (j+1))))(an:kv.ownBlock=O g\/g=H)(av:W.heap.size=H):
  il W' bn N vn L.length kv/\Cc w0 lb mb p bn vs L N vn vk (U (O ⟨g,0,Q⟩) (j+1) f) (j+1) (W'.setCell ⟨bn,5,Q⟩ (U (O ⟨g,0,Q⟩) (j+1) f)):=by
 have A:∀a,kv.ownBlock=O a->ad0 W a/\w0.heap.size<=a:=λa t=>qi h.kr t;have x:∀{o:Nat}{q:Array Ad}{k:B7},W.heap[o]?=O (Ak q k (0,0))->k≠55->W'.heap[o]?=O (Ak q k (0,0)):=λd B=>
  (s.block _ (ai d) (λe=>by obtain⟨⟨u,r⟩,_⟩:=A _ e.symm;exact rG d r B rfl)).trans d
 have l:il W' bn N vn L.length kv:=x h.bx (qz _).1;have af:cg w0 W':=h.bl.grown s h.bl.size (λa t=>(A a t).2);have G:cg w0 (W'.setCell ⟨bn,5,Q⟩ (U (O ⟨g,0,Q⟩) (j+1) f)):=af.setCell h.lo.2.1 _;have set:∀{o:Nat}{q:Array Ad}{k:B7},W'.heap[o]?=O (Ak q k (0,0))->k≠xx (fJ N.k)->(W'.setCell ⟨bn,5,Q⟩ (U (O ⟨g,0,Q⟩) (j+1) f)).heap[o]?=O (Ak q k (0,0)):=λd B=>
  (ay _ _ _ _ (λe=>by exact rG d l B e)).trans d
 have C:∀{J:Ad}{I:Nat}{ad:List Ad},W'.ownsRow w0.heap.size 55 1 J I ad->(W'.setCell ⟨bn,5,Q⟩ (U (O ⟨g,0,Q⟩) (j+1) f)).ownsRow w0.heap.size 55 1 J I ad:=λv=>
  v.kept (row:=O bn) ⟨rfl,rfl,rfl,by simp[E1],λa t n=>ay _ _ _ _ (λe=>n (by rw[e]))⟩ (by
   cases hv:Bk _ with
   |none=>exact .inl rfl
   |some a=>exact .inr (λe=>by obtain⟨⟨u,r⟩,_⟩:=qi v hv;obtain rfl:=aJ e;exact rG l r (qz _).1 rfl))
 have K:vs.ownBlock=Q\/vs.ownBlock≠kv.ownBlock:=by
  rcases h.fr with e|e
  .cases hv:vs.ownBlock with
   |none=>exact .inl rfl
   |some a=>rw[e];exact .inr (by simp)
  .exact .inr (dB e)
 have E:∀a,a<W.heap.size->kv.ownBlock≠O a->O g≠O a:=λa t n e=>by
  obtain rfl:=aJ e;rcases an with e2|e2
  .exact n e2
  .omega
 refine⟨l,⟨⟨set (x h.lk.b (by decide)) (dB (qz _).2.1),?_,ao.keep G⟩,⟨C (h.ns.row.kept s K),?_,?_,h.ns.far,h.ns.rng⟩,set (x h.rb (by decide)) (dB (qz _).2.2),?_,C v,?_,?_,G,h.lo⟩⟩
 .have F:=tK h.lk.m (s.block _ h.lk.m.lt (λe=>by obtain⟨⟨u,r⟩,_⟩:=A _ e.symm;exact Ff h.lk.m r rfl));exact tK F (ay _ _ _ _ (λe=>by exact Ff F l e))
 .intro i b c;have d:=x (h.ns.box i b c) (qz _).1;by_cases n:b.b=bn
  .exfalso;have y:=h.ns.box i b c;have e2:=h.bx;unfold il at y e2;rw[n,e2]at y;have ak:=congrArg (λar=>match ar with|some (Obj.cells u _ _)=>u[4]?|_=>Q) y;simp at ak;have aK:i<L.length:=(List.getElem?_eq_some_iff.1 c).1;omega
  .exact(ay _ _ _ _ n).trans d
 .intro i b c;exact C ((h.ns.kid i b c).kept s (h.fo b (dj c)))
 .unfold il at l⊢;have:=bp W' bn 5 _ _ (U (O ⟨g,0,Q⟩) (j+1) f) l;rw[this];simp
 .refine .inr λe=>?_;have w:=e.symm;have z:=(h.ns.row.lt g w).2;exact E g z (by rcases K with e2|e2;rw[e2]at w;cases w;rw[w]at e2;exact dB e2) rfl
 .intro b c;cases hxk:b.kv.ownBlock with
  |none=>exact .inl rfl
  |some a=>
   refine .inr λe=>?_;have⟨i,ap,al⟩:=iq c;have z:=((h.ns.kid i b (by rw[aw ap,al])).lt a hxk).2;refine E a z ?_ e.symm;rcases h.fo b c with e2|e2
   .rw[hxk]at e2;cases e2
   .rw[hxk]at e2;exact dB e2
def Cc.start{L:List Im}(t:pf w0)(r:nF w w0.heap.size vs L)(A:w.heap.size<=bn)(u:lb≠bn)(v:p≠bn)(lk:Lk W lb mb vs)(ns:nF W w0.heap.size vs L)(x:qK p W 34 N vn vk)(bx:il W bn N vn 0 (U Q 0 0))(q:cg w0 W)(lo:w0.heap.size<=lb/\w0.heap.size<=bn/\w0.heap.size<=p):
  Cc w0 lb mb p bn vs L N vn vk (U Q 0 0) 0 (W.setCell ⟨bn,4,Q⟩ (Z X L.length)):=by
 have i:cg w0 (W.setCell ⟨bn,4,Q⟩ (Z X L.length)):=q.setCell lo.2.1 _;have e:∀{f:Nat},f≠bn->(W.setCell ⟨bn,4,Q⟩ (Z X L.length)).heap[f]?=W.heap[f]?:=λg=>ay _ _ _ _ g;have l:∀{n:Ad}{k:Nat}{o:List Ad},W.ownsRow w0.heap.size 55 1 n k o->(W.setCell ⟨bn,4,Q⟩ (Z X L.length)).ownsRow w0.heap.size 55 1 n k o:=λh=>
  h.kept (row:=O bn) ⟨rfl,rfl,rfl,by simp[E1],λj z g=>ay _ _ _ _ (λb=>g (by rw[b]))⟩ (by
   cases hv:Bk _ with
   |none=>exact .inl rfl
   |some j=>exact .inr (λb=>by obtain⟨⟨y,s⟩,_⟩:=qi h hv;obtain rfl:=aJ b;exact rG bx s (qz _).1 rfl))
 refine⟨⟨(e u).trans lk.b,tK lk.m (e (λb=>Ff lk.m bx b)),t.keep i⟩,⟨l ns.row,λd a c=>?_,λd a c=>l (ns.kid d a c),ns.far,ns.rng⟩,(e v).trans x,?_,?_,.inl rfl,λa c=>?_,i,lo⟩
 .have:=ai (r.box d a c);exact(e (by omega)).trans (ns.box d a c)
 .unfold il at bx⊢;have:=bp W bn 4 _ _ (Z X L.length) bx;rw[this];simp
 .rw[Cj];exact fs _ _ _ _
 .cases a.kv.ownBlock with
  |none=>exact .inl rfl
  |some j=>exact .inr (by simp[Bk])
def vv(g m:Nat):(⟨g,0,Q⟩:Addr).add m=⟨g,m,Q⟩:=by unfold Addr.add;split<;>simp_all
def Cc.done{L:List Im}(al:pf w0)(h:Cc w0 lb mb p bn vs L N vn vk kv N.ks.length W)(ar:∀z∈N.ks,0<=z/\z<(L.length:Int)){a:Ad}(s:W.grownBy W' vs.ownBlock)(l:W'.ownsRow w0.heap.size 55 1 a (L.length+1) (L.map nV++[gq N.k bn]))(ak:a.ownBlock=vs.ownBlock\/a.ownBlock=O W.heap.size):
  W'.heap[lb]?=O (Ak #[.map (O mb),vs] 162 (0,0))/\
  Lk (W'.setCell ⟨lb,1,Q⟩ a) lb mb a/\nF (W'.setCell ⟨lb,1,Q⟩ a) w0.heap.size a (L++[⟨N,bn,vn,kv⟩])/\il (W'.setCell ⟨lb,1,Q⟩ a) bn N vn L.length kv/\cg w0 (W'.setCell ⟨lb,1,Q⟩ a):=by
 have y:∀k,vs.ownBlock=O k->ad0 W k/\w0.heap.size<=k:=λk w=>qi h.ns.row w;have C:∀{n:Nat}{o:Array Ad}{j:B7},W.heap[n]?=O (Ak o j (0,0))->j≠55->W'.heap[n]?=O (Ak o j (0,0)):=λd A=>
  (s.block _ (ai d) (λe=>by obtain⟨⟨G,r⟩,_⟩:=y _ e.symm;exact rG d r A rfl)).trans d
 have t:=C h.lk.b (by decide);have ad:cg w0 W':=h.bl.grown s h.bl.size (λk w=>(y k w).2);have J:cg w0 (W'.setCell ⟨lb,1,Q⟩ a):=ad.setCell h.lo.1 _;have set:∀{n:Nat}{o:Array Ad}{j:B7},W'.heap[n]?=O (Ak o j (0,0))->j≠162->(W'.setCell ⟨lb,1,Q⟩ a).heap[n]?=O (Ak o j (0,0)):=λd A=>
  (ay _ _ _ _ (λe=>by exact rG d t A e)).trans d
 have E:∀{c:Ad}{u:Nat}{v:List Ad},W'.ownsRow w0.heap.size 55 1 c u v->(W'.setCell ⟨lb,1,Q⟩ a).ownsRow w0.heap.size 55 1 c u v:=λl=>
  l.kept (row:=O lb) ⟨rfl,rfl,rfl,by simp[E1],λk w ap=>ay _ _ _ _ (λe=>ap (by rw[e]))⟩ (by
   cases B:Bk _ with
   |none=>exact .inl rfl
   |some k=>exact .inr (λe=>by obtain⟨⟨G,r⟩,_⟩:=qi l B;obtain rfl:=aJ e;exact rG t r (by decide) rfl))
 have F:il (W'.setCell ⟨lb,1,Q⟩ a) bn N vn L.length kv:=set (C h.bx (qz _).1) (qz _).2.1;have I:=tK h.lk.m (s.block _ h.lk.m.lt (λe=>by obtain⟨⟨G,r⟩,_⟩:=y _ e.symm;exact Ff h.lk.m r rfl));have an:qy L (N.ks.take N.ks.length)=qy L N.ks:=by rw[Ct]
 have x:=h.kr;rw[an]at x;have H:∀{c:Ad}{u:Nat}{v:List Ad},W.ownsRow w0.heap.size 55 1 c u v->(c.ownBlock=Q\/c.ownBlock≠vs.ownBlock)->(c.ownBlock=Q\/c.ownBlock≠a.ownBlock):=λl B=>by
  rcases B with e|e
  .exact .inl e
  .rename_i c u v;cases d:c.ownBlock with
   |none=>exact .inl rfl
   |some k=>
    have:=(l.lt k d).2;rcases ak with e2|e2
    .rw[e2,<-d];exact .inr e
    .rw[e2];exact .inr (by simp only[ne_eq,fw];omega)
 refine⟨t,⟨bp W' lb 1 _ _ _ t,tK I (ay _ _ _ _ (λe=>by exact Ff I t e)),al.keep J⟩,⟨?_,?_,?_,?_,?_⟩,F,J⟩
 .rw[aG,eJ];exact E l
 .intro b f hx;rcases bg b L.length with g|g
  .rw[gw g]at hx;exact set (C (h.ns.box b f hx) (qz _).1) (qz _).2.1
  .rw[eD g]at hx;obtain⟨q,i⟩:=List.getElem?_eq_some_iff.1 hx;simp at q i;subst i;obtain rfl:b=L.length:=by omega
   exact F
 .intro b f hx;rcases bg b L.length with g|g
  .rw[gw g]at hx;rw[List.take_append_of_le_length (by omega)];exact E ((h.ns.kid b f hx).kept s (h.ns.far f (dj hx)))
  .rw[eD g]at hx;obtain⟨q,i⟩:=List.getElem?_eq_some_iff.1 hx;simp at q i;subst i;obtain rfl:b=L.length:=by omega
   rw[List.take_left];exact E (x.kept s h.fr)
 .intro f hx;rcases List.mem_append.1 hx with hx|hx
  .obtain⟨b,ao,af⟩:=iq hx;exact H (h.ns.kid b f (by rw[aw ao,af])) (h.ns.far f hx)
  .obtain rfl:=List.mem_singleton.1 hx;exact H x h.fr
 .intro b f z hx K;rcases bg b L.length with g|g
  .rw[gw g]at hx;exact h.ns.rng b f z hx K
  .rw[eD g]at hx;obtain⟨q,i⟩:=List.getElem?_eq_some_iff.1 hx;simp at q i;subst i;obtain rfl:b=L.length:=by omega
   exact ar z K
def kinds(ns:List Nd)(ks:List Int):List Int:=ks.map λa=>(ns.getD a.toNat Gk).k
def nF.kids{L:List Im}(h:nF W base vs L)(s:L.map Im.N=ns.take L.length){x:Im}(j:L[i]?=O x):jm W x.kv (kinds ns x.N.ks):=by
 have e:=h.kid i x j;have n:(kinds ns x.N.ks).length=x.N.ks.length:=by simp[kinds]
 have w:i<L.length:=(List.getElem?_eq_some_iff.1 j).1;rcases bJ e with⟨z,f⟩|⟨q,p,f⟩
 .exact .inl ⟨lD (by omega),_,_,f⟩
 .rw[f]at e⊢;refine .inr ⟨⟨q,0,Q⟩,p,by rw[n],?_,λl A c=>?_⟩
  .rw[n];rcases e.2 with⟨g,_⟩|⟨v,t,u,g,_,_,r,_⟩
   .cases g
   .cases g;exact r
  .unfold kinds at c;rw[cD]at c;cases hz:x.N.ks[l]? with
   |none=>rw[hz]at c;cases c
   |some d=>
    rw[hz]at c;obtain rfl:=aJ c;have⟨z0,B⟩:=h.rng i x d j (dj hz);obtain⟨a,k⟩:∃a,L[d.toNat]?=O a:=⟨L[d.toNat]'(by omega),aw _⟩;have o:(ns.getD d.toNat Gk)=a.N:=by
     have m:(L.map Im.N)[d.toNat]?=O a.N:=by rw[cD,k];rfl
     rw[s,nh,ab (by omega)]at m;rw[aF,m];rfl
    have y:l<x.N.ks.length:=(List.getElem?_eq_some_iff.1 hz).1;refine⟨a.b,?_,?_⟩
    .rw[vv,e.cellAt l (by omega)];unfold qy;rw[cD,hz];simp only[vD];rw[nh,ab (by omega),k,o];rfl
    .show W.cell? ⟨a.b,0,Q⟩=O (Z X (ns.getD d.toNat Gk).k);rw[o];exact(h.box _ a k).cells.1
def afu:(Tryz.prog.info? 55).map (λi=>(i.zero,i.size,i.bytes))=O (O Ck,1,16):=by kernel_rfl
def Gc(N:Nd):Bool:=decide (0<=N.f/\N.f<=N.t/\0<=N.l/\N.ks.length<=200/\N.nm.length<=200)
def Jn(ns:List Nd)(i:Nat)(N:Nd):Bool:=
 Gc N&&(By (oJ N (fJ N.k)) N&&(GJ N.ks i N.ks.length 0&&(ffB N N.ks.length (fJ N.k)&&kfB N (kinds ns N.ks))))
def Jo(c:A3)(lb mb:Nat)(L:List Im)(ns:List Nd)(N:Nd)(vn:Ad)(e:Ending)(a:A3):Prop:=
 e= Bn (Bc (Jn ns L.length N))/\cg c a/\(Jn ns L.length N=B1->∃b x,x.N=N/\x.vn=vn/\Lk a lb mb b/\nF a c.heap.size b (L++[x]))
def afv(w:A3)(lb:Nat)(N:Nd)(vn vk:Ad)(j:dz w vn N.nm)(i:dH w vk N.ks)(e:lL N)(h:Gc N=Ax):
  B4 A1 64 #[Y (O ⟨lb,0,Q⟩),jI N vn vk] w (jf w (Bc Ax)):=by
 have b:∀c,cg w (w.alloc c):=λc=>(ah _ w).alloc (ag _) c;obtain⟨o,q,rfl⟩:=j.form;obtain⟨p,r,rfl⟩:=i.form;have k:=e.l1;have l:=e.l2;unfold Gc at h;have a:=mA h;unfold jI;generalize N.nm.length=f at k a⊢;generalize N.ks.length=g at l a⊢;obtain⟨y,d,n,m,C,A,E,B,z⟩:=N;simp only at a⊢;by_cases s:d<0
 .clear a;go_in;go_wp2;go_ret;exact⟨rfl,b _⟩
 by_cases t:n<d
 .clear a;go_in;go_wp2;go_ret;exact⟨rfl,b _⟩
 by_cases u:m<0
 .clear a;go_in;go_wp2;go_ret;exact⟨rfl,b _⟩
 by_cases v:(200:Int)<(g:Int)
 .clear a;go_in;go_wp2;go_ret;exact⟨rfl,b _⟩
 have x:(200:Int)<(f:Int):=by omega
 go_in;go_wp2;go_ret;exact⟨rfl,b _⟩
def aag(c:cg W W'){a:Addr}(b:a.block<W.heap.size){r:Bool}(h:W.frozen? a=r):W'.frozen? a=r:=by
 rw[<-h];exact World.frozen?_of_block (c.block _ b)
def as4(h:dz w vn N.nm)(k:Int):dz w (uo vn (fJ k)) (oJ N (fJ k)).nm:=by
 rcases Fa k with hc|hc|hc|hc|hc|hc|hc
 .rw[hc];exact h
 .rw[hc];exact .inl ⟨rfl,_,_,rfl⟩
 .rw[hc];exact .inl ⟨rfl,_,_,rfl⟩
 .rw[hc];exact .inl ⟨rfl,_,_,rfl⟩
 .rw[hc];exact .inl ⟨rfl,_,_,rfl⟩
 .rw[hc];exact h
 .rw[hc];exact .inl ⟨rfl,_,_,rfl⟩
def ai0(k:Int)(h:N.nm.length<=1048576):(oJ N (fJ k)).nm.length<=1048576:=by
 rcases Fa k with hc|hc|hc|hc|hc|hc|hc
 .rw[hc];exact h
 .rw[hc];exact aD _
 .rw[hc];exact aD _
 .rw[hc];exact aD _
 .rw[hc];exact aD _
 .rw[hc];exact h
 .rw[hc];exact aD _
def ai1(g w:A3)(K:pf g)(a4:cg g w)(lb mb:Nat)(gf:g.heap.size<=lb)(bo:Ad)(L:List Im)(h:Lk w lb mb bo)(fB:nF w g.heap.size bo L)(N:Nd)(vn vk:Ad)(cF:dz g vn N.nm)(bh:dH g vk N.ks)(a6:lL N)(fA:L.length<=3000)(ns:List Nd)(gt:L.map Im.N=ns.take L.length)(b9:ns[L.length]?=O N)(cc:∀W,cg g W->F0 A1 W "strings.asciiSpace" .u8 B3)(cy:Gc N=B1):
  B4 A1 64 #[Y (O ⟨lb,0,Q⟩),jI N vn vk] w (Jo g lb mb L ns N vn):=by
 have ce:=λW (cu:cg w W)=>aa4 W N vn vk (by obtain⟨cp,ba,k⟩:=cF.form;exact⟨_,_,_,k⟩) (by obtain⟨cp,ba,k⟩:=bh.form;exact⟨_,_,_,k⟩);have⟨a7,b7⟩:=aC (Jn ns L.length N);unfold Jo;rw[b7];unfold Jn at b7;rw[cy,gI]at b7;obtain⟨o,p,rfl⟩:=cF.form;obtain⟨ap,a0,rfl⟩:=bh.form;unfold Gc at cy;have⟨hK,h0,h1,fu,fv⟩:=aB cy;have v:B0 (Lk w lb mb bo/\nF w g.heap.size bo L/\dz g (U o N.nm.length p) N.nm/\dH g (U ap N.ks.length a0) N.ks/\lL N/\L.map Im.N=ns.take L.length/\(∀W,cg g W->F0 A1 W "strings.asciiSpace" .u8 B3)/\pf g/\cg g w/\ns[L.length]?=O N):=⟨h,fB,cF,bh,a6,gt,cc,K,a4,b9⟩;have ds:=am b7;have h3:¬N.f<0:=by omega
 have h4:¬N.t<N.f:=by omega
 have h5:¬N.l<0:=by omega
 unfold jI at ce⊢;have⟨n,ee⟩:=aC N.nm.length;have⟨q,eg⟩:=aC N.ks.length;have br:=gF ee eg;rw[ee]at ce v fv⊢;rw[eg]at ce v fu⊢;have h6:¬(200:Int)<(q:Int):=by omega
 have h7:¬(200:Int)<(n:Int):=by omega
 have i1:lb<w.heap.size:=ai v.1.b;go_in;go_wp2_with fail;generalize f0:w.alloc _=d9;have⟨c0,ek,g7⟩:=al1 f0;replace c0:qK w.heap.size d9 34 N (U o n p) (U ap q a0):=c0;refine(ce d9 ek).mono ?_;rintro k B ⟨rfl,b8,eh⟩;rw[g7]at b8⊢;have⟨i,f9⟩:=aC (w.heap.size+1+1+1);rw[f9]at b8⊢;have e6:=c0.below eh;have a8:cg w B:=ek.trans (eh.mono (by omega));have⟨bv,bw,bE,b0,b1,b2,b3,b4,b5,hH⟩:=bK e6;have ea:cg B B.drew:=bF (ah _ B);have en:dz B.drew (U o n p) N.nm:=((v.2.2.1.below v.2.2.2.2.2.2.2.2.1).below a8).below ea;have an:=G9 B.drew i N (U o n p) (U Q 0 0) 0 ⟨_,_,_,rfl⟩ (b8.below ea);have a5:=λW (cu:F2 B.drew.heap.size B.drew W)=>Ei W (oJ N (fJ N.k)) N (uo (U o n p) (fJ N.k)) (U Q 0 0) (U o n p) (U ap q a0) ((as4 en N.k).below cu) (en.below cu) ⟨_,_,_,rfl⟩ ⟨_,_,_,rfl⟩ (ai0 _ v.2.2.2.2.1.l1) v.2.2.2.2.1.l1;obtain⟨hD,i5,hE,g6⟩:∃cp hm ba,uo (U o n p) (fJ N.k)= U cp hm ba:=by
  unfold uo;split<;>exact⟨_,_,_,rfl⟩
 rw[g6]at an a5;unfold jI at an a5;have⟨hs,es⟩:=aC (By (oJ N (fJ N.k)) N);rw[es]at a5;have cl:=am es;have⟨hA,c4⟩:=aC (oJ N (fJ N.k));rw[c4]at an a5 cl;have gp:=λw=>sy N.k i w;have hb:=λw=>gD i w;unfold gq at an⊢;have hx:B0 (pI (fJ N.k)=pI (fJ N.k)):=rfl;generalize c6:pI (fJ N.k)=dc at an gp⊢;go_wp2_with fail;cases hs with
 |false=>
  have C:B0 (Ax=a7):=by have:=ds.out;rw[c4,cl.out,fE]at this;exact this
  go_region_held3 (λm=>m.cell? ⟨w.heap.size,0,Q⟩=O (Z X N.k)/\m.cell? ⟨w.heap.size,1,Q⟩=O (Z X N.f)/\m.cell? ⟨w.heap.size,2,Q⟩=O (Z X N.t)/\m.cell? ⟨w.heap.size,3,Q⟩=O (Z X N.l)/\m.cell? ⟨w.heap.size,4,Q⟩=O (Z X N.op)/\m.cell? ⟨w.heap.size,5,Q⟩=O (Z X N.n)/\m.cell? ⟨w.heap.size,6,Q⟩=O (F1 N.x)/\m.cell? ⟨w.heap.size,7,Q⟩=O (U o n p)/\m.cell? ⟨w.heap.size,8,Q⟩=O (U ap q a0)) (first|go_keep|exact⟨cell_kept j (cell_kept a bv),cell_kept j (cell_kept a bw),cell_kept j (cell_kept a bE),cell_kept j (cell_kept a b0),cell_kept j (cell_kept a b1),cell_kept j (cell_kept a b2),cell_kept j (cell_kept a b3),cell_kept j (cell_kept a b4),cell_kept j (cell_kept a b5)⟩|exact⟨cell_kept a bv,cell_kept a bw,cell_kept a bE,cell_kept a b0,cell_kept a b1,cell_kept a b2,cell_kept a b3,cell_kept a b4,cell_kept a b5⟩) (first|(go_at_call 30;refine an.mono ?_;rintro k hw ⟨rfl,a⟩)|(go_at_call 123;refine(a5 _ a).mono ?_;rintro k ao ⟨rfl,j⟩))
  go_wp2;go_ret;have f8:cg w ao:=a8.trans (((bF (ah _ B)).trans (a.trans (j.mono a.size))).mono a8.size);exact⟨by rw[<-C.out];rfl,v.2.2.2.2.2.2.2.2.1.trans (f8.mono v.2.2.2.2.2.2.2.2.1.size),λh=>by rw[<-C.out]at h;cases h⟩
 |true=>
  have fb:B0 ((GJ N.ks L.length N.ks.length 0&&(ffB N N.ks.length (fJ N.k)&&kfB N (kinds ns N.ks)))=a7):=by have:=ds.out;rw[c4,cl.out,gI]at this;exact this
  go_region_held3 (λm=>m.cell? ⟨w.heap.size,0,Q⟩=O (Z X N.k)/\m.cell? ⟨w.heap.size,1,Q⟩=O (Z X N.f)/\m.cell? ⟨w.heap.size,2,Q⟩=O (Z X N.t)/\m.cell? ⟨w.heap.size,3,Q⟩=O (Z X N.l)/\m.cell? ⟨w.heap.size,4,Q⟩=O (Z X N.op)/\m.cell? ⟨w.heap.size,5,Q⟩=O (Z X N.n)/\m.cell? ⟨w.heap.size,6,Q⟩=O (F1 N.x)/\m.cell? ⟨w.heap.size,7,Q⟩=O (U o n p)/\m.cell? ⟨w.heap.size,8,Q⟩=O (U ap q a0)) (first|go_keep|exact⟨cell_kept j (cell_kept a bv),cell_kept j (cell_kept a bw),cell_kept j (cell_kept a bE),cell_kept j (cell_kept a b0),cell_kept j (cell_kept a b1),cell_kept j (cell_kept a b2),cell_kept j (cell_kept a b3),cell_kept j (cell_kept a b4),cell_kept j (cell_kept a b5)⟩|exact⟨cell_kept a bv,cell_kept a bw,cell_kept a bE,cell_kept a b0,cell_kept a b1,cell_kept a b2,cell_kept a b3,cell_kept a b4,cell_kept a b5⟩) (first|(go_at_call 30;refine an.mono ?_;rintro k hw ⟨rfl,a⟩)|(go_at_call 123;refine(a5 _ a).mono ?_;rintro k ao ⟨rfl,j⟩))
  have cr:cg B ao:=(bF (ah _ B)).trans (a.trans (j.mono a.size));have cq:cg w ao:=a8.trans (cr.mono a8.size);have⟨lk,ca,ep,ge,a6,eq,cc,K,a4,b9⟩:=v.out;have fn:cg g ao:=a4.trans (cq.mono a4.size);have e0:=lk.below cq;have e3:=ca.below cq;have hq:=e6.below cr;have bt:=b8.below cr;have g8:=a4.size;have e:=Cc.start K ca (by omega) (by omega) (by omega) e0 e3 hq bt fn ⟨gf,by omega,g8⟩;have⟨H,I,bk⟩:=di e3.row;have fq:ao.cell? ⟨lb,1,Q⟩=O (U H L.length I):=by rw[<-bk,aj _ _ _ _ _ _ e0.b];rfl
  have ec:=bt.cells.2.2.2.1;have ed:=bt.cells.2.2.2.2.2;have ia:i<ao.heap.size:=ai bt;have bs:=am e;have⟨d,eo⟩:=aC L.length;rw[eo]at fq bs fA;have E:=am eo;go_wp2_with (go_at_call 299;refine(hb _).mono ?_;rintro k w5 ⟨rfl,rfl⟩);have⟨eA,el,ew,ex,ey⟩:=fh afu;go_loopw [54] (λdg wr=>∃(c:Nat) (eF:Ad),dg= Z X c/\c<=q/\B0 ((GJ N.ks d (q-c) c&&(ffB N q (fJ N.k)&&kfB N (kinds ns N.ks)))=a7)/\B0 (∀r∈N.ks.take c,0<=r/\r<(d:Int))/\B0 (Cc g lb mb w.heap.size i bo L N (U o n p) (U ap q a0) eF c wr)) (λdg _=>q-(C2 dg).toNat)
  case atStart=>
   refine⟨0,_,rfl,aD _,?_,λr af=>by simp at af,bs⟩;have:=fb.out;rw[E.out,br.out.2]at this;exact this
  case round=>
   obtain⟨c,eF,rfl,ih,dq,dx,cf⟩:=hrel;have e:=cf.out;have F:=dq.out;by_cases gn:c<q
   .obtain⟨r,af⟩:=cJ br.2 gn;have⟨hC,f6,ib⟩:=(v.2.2.2.1.below e.bl).get af;subst f6;have ip:(c:Int)<(q:Int):=by omega
    have ii:(0:Int)<=(c:Int):=by omega
    have ec:=e.bx.cells.2.2.2.1;rw[E.out]at ec;rw[show q-c=(q-(c+1))+1 by omega,GJ,aF,af,gy]at F;by_cases b6:0<=r/\r<(d:Int)
    .obtain⟨c9,rfl⟩:=iE b6.1;have fz:c9<d:=by omega
     have⟨G,ev⟩:=cJ E.out fz;have cb:=e.ns.row;rw[E.out]at cb;rcases bJ cb with⟨i3,_⟩|⟨bb,cs,bk⟩
     .omega
     subst bk;have fo:wr.cell? ⟨lb,1,Q⟩=O (U (O ⟨bb,0,Q⟩) d cs):=by rw[aj _ _ _ _ _ _ e.lk.b];rfl
     have eb:wr.cell? ⟨bb,c9,Q⟩=O (A0 (pI (fJ G.N.k)) (Y (O ⟨G.b,0,Q⟩))):=by
      rw[cb.cellAt c9 (by omega),cD,ev];rfl
     have⟨s,u,cz⟩:=di e.kr;subst cz;have ft:=e.bx.cells.2.2.2.2.1;have ed:=e.bx.cells.2.2.2.2.2 5;have em:=e.kr;have cn:B0 (qy L (N.ks.take (c+1))=qy L (N.ks.take c)++[A0 (pI (fJ G.N.k)) (Y (O ⟨G.b,0,Q⟩))]):=by
      show _=_;rw[iC,af];unfold qy;rw[eJ];simp[ev,nV,gq]
     have e9:B0 ((GJ N.ks d (q-(c+1)) (c+1)&&(ffB N q (fJ N.k)&&kfB N (kinds ns N.ks)))=a7):=by
      rw[be b6,gI]at F;exact F
     have fk:B0 (∀r∈N.ks.take (c+1),0<=r/\r<(d:Int)):=λr ez=>by
      rw[iC,af]at ez;rcases List.mem_append.1 ez with h|h
      .exact dx r h
      .simp at h;subst h;exact b6
     have hh:lb<wr.heap.size:=ai e.lk.b;have hl:i<wr.heap.size:=ai e.bx;have i4:bb<wr.heap.size:=(cb.lt bb rfl).2;have eB:∀c7,(Br s c u).ownBlock=O c7->ad0 wr c7:=λc7 bh=>(qi em bh).1;have i6:O lb≠(Br s c u).ownBlock:=λk=>by obtain⟨ba,bd⟩:=eB lb k.symm;exact rG e.lk.b bd (by decide) rfl
     have e1:O i≠(Br s c u).ownBlock:=λk=>by obtain⟨ba,bd⟩:=eB i k.symm;exact rG e.bx bd (qz _).1 rfl
     have i7:O bb≠(Br s c u).ownBlock:=λk=>by
      rcases e.fr with e2|e2
      .rw[e2]at k;cases k
      .exact e2 k.symm
     have g9:g.heap.size<=wr.heap.size:=e.bl.size;have fg:B0 (pI (fJ G.N.k)=pI (fJ G.N.k)):=rfl;generalize pI (fJ G.N.k)=dd at eb cn fg;generalize G.b=dn at eb cn;have a9:∀A,cg wr (wr.alloc A).drew:=λA=>bF ((ah _ wr).alloc (ag _) A);go_wp2_with fail;go_region_law (refine step_append_lies _ (by rfl) _ _ _ (by rfl) g.heap.size 55 eA _ 1 16 underlying86 el ew ex ey rfl (by omega) (U s c u) c (qy L (N.ks.take c)) (by rfl) ((em.alloc _).drew) ⟨wr.heap.size,0,Q⟩ 1 1 [A0 dd (Y (O ⟨dn,0,Q⟩))] (by rfl) (by rfl) (E2 (cs:=#[A0 dd (Y (O ⟨dn,0,Q⟩))]) (t:=55) (fr:=(0,0)) (aA wr _)) (by simp[Value.oneCell']) (by omega) (by unfold G0;omega) (by omega) (by simp;omega) (wr.heap.size+1) (by simp) ?_;intro h2 hG w5 bj bf cw iy;have hI:=(bf.cell_far ⟨i,5,Q⟩ (by simp;omega) e1).trans (cell_kept (a9 _) ft);have hJ:=(bf.frozen_far ⟨i,5,Q⟩ (by simp;omega) e1).trans (aag (a9 _) hl ed))
     all_goals
      go_wp2_with fail;have⟨_,ca,_,_,_,_,_,K,_,_⟩:=v.out;have hv:=cf.below (a9 (Ak #[A0 dd (Y (O ⟨dn,0,Q⟩))] 55));rw[<-cn.out]at bj;have⟨_,stB⟩:=hv.kid K bf bj cw (by simp);exact⟨⟨c+1,_,by go_num,by omega,e9,fk,stB⟩,by simp[C2];omega⟩
    .have C:B0 (Ax=a7):=by rw[az b6,fE,fE]at F;exact F
     have ei:=e.bl;by_cases h8:r<0
     .clear F e cf dq af;go_wp2;go_ret;exact⟨by rw[<-C.out];rfl,ei,λh=>by rw[<-C.out]at h;cases h⟩
     .have h9:¬r<(d:Int):=by omega
      go_wp2;go_ret;exact⟨by rw[<-C.out];rfl,ei,λh=>by rw[<-C.out]at h;cases h⟩
   .obtain rfl:c=q:=by omega
    rw[fx,GJ,gI]at F;have⟨s,u,cz⟩:=di e.kr;subst cz;have⟨H,I,bk⟩:=di e.ns.row;subst bk;rw[E.out];have fo:wr.cell? ⟨lb,1,Q⟩=O (U H d I):=by rw[<-E.out,aj _ _ _ _ _ _ e.lk.b];rfl
    have er:=e.ns.row;rw[E.out]at er;have g9:g.heap.size<=wr.heap.size:=e.bl.size;have hh:lb<wr.heap.size:=ai e.lk.b;have a9:∀A,cg wr (wr.alloc A):=λA=>(ah _ wr).alloc (ag _) A;have bs:=am e;have fd:=am F;have ff:=am er;have⟨_,ca,ep,ge,a6,eq,cc,K,a4,b9⟩:=v.out;have e8:B0 (∀A w5 z y,(wr.alloc A).grownBy w5 (Br H d I).ownBlock->w5.ownsRow g.heap.size 55 1 (U (O ⟨z,0,Q⟩) (d+1) y) (d+1) (L.map nV++[A0 dc (Y (O ⟨i,0,Q⟩))])->((Br (O ⟨z,0,Q⟩) (d+1) y).ownBlock=(Br H d I).ownBlock\/(Br (O ⟨z,0,Q⟩) (d+1) y).ownBlock=O (wr.alloc A).heap.size)->
      w5.heap[lb]?=O (Ak #[.map (O mb),U H d I] 162 (0,0))/\Lk (w5.setCell ⟨lb,1,Q⟩ (U (O ⟨z,0,Q⟩) (d+1) y)) lb mb (U (O ⟨z,0,Q⟩) (d+1) y)/\nF (w5.setCell ⟨lb,1,Q⟩ (U (O ⟨z,0,Q⟩) (d+1) y)) g.heap.size (U (O ⟨z,0,Q⟩) (d+1) y) (L++[⟨N,i,U o n p,U s c u⟩])/\il (w5.setCell ⟨lb,1,Q⟩ (U (O ⟨z,0,Q⟩) (d+1) y)) i N (U o n p) d (U s c u)/\cg g (w5.setCell ⟨lb,1,Q⟩ (U (O ⟨z,0,Q⟩) (d+1) y))):=by
     intro A w5 z y gb gv cw;have ht:=bs.below (a9 A);have cI:=E.out;have cB:=br.2;subst cB;subst cI;have g0:∀r∈N.ks,0<=r/\r<(L.length:Int):=by
      have:=dx.out;rw[Ct]at this;exact this
     refine ht.done K g0 gb ?_ cw;unfold gq;rw[c6];exact gv
    go_wp2_with (at_builtin;refine wpList_append_own_at _ rfl _ _ 86 rfl g.heap.size 55 eA _ 1 16 underlying86 el ew ex ey rfl (by decide) _ _ _ rfl (ff.alloc _) ⟨wr.heap.size,0,Q⟩ 1 1 [A0 dc (Y (O ⟨i,0,Q⟩))] rfl rfl (E2 (cs:=#[A0 dc (Y (O ⟨i,0,Q⟩))]) (fr:=(0,0)) (aA wr _)) (by intro i8 et;simp at et;subst et;rfl) (by unfold G0;omega) (by omega) (by simp;omega) ?_;intro i9 w5 bj bf i2 f7;obtain⟨z,y,rfl⟩:=ownsRow_succ bj;obtain⟨eL,c8,da,ct,ar⟩:=e8.out _ w5 z y bf bj f7;have j0:w5.cell? ⟨lb,1,Q⟩=O (U H d I):=by {rw[aj _ _ _ _ _ _ eL];rfl};have j1:w5.frozen? ⟨lb,1,Q⟩=Ax:=cH _ _ _ _ _ eL);generalize w5.setCell ⟨lb,1,Q⟩ (U (O ⟨z,0,Q⟩) (d+1) y)=fm at c8 da ct ar⊢;have cI:=E.out;have cB:=br.2;have ha:(L++[⟨N,i,U o n p,U s c u⟩])[d]?=O ⟨N,i,U o n p,U s c u⟩:=by rw[<-cI];simp
    have gu:(L++[(⟨N,i,U o n p,U s c u⟩:Im)]).map Im.N=ns.take (L++[(⟨N,i,U o n p,U s c u⟩:Im)]).length:=by
     rw[eJ,eq,aG,Ch,iC,b9];rfl
    have gd:=da.kids gu ha;have al:=Gb fm lb mb _ c8 i N (U o n p) d s c u (by omega) (ep.below ar) a6.l1 a6.ls a6.lx ct;unfold gq at al;rw[c6]at al;have ad:=fd.out;cases hfb:ffB N c (fJ N.k) with
    |false=>
     rw[hfb]at al ad;rw[fE]at ad;have C:=am ad;refine al.mono ?_;rintro k e7 ⟨rfl,J⟩;have aK:=ar.trans (J.mono ar.size);clear ad hfb al;go_wp2_with fail;go_ret;exact⟨by rw[<-C.out];rfl,aK,λh=>by rw[<-C.out]at h;cases h⟩
    |true=>
     rw[hfb]at al ad;rw[gI]at ad;have gr:fJ N.k=1->0<=N.n/\N.n<=200:=λbd=>by
      rw[bd]at hfb;have:=aB (show decide (1<=N.n/\N.n<(c:Int))=B1 from hfb);omega
     refine al.mono ?_;rintro k e7 ⟨rfl,J⟩;have aK:=ar.trans (J.mono ar.size);have hd:=c8.below J;have hp:=da.below J;have gl:(kinds ns N.ks).length<=1048576:=by unfold kinds;rw[bq,cB];omega
     have cd:=aaf e7 i N (U o n p) (U s c u) d (kinds ns N.ks) (gd.below J) gl (λW fF=>cc W (aK.trans (fF.mono aK.size))) (ct.below J) gr;rw[ad]at cd;unfold gq at cd;rw[c6]at cd;go_wp2_with (go_at_call 125;refine cd.mono ?_;rintro k ji ⟨rfl,cx⟩);go_ret;exact⟨rfl,aK.trans (cx.mono aK.size),λ_=>⟨_,_,rfl,rfl,hd.below cx,hp.below cx⟩⟩
def ai2(a w:A3)(l:pf a)(b:cg a w)(lb mb:Nat)(n:a.heap.size<=lb)(c:Ad)(L:List Im)(h:Lk w lb mb c)(j:nF w a.heap.size c L)(N:Nd)(vn vk:Ad)(f:dz a vn N.nm)(e:dH a vk N.ks)(g:lL N)(i:L.length<=3000)(ns:List Nd)(o:L.map Im.N=ns.take L.length)(m:ns[L.length]?=O N)(p:∀W,cg a W->F0 A1 W "strings.asciiSpace" .u8 B3):
  B4 A1 64 #[Y (O ⟨lb,0,Q⟩),jI N vn vk] w (Jo a lb mb L ns N vn):=by
 cases hf:Gc N with
 |true=>exact ai1 a w l b lb mb n c L h j N vn vk f e g i ns o m p hf
 |false=>
  refine dt (afv w lb N vn vk (f.below b) (e.below b) g hf) λq k=>?_;have d:Jn ns L.length N=Ax:=by unfold Jn;rw[hf,fE]
  exact⟨by rw[d],b.trans (k.mono b.size),λh=>by rw[d]at h;cases h⟩
def ab0(x:ByteArray):xr x=decide (x=⟨#[]⟩):=by
 unfold xr;rw[gH];by_cases a:x=⟨#[]⟩
 .subst a;rfl
 .rw[az a,az];intro b;apply a;cases x;simp only at b
  congr 1
  exact Array.toList_inj.1 b
def xJ(N:Nd):By (oJ N (fJ N.k)) N=(match fJ N.k with
  |0=>bu N Ax Ax Ax B1
  |1=>bu N Ax B1 Ax Ax
  |2=>bu N Ax B1 Ax Ax
  |3=>bu N Ax Ax B1 Ax
  |4=>bu N B1 Ax Ax Ax
  |5=>bu N B1 Ax Ax B1&&(N.op==0||N.op==1)
  |_=>bu N Ax Ax Ax Ax):=by
 have p:∀(l m o:Bool)(P f g h:Prop) [Decidable P] [Decidable f] [Decidable g] [Decidable h],decide (P/\f/\g/\h)=(decide P&&decide f&&decide g&&decide h):=λl m o P f g h _ _ _ _=>by
  by_cases c:P<;>by_cases q:f<;>by_cases r:g<;>by_cases s:h<;>simp[c,q,r,s]
 have d:decide ((0:Int)=N.op)=(N.op==0):=by
  by_cases a:N.op=0
  .rw[be a.symm,a];rfl
  .rw[az (λb=>a b.symm)];exact(beq_eq_false_iff_ne.2 a).symm
 have j:decide ((0:Int)=N.n)=(N.n==0):=by
  by_cases a:N.n=0
  .rw[be a.symm,a];rfl
  .rw[az (λb=>a b.symm)];exact(beq_eq_false_iff_ne.2 a).symm
 have e:decide ((⟨#[]⟩:ByteArray)=N.x)=xr N.x:=by
  rw[ab0];by_cases a:N.x=⟨#[]⟩
  .rw[be a.symm,be a]
  .rw[az (λb=>a b.symm),az a]
 have i:decide (([]:List ByteArray)=N.nm)=decide (N.nm.length=0):=by
  by_cases a:N.nm=[]
  .rw[be a.symm,be (by rw[a];rfl)]
  .rw[az (λb=>a b.symm),az (λb=>a (lD b))]
 unfold By bu;rw[p B1 B1 B1];rcases Fa N.k with hc|hc|hc|hc|hc|hc|hc
 .rw[hc];simp only[oJ,d,j,e];simp
 .rw[hc];simp only[oJ,d,e,i];simp
 .rw[hc];simp only[oJ,d,e,i];simp
 .rw[hc];simp only[oJ,d,j,i];simp
 .rw[hc];simp only[oJ,j,e,i];simp
 .rw[hc];simp only[oJ,j,e];have b:decide ((if N.op=1 then(1:Int) else 0)=N.op)=(N.op==0||N.op==1):=by
   by_cases c:N.op=1
   .rw[ab c,c];rfl
   .rw[aa c,d];rw[beq_eq_false_iff_ne.2 c,Hi]
  rw[b];simp;cases (N.op==0||N.op==1)<;>cases (N.n==0)<;>cases xr N.x<;>rfl
 .rw[hc];simp only[oJ,d,j,e,i];simp
def na(ns:List Nd)(ks:List Int):(kinds ns ks).length=ks.length:=by simp[kinds]
def ai3(ns:List Nd)(N:Nd)(j:Nat)(h:j<N.ks.length):(kinds ns N.ks)[j]?=O (fl ns N j):=by
 unfold kinds fl;rw[cD,aw h];simp[List.getD,aw h]
def ab1(a:List Int):gj [] a=a.isEmpty:=rfl
def ad1(i:Nat)(a:List Int):gj [(i,1)] a=a.all (ms i):=by
 rw[gj,aa (by omega),ab1];have c:JF i 1 a=(a.takeWhile (ms i)).length:=by unfold JF;rw[ab rfl]
 rw[c]
 induction a with
 |nil=>rfl
 |cons b e d=>
  cases h:ms i b with
  |false=>rw[He (by simp[h])];simp[h]
  |true=>
   rw[Hf (by simp[h]),Hp,h,gI,bc,List.drop_succ_cons];exact d (by unfold JF;rw[ab rfl])
def arC(i f:Nat)(b:f≠1)(a:Int)(r:List Int):JF i f (a::r)=if ms i a=B1 then 1 else 0:=by
 unfold JF;rw[aa b];cases h:ms i a with
 |false=>rw[He (by simp[h])];simp
 |true=>rw[Hf (by simp[h]),bc,ab rfl];omega
def Jp(i:Nat)(b:List (Nat×Nat))(a:Int)(r:List Int):gj ((i,0)::b) (a::r)=(ms i a&&gj b r):=by
 rw[gj,arC i 0 (by omega)];cases h:ms i a with
 |false=>simp
 |true=>simp
def ad2(i:Nat)(a:List (Nat×Nat)):gj ((i,0)::a) []=Ax:=by
 rw[gj];simp[JF]
def apq(i:Nat)(b:List (Nat×Nat))(a:Int)(r:List Int):gj ((i,2)::b) (a::r)=if ms i a=B1 then gj b r else gj b (a::r):=by
 rw[gj,arC i 2 (by omega)];cases h:ms i a with
 |false=>simp
 |true=>simp
def alG(i:Nat)(a:List (Nat×Nat)):gj ((i,2)::a) []=gj a []:=by
 rw[gj];simp[JF]
def apr(n:Nat):∀(b:List Int),n<b.length->gj (Ga n) b=((b.take n).all (ms 5)&&(b.drop n).all (ms 3)):=by
 induction n with
 |zero=>
  intro b c
  match b,c with
  |a::d,_=>
   show gj ((3,0)::[(3,1)]) (a::d)=_;rw[Jp,ad1];simp
 |succ n e=>
  intro b c
  match b,c with
  |a::d,c=>
   show gj ((5,0)::Ga n) (a::d)=_;rw[Jp,e d (by simpa using c)];simp[Bool.and_assoc]
def sA(ns:List Nd)(N:Nd)(j:Nat)(h:j<N.ks.length):fl ns N j=(kinds ns N.ks).getD j 0:=by
 rw[aF,ai3 ns N j h];rfl
def zE(a:List Int)(p:Int->Bool)(f j:Nat)(h:j+(f+1)<=a.length):((a.drop j).take (f+1)).all p=(p (a.getD j 0)&&((a.drop (j+1)).take f).all p):=by
 have b:j<a.length:=by omega
 rw[kL b,List.take_succ_cons,Hp,aF,aw b];rfl
def ab2(ns:List Nd)(N:Nd):∀(f j:Nat),j+f<=N.ks.length->lj ns N f j=(((kinds ns N.ks).drop j).take f).all gE
 |0,j,_=>by simp[lj]
 |f+1,j,h=>by
  rw[lj,ab2 ns N f (j+1) (by omega),zE _ _ _ _ (by rw[na];exact h),sA ns N j (by omega)]
def ai4(ns:List Nd)(N:Nd):∀(f j:Nat),j+f<=N.ks.length->C7 ns N f j=(((kinds ns N.ks).drop j).take f).all iK
 |0,j,_=>by simp[C7]
 |f+1,j,h=>by
  rw[C7,ai4 ns N f (j+1) (by omega),zE _ _ _ _ (by rw[na];exact h),sA ns N j (by omega)]
def ai5(ns:List Nd)(N:Nd):∀(f j:Nat),j+f<=N.ks.length->C8 ns N f j=(((kinds ns N.ks).drop j).take f).all ud
 |0,j,_=>by simp[C8]
 |f+1,j,h=>by
  rw[C8,ai5 ns N f (j+1) (by omega),zE _ _ _ _ (by rw[na];exact h),sA ns N j (by omega)]
def ai6(ns:List Nd)(N:Nd):∀(f j:Nat),j+f<=N.ks.length->F4 ns N f j=(((kinds ns N.ks).drop j).take f).all (ms 9)
 |0,j,_=>by simp[F4]
 |f+1,j,h=>by
  rw[F4,ai6 ns N f (j+1) (by omega),zE _ _ _ _ (by rw[na];exact h),sA ns N j (by omega)];rfl
def alH(k:Int):ms 5 k=ud k:=by
 unfold ms ud;by_cases a:k=26<;>by_cases b:k=32<;>by_cases c:k=33<;>simp[a,b,c]
def xi(ns:List Nd)(N:Nd):Bool:=By (oJ N (fJ N.k)) N&&(ffB N N.ks.length (fJ N.k)&&kfB N (kinds ns N.ks))
def arD(ns:List Nd)(N:Nd)(hk:N.k=3\/N.k=4\/N.k=6\/N.k=7\/N.k=8\/N.k=9\/N.k=10\/N.k=11\/N.k=12\/N.k=14\/N.k=15\/N.k=16\/N.k=20\/N.k=21\/N.k=22\/N.k=23\/N.k=24\/N.k=25\/N.k=26\/N.k=27\/N.k=28\/N.k=29\/N.k=30\/N.k=31\/N.k=32\/N.k=33\/N.k=36\/N.k=37\/N.k=40\/N.k=41\/N.k=42)(j:N.nm.length<=200):xi ns N=mJ ns N:=by
 have a:=na ns N.ks;have b:=sA ns N;have h:gE 1=Ax:=rfl;unfold xi kfB rkB;rw[xJ];revert a b;generalize kinds ns N.ks=c;intro a b;rcases hk with hk|hk|hk|hk|hk|hk|hk|hk|hk|hk|hk|hk|hk|hk|hk|hk|hk|hk|hk|hk|hk|hk|hk|hk|hk|hk|hk|hk|hk|hk|hk;all_goals
  rcases c with _|⟨d,_|⟨e,_|⟨f,_|⟨g,_|⟨i,l⟩⟩⟩⟩⟩;all_goals
   simp at a;simp[mJ,iK,stB,jj,fJ,abK,ffB,txB,E9,hk,<-a,b,lj,fy,Jp,ad2,ab1,apq,alG,ms]<;>grind
def arE(ns:List Nd)(N:Nd)(hk:N.k=1\/N.k=2\/N.k=13\/N.k=34\/N.k=35)(j:N.nm.length<=200):xi ns N=mJ ns N:=by
 have b:=na ns N.ks;have e:=sA ns N 0;have d:=ab2 ns N N.ks.length 0 (by omega);have c:=ai4 ns N N.ks.length 0 (by omega);have a:=ai6 ns N N.ks.length 0 (by omega);have g:ms 0=iK:=rfl;have h:ms 3=gE:=rfl;rw[<-b]at d c a e;rw[kC,Ct]at d c a;unfold xi kfB rkB;rw[xJ,<-b];revert b e d c a;generalize kinds ns N.ks=f;intro b e d c a;rcases hk with hk|hk|hk|hk|hk;all_goals
  rcases f with _|⟨i,l⟩;all_goals
   simp at b e;simp only[bc,Hp,dE,List.all_nil]at d c a;simp[mJ,iK,stB,jj,fJ,abK,ffB,txB,E9,hk,d,c,a,g,h,<-b,e,fy,ad1,Jp,ad2,ab1,ms]<;>grind
def arF(ns:List Nd)(N:Nd)(a:N.k=5)(e:N.nm.length<=200):xi ns N=mJ ns N:=by
 have c:fJ N.k=1:=by rw[a];rfl
 have d:mJ ns N=(bu N Ax B1 Ax Ax&&(decide (1<=N.n/\N.n<(N.ks.length:Int))&&(C8 ns N N.n.toNat 0&&lj ns N (N.ks.length-N.n.toNat) N.n.toNat))):=by
  unfold mJ;rw[ab (by rw[a];rfl)];unfold stB;rw[aa (by rw[a];decide),aa (by rw[a];decide),aa (by rw[a];decide),aa (by rw[a];decide),ab a]
 unfold xi kfB;rw[xJ,c,d,ab rfl];simp only[ffB];by_cases b:1<=N.n/\N.n<(N.ks.length:Int)
 .rw[be b,gI,gI,apr _ _ (by rw[na];omega),ai5 ns N _ _ (by omega),ab2 ns N _ _ (by omega)]
  congr 1
  congr 1
  .rw[kC]
   congr 1
   funext k
   exact alH k
  .have:(kinds ns N.ks).drop N.n.toNat=((kinds ns N.ks).drop N.n.toNat).take (N.ks.length-N.n.toNat):=by
    rw[dl (by rw[ir,na];exact ag _)]
   rw[<-this];rfl
 .rw[az b,fE,fE]
def aps(ns:List Nd)(N:Nd)(h:N.k ∉ oy)(f:N.k≠5):xi ns N=mJ ns N:=by
 have d:=(Jl N.k h).1;simp only[oy,gK,mC,mE,not_or]at h;have e:iK N.k=Ax:=by unfold iK;exact az (by omega)
 have b:mJ ns N=Ax:=by
  unfold mJ;rw[aa (by rw[e];decide)];unfold jj
  repeat rw[aa (by omega)]
 have a:fJ N.k=6:=by
  unfold fJ
  repeat rw[aa (by omega)]
 have c:rkB N.k (kinds ns N.ks)=Ax:=by unfold rkB;rw[d]
 unfold xi kfB;rw[b,a,aa (by decide),c,pA,pA]
def ai7(ns:List Nd)(N:Nd)(a:N.nm.length<=200):xi ns N=mJ ns N:=by
 by_cases b:N.k∈oy
 .simp only[oy,gK,mC,mE]at b;by_cases d:N.k=1\/N.k=2\/N.k=13\/N.k=34\/N.k=35
  .exact arE ns N d a
  .exact arD ns N (by omega) a
 .by_cases c:N.k=5
  .exact arF ns N c a
  .exact aps ns N b c
def ab3(ns:List Nd)(N:Nd)(l:200<N.nm.length):mJ ns N=Ax:=by
 have f:∀c d e,bu N c d e Ax=Ax:=λc d e=>by unfold bu;rw[az (by omega)];simp
 have a:∀g b,b<=200->fy N g b=Ax:=λg b m=>by unfold fy;rw[az (by omega)];rfl
 have h:=a 1 1 (by omega);have i:=a 1 2 (by omega);have j:=a 1 200 (by omega);have k:=a 0 200 (by omega);unfold mJ;split
 .unfold stB;simp only[f,h,i,j,fE,pA];simp
 .unfold jj;simp only[f,k,fE,pA];simp
def alI(ns:List Nd)(i:Nat)(N:Nd):Jn ns i N=jK ns i N:=by
 unfold Jn jK;by_cases c:N.nm.length<=200
 .have d:Gc N=I2 N:=by
   unfold Gc I2;by_cases a:0<=N.f/\N.f<=N.t/\0<=N.l/\N.ks.length<=200
   .rw[be a,be ⟨a.1,a.2.1,a.2.2.1,a.2.2.2,c⟩]
   .rw[az a,az (λb=>a ⟨b.1,b.2.1,b.2.2.1,b.2.2.2.1⟩)]
  have e:=ai7 ns N c;unfold xi at e;rw[d,<-e];generalize By (oJ N (fJ N.k)) N=g;generalize GJ N.ks i N.ks.length 0=h;cases g<;>cases h<;>rfl
 .have d:Gc N=Ax:=by unfold Gc;exact az (λb=>c b.2.2.2.2)
  rw[d,ab3 ns N (by omega),fE,pA,pA]
def aah(n l Bs b o:Nat)(a:Option Addr)(f:Nat->Ad)(J:b<=3000)(H:b<=o)(c:Nat->A3->Prop)(k:A3->Prop)
  (q:∀m W,c m W->W.cell? ⟨Bs,0,Q⟩=O (U a b o))
  (y:∀m W,c m W->∀j,j<b->∃h,a=O h/\W.cell? (h.add j)=O (f j))
  (x:∀m W,m<b->c (m+1) W->YieldAt Fence.wide (n-1) A1 l #[Z X (m:Int),f m] W λe W'=>(e= Bn (Bc B1)/\c m W')\/(e= Bn (Bc Ax)/\k W'))
  (W:A3) (p:c b W):
  CallsIn Fence.wide n A1 196 #[.func (.yield l) #[] #[],Y (O ⟨Bs,0,Q⟩)] W λe W'=>(∃v,e= Bn v)/\(c 0 W'\/k W'):=by
 have F:=q _ _ p;refine callsIn_of_wp func196 rfl trivial ?_ rfl;simp only[ntmps196,iD,bc,dE,Nat.reduceAdd,Nat.reduceSub,jn,jA,jB,pz,dI,dJ]
 gi_wp2
 gi_loopw [3] (λi wr=>∃d:Nat,d<=b/\i= Z X ((d:Int)-1)/\c d wr) (λi _=>(C2 i+1).toNat)
 case atStart=>exact⟨b,ag _,rfl,p⟩
 case round=>
  obtain⟨d,I,rfl,g⟩:=hrel;have E:=q _ _ g;rcases oz d with rfl|hp
  .gi_wp2
   go_end0
   exact⟨⟨_,rfl⟩,.inl g⟩
  .obtain⟨m,rfl⟩:∃m,d=m+1:=⟨d-1,by omega⟩;obtain⟨h,rfl,G⟩:=y _ _ g m (by omega);have⟨C,tmps,A,B,K,w⟩:=x m wr (by omega) g;have r:((m+1:Nat):Int)-1=(m:Int):=by omega
   rw[r];have L:(m:Int)<(b:Int):=by omega
   have ad:(0:Int)<=(m:Int):=by omega
   gi_wp2
   refine⟨λs=>by simp[Fence.wide]at s,w.mono ?_⟩;rintro e z (⟨rfl,t⟩|⟨rfl,u⟩)
   .gi_wp2
    go_roundw
    case rel=>exact⟨m,by omega,by simp,t⟩
    case measure=>simp[C2]
   .gi_wp2
    refine aL (jp rfl _ _ _) rfl ?_;exact⟨⟨_,rfl⟩,.inr u⟩
def zF(a:Option Addr)(c b:Nat)(w:A3):
  B4 A1 126 #[U a c b] w λe d=>e= Bn (.func (.func 196) #[] #[Y (O ⟨w.heap.size,0,Q⟩)])/\d=w.alloc (Ak #[U a c b] 86):=by
 refine calls_of_wp func126 rfl ?_;simp only[ntmps126,iD,bc,dE,Nat.reduceAdd,Nat.reduceSub,jn,jA,jB,pz,dI,dJ];go_wp2;go_ret;exact⟨rfl,rfl⟩
attribute [local go_sem] lG
def arG:Option Nat->Ad
 |some i=> E3 #[Z X (i:Int),Bc B1]
 |none=> E3 #[Z X 0,Bc Ax]
structure Fg (w:A3) (B:Nat) (vs:Ad) (n:Nat) (D:List Int) (W:A3):Prop where
 bl:cg w W
 row:W.ownsRow w.heap.size 3 1 (.slice (O ⟨w.heap.size,0,Q⟩) n n) n (D.map (Ce .i64))
 bx:W.heap[B]?=O (.cells #[.slice (O ⟨w.heap.size,0,Q⟩) n n] 32 (0,0))
 bs:W.heap[B+1]?=O (.cells #[vs] 86 (0,0))
 ok:afe n D
def Fg.put{D:List Int}(h:Fg w B vs n D W)(c:w.heap.size<B){r:Loop}(d:B+1<k)(b:W.heap[k]?=O (.loop r))(o:Obj):Fg w B vs n D (W.putObj k o):=
 ⟨h.bl.grown (B6 W k o) h.bl.size (λe a=>by cases a;omega),ownsRow_putObj h.row o b rfl,(A2 (by omega)).trans h.bx,(A2 (by omega)).trans h.bs,h.ok⟩
structure apt (w:A3) (B:Nat) (vs:Ad) (n t:Nat) (ks D:List Int) (j:Nat) (E:List Int) (W0 W:A3):Prop where
 st:Fg w B vs n E W
 rest:Er t (ks.drop j) E=Er t ks D
 kf:KeepsFrom (B+2) W0 W
def A7{e size:Nat}(h:W.ownsRow base e size v n xs):∃a b,v= U a n b:=by
 rcases h.2 with⟨rfl,c⟩|⟨f,b,d,rfl,_⟩
 .exact⟨Q,0,by rw[c]⟩
 .exact⟨_,_,rfl⟩
def aai{e size:Nat}{a:Option Addr}(h:W.ownsRow base e size (U a n c) m xs):n=m:=by
 have⟨b,d,e⟩:=A7 h;cases e;rfl
def nF.at{L:List Im}(h:nF W base (U (O ⟨g,0,Q⟩) n c) L){x:Im}(a:L[i]?=O x):W.cell? ⟨g,i,Q⟩=O (A0 (pI (fJ x.N.k)) (Y (O ⟨x.b,0,Q⟩))):=by
 have e:i<L.length:=(List.getElem?_eq_some_iff.1 a).1;have d:=aai h.row;subst d;rw[h.row.cellAt i (by omega),cD,a];rfl
def nF.kidAt{L:List Im}(h:nF W base vs L){x:Im}(d:L[i]?=O x)(m:x.kv= U (O ⟨g,0,Q⟩) n c){z:Int}(e:x.N.ks[j]?=O z):
  ∃q y,z=((q:Nat):Int)/\q<i/\L[q]?=O y/\W.cell? ⟨g,j,Q⟩=O (A0 (pI (fJ y.N.k)) (Y (O ⟨y.b,0,Q⟩))):=by
 have⟨z0,r⟩:=h.rng i x z d (dj e);obtain⟨q,rfl⟩:=iE z0;have o:i<L.length:=(List.getElem?_eq_some_iff.1 d).1;have p:j<x.N.ks.length:=(List.getElem?_eq_some_iff.1 e).1;have f:q<i:=by omega
 refine⟨q,L[q]'(by omega),rfl,f,aw _,?_⟩;have a:=h.kid i x d;rw[m]at a;have l:=aai a;subst l;rw[a.cellAt j (by omega)];unfold qy;rw[cD,e];simp only[vD,iF];rw[nh,ab f,aw (by omega)];rfl
def Ge(w:A3)(base:Nat)(bf:Ad)(L:List Im)(a7:nF w base bf L)(ns:List Nd)(df:L.map Im.N=ns)(n:Nat)(bo:L.length=n)(eh:1<=n)(p:n<=3000)(dc:∀x∈L,x.N.ks.length<=200):
  B4 A1 66 #[bf] w (jf w (arG (jH (jh (C9 ns)) n 0))):=by
 obtain⟨e,i,rfl⟩:∃e bh,bf= U (O ⟨e,0,Q⟩) n bh:=by
  rcases bJ a7.row with⟨h,_⟩|h
  .omega
  .rw[<-bo];exact h
 have c1:n<=i:=by
  rcases a7.row.2 with⟨p,_⟩|⟨eg,d9,ec,p,_,_,ei,_⟩
  .cases p
  .cases p;omega
 have⟨d1,c7,ds,dx,d0⟩:=fh yy;have⟨a3,br⟩:=aC (jH (jh (C9 ns)) n 0);rw[br];have l:=afC a7 df bo br dc;refine mD (n:=5).1 ?_;refine callsIn_of_wp_marks func66 rfl trivial ?_ rfl;simp only[ntmps66,iD,bc,dE,Nat.reduceAdd,Nat.reduceSub,jn,jA,jB,pz,dI,dJ];refine wpIn_wide.2 ?_;go_wp2_with (first|(at_make;refine Cx _ rfl _ _ 32 rfl w.heap.size 3 d1 (Z X 0) 1 underlying32 c7 ds dx X X _ _ n rfl rfl rfl rfl (by rw[d0];omega) (by unfold G0;omega) (ag _) ?_;intro A bb J)|(go_at_call 126;refine(zF (O ⟨e,0,Q⟩) n i _).mono ?_;rintro C eF ⟨rfl,rfl⟩));rename_i d6 cw;have cI:cg w A:=⟨J.os,J.tape,J.output,J.size,λf c9=>J.block f c9 (by simp)⟩;rw[show(madeCells (Ce X 0).cells (n*1)).toList=B2 n (Ce X 0) by rw[sH];exact Cl _ n]at bb;have bd:w.heap.size<A.heap.size:=(bb.lt w.heap.size rfl).2;have⟨c,a5⟩:=aC A.heap.size;have F:Fg w c (U (O ⟨e,0,Q⟩) n i) n (B2 n 0) ((A.alloc (Ak #[U (O ⟨w.heap.size,0,Q⟩) n n] 32)).alloc (Ak #[U (O ⟨e,0,Q⟩) n i] 86)):=by
  refine⟨(cI.alloc (by omega) _).alloc (by simp;omega) _,?_,?_,?_,?_⟩
  .rw[List.map_replicate];exact(bb.alloc _).alloc _
  .exact(eI _ _ _ (by simp;omega)).trans (by rw[<-a5];exact aA A _)
  .have:=aA (A.alloc (Ak #[U (O ⟨w.heap.size,0,Q⟩) n n] 32)) (Ak #[U (O ⟨e,0,Q⟩) n i] 86);rw[fe,a5]at this;exact this
  .refine⟨by simp,λr al ao=>?_⟩;obtain⟨p,cr⟩:=List.getElem?_eq_some_iff.1 ao;simp at p cr;omega
 have G:((A.alloc (Ak #[U (O ⟨w.heap.size,0,Q⟩) n n] 32)).alloc (Ak #[U (O ⟨e,0,Q⟩) n i] 86)).heap.size=c+2:=by simp;omega
 rw[a5]at bd⊢;generalize (A.alloc (Ak #[U (O ⟨w.heap.size,0,Q⟩) n n] 32)).alloc (Ak #[U (O ⟨e,0,Q⟩) n i] 86)=d8 at F G⊢;refine(sJ (n:=5)).1 ?_;refine wh (P:=A1) (gf:=196) (lb:=#[Y (O ⟨c+1,0,Q⟩)]) rfl (enters_of func196 (by kernel_rfl) rfl)
  (λa=>#[Z X (a:Int),match L[a]? with|some x=> A0 (pI (fJ x.N.k)) (Y (O ⟨x.b,0,Q⟩))|none=> Ck]) (λ_=>rfl) n
  (λa b=>∃D,Fg w c (U (O ⟨e,0,Q⟩) n i) n D b/\dpN ns a D=C9 ns)
  (λa H b=>(∃D,Fg w c (U (O ⟨e,0,Q⟩) n i) n D b/\dpN ns (a+1) D=C9 ns)/\∃x,L[a]?=O x/\
   H={tmps:=#[U (O ⟨e,0,Q⟩) n i,V,Z X 0,Bc Ax,Y (O ⟨c,0,Q⟩),Z X (a:Int),A0 (pI (fJ x.N.k)) (Y (O ⟨x.b,0,Q⟩)),V,V,V,V,
    U (O ⟨e,0,Q⟩) n i,Z X (n:Int),U (O ⟨w.heap.size,0,Q⟩) n n,U (O ⟨e,0,Q⟩) n i,.func (.func 196) #[] #[Y (O ⟨c+1,0,Q⟩)],Z X (a:Int),A0 (pI (fJ x.N.k)) (Y (O ⟨x.b,0,Q⟩)),
    V,V,V,V,V,V,V,V,V,V,V,V,V,V,V,V,V,V,V,V,V,V,V,V,V,V,V,V,V,V,V,V,V,V],defers:=[]})
  (λ_=>False)
  ?pZ ?pAx ?pX ?h0 ?assign ?body ?seq ?done ?ret
 case pZ=>
  rintro a b b5 a1 ⟨D,h,m⟩ K;rw[G]at K⊢;exact⟨D,h.put bd (by omega) K a1,m⟩
 case pAx=>
  rintro a H b b5 a1 ⟨⟨D,h,m⟩,x,q,rfl⟩ K;rw[G]at K⊢;exact⟨⟨D,h.put bd (by omega) K a1,m⟩,x,q,rfl⟩
 case pX=>intro b b5 a1 h;exact h.elim
 case h0=>
  intro cf an ey;have c0:cg w cf:=F.bl.trans (an.mono (by omega));exact⟨B2 n 0,⟨c0,dA F.row an,(an.block _ (by omega)).trans F.bx,(an.block _ (by omega)).trans F.bs,F.ok⟩,by rw[C9,<-l.out.2.1,bq,l.out.2.2.1]⟩
 case assign=>
  rintro a0 a b d7 ar ⟨D,h,m⟩ bn;have⟨x,q⟩:=cJ l.2.2.1 ar;rw[q]at⊢;have d5:=λH=>bn H b;have g:=kK h m q
  gi_wp2
  exact bn _ _ ⟨⟨D,g.1,g.2.1⟩,x,g.2.2,rfl⟩ (KeepsFrom.refl _ _)
 case body=>
  rintro a0 a H b ar ⟨⟨D,h,m⟩,x,q,rfl⟩;rw[G];have bt:=cell_kept h.bl (l.1.box a x q).cells.2.2.2.2.1;have ap:=l.1.kid a x q;have⟨ck,ed,E⟩:=A7 ap;rw[E]at bt;have da:=l.2.2.2.2 x (dj q);have⟨af,bA⟩:=aC x.N.ks.length;rw[bA]at bt da E;have dg:ns[a]?=O x.N:=by rw[<-l.out.2.1,cD,q];rfl
  have c3:dpN ns a (Er a x.N.ks D)=C9 ns:=by
   rw[dpN,aF,dg,gy]at m;exact m
  have g:=Ft q c3 bA E;have ca:B0 (apt w c (U (O ⟨e,0,Q⟩) n i) n a x.N.ks D 0 D b b):=⟨h,rfl,KeepsFrom.refl _ _⟩;have ba:=λw=>sy x.N.k x.b w;have es:(a:Int)<(n:Int):=by omega
  have er:(0:Int)<=(a:Int):=by omega
  have b2:=λ(cl:Nat) w=>CallsIn.inRound a0 (mD (n:=2).2 (gD cl w));generalize pI (fJ x.N.k)=eB at ba⊢
  gi_wp2_with (refine⟨trivial,?_⟩;gi_at_call 299;refine(b2 _ _).mono ?_;rintro C ak ⟨rfl,bE⟩;subst ak)
  gi_loopw [24] (λB d4=>∃(r:Nat) (t:List Int),r<=af/\B= Z X r/\B0 (apt w c (U (O ⟨e,0,Q⟩) n i) n a x.N.ks D r t b d4)) (λB _=>af-(C2 B).toNat)
  case atStart=>exact⟨0,D,aD _,rfl,ca⟩
  case round=>
   obtain⟨r,t,ao,rfl,k⟩:=hrel;by_cases c8:r<af
   .have en:(r:Int)<(af:Int):=by omega
    have em:(0:Int)<=(r:Int):=by omega
    have⟨al,ad⟩:=cJ g.2.2.1 c8;have E:=g.2.2.2;obtain⟨gk,c6⟩:∃gk,ck=O ⟨gk,0,Q⟩:=by
     have ap:=l.1.kid a x g.1;rw[E]at ap;rcases bJ ap with⟨h,_⟩|⟨gk,bh,h⟩
     .rw[g.out.2.2.1]at h;omega
     .cases h;exact⟨_,rfl⟩
    subst c6;obtain⟨d,s,rfl,dn,b0,c2⟩:=(l.1.below (k.st.bl)).kidAt g.1 E ad;have bD:=cell_kept k.st.bl (l.1.box d s b0).cells.2.2.2.1;have⟨j,a8⟩:=cJ k.st.ok.1 ar;have⟨cp,c4⟩:=cJ k.st.ok.1 (show d<n by omega);have el:=k.st.ok.2 a j a8;have I:Fg w c (U (O ⟨e,0,Q⟩) n i) n t wr.drew:=⟨k.st.bl.drew,k.st.row,k.st.bx,k.st.bs,k.st.ok⟩;have aK:=I.row;have bj:wr.drew.cell? ⟨w.heap.size,a,Q⟩=O (Z X j):=by rw[aK.cellAt a (by omega),cD,a8];rfl
    have ea:wr.drew.cell? ⟨w.heap.size,d,Q⟩=O (Z X cp):=by rw[aK.cellAt d (by omega),cD,c4];rfl
    have ef:=aK.frozenAt d;have bv:t.getD a 0=j:=by rw[aF,a8];rfl
    have b3:=(aK.stored d (Z X (j+1))).1;rw[<-List.map_set]at b3;have b4:=k.st.ok.set a d ar dn;rw[bv]at b4;have dq:Er a (x.N.ks.drop (r+1)) (t.set d (j+1))=Er a x.N.ks D:=by
     have p:=k.rest;have bw:=(List.getElem?_eq_some_iff.1 ad);rw[kL bw.1,bw.2,Er,bv]at p;exact p
    have a4:wr.drew.cell? ⟨c,0,Q⟩=_:=fp I.bx;have d2:Fg w c (U (O ⟨e,0,Q⟩) n i) n (t.set d (j+1)) (wr.drew.setCell ⟨w.heap.size,d,Q⟩ (Z X (j+1))):=
     ⟨I.bl.setCell (ag _) _,b3,(ay _ _ _ _ (by simp;omega)).trans I.bx,(ay _ _ _ _ (by simp;omega)).trans I.bs,b4⟩
    have b6:B0 (apt w c (U (O ⟨e,0,Q⟩) n i) n a x.N.ks D (r+1) (t.set d (j+1)) b (wr.drew.setCell ⟨w.heap.size,d,Q⟩ (Z X (j+1)))):=⟨d2,dq,k.kf.trans (((KeepsOthers.drew wr).from _).trans ((A9 _ _ _).from _))⟩;have ev:d≠a:=by omega
    have ez:IntKind.i64.wrap (j+1)=j+1:=by rw[dr];omega
    have eA:=ai (l.1.box d s b0);have cy:(wr.drew.setCell ⟨w.heap.size,d,Q⟩ (Z X (j+1))).cell? ⟨c,0,Q⟩=O (U (O ⟨w.heap.size,0,Q⟩) n n)/\(wr.drew.setCell ⟨w.heap.size,d,Q⟩ (Z X (j+1))).cell? ⟨s.b,4,Q⟩=O (Z X (d:Int))/\(wr.drew.setCell ⟨w.heap.size,d,Q⟩ (Z X (j+1))).cell? ⟨w.heap.size,a,Q⟩=O (Z X j):=
     ⟨(World.cell?_setCell_far _ _ _ _ (by simp;omega)).trans a4,(World.cell?_setCell_far _ _ _ _ (by simp;omega)).trans bD,(World.cell?_setCell_other _ _ _ _ (by simp;try omega)).trans bj⟩
    have ex:(d:Int)<(n:Int):=by omega
    have ew:(0:Int)<=(d:Int):=by omega
    have ba:=λw=>sy s.N.k s.b w;generalize pI (fJ s.N.k)=d3 at ba c2
    gi_wp2_with (refine⟨trivial,?_⟩;gi_at_call 299;refine(b2 _ _).mono ?_;rintro C ak ⟨rfl,bE⟩;subst ak)
    have cx:wr.drew.cell? ⟨c,0,Q⟩=O (U (O ⟨w.heap.size,0,Q⟩) n n)/\wr.drew.cell? ⟨s.b,4,Q⟩=O (Z X (d:Int))/\wr.drew.cell? ⟨w.heap.size,a,Q⟩=O (Z X j):=⟨a4,bD,bj⟩;refine yH (S:=λo=>o.cell? ⟨c,0,Q⟩=O (U (O ⟨w.heap.size,0,Q⟩) n n)/\o.cell? ⟨s.b,4,Q⟩=O (Z X (d:Int))/\o.cell? ⟨w.heap.size,a,Q⟩=O (Z X j)) (by kernel_rfl) (by kernel_rfl) (λ⟨_,_,h⟩=>h) cx (λhS=>?_);refine dL 0 (U (O ⟨w.heap.size,0,Q⟩) n n) rfl rfl hS (λo ⟨u,v,y⟩=>by go_simp) ?_;simp only[A5];refine dL 1 (A0 d3 (Y (O ⟨s.b,0,Q⟩))) rfl rfl hS (λo ⟨u,v,y⟩=>by go_simp) ?_;simp only[A5];refine dL 6 (U (O ⟨w.heap.size,0,Q⟩) n n) rfl rfl hS (λo ⟨u,v,y⟩=>by go_simp) ?_;simp only[A5];refine dL 7 (Z X (a:Int)) rfl rfl hS (λo ⟨u,v,y⟩=>by go_simp) ?_;simp only[A5];refine dL 8 (Y (O ⟨w.heap.size,a,Q⟩)) rfl rfl hS (λo ⟨u,v,y⟩=>by go_simp) ?_;simp only[A5];refine dL 9 (Z X j) rfl rfl hS (λo ⟨u,v,y⟩=>by go_simp) ?_;simp only[A5];refine dL 10 (Z X (j+1)) rfl rfl hS (λo ⟨u,v,y⟩=>by go_simp) ?_;simp only[A5];refine Fs (rs:=[2]) (by kernel_rfl) (by simp) (AllReadyH.cons rfl (λce a6=>?_) AllReadyH.nil);go_simp;refine dt (gD _ _) λak bE=>?_;subst ak;refine a6 _ _ hS (λhS=>?_);try simp only[Act.put,co,cA,cC]
    refine dL 3 (Y (O ⟨s.b,0,Q⟩)) rfl rfl hS (λo ⟨u,v,y⟩=>by go_simp) ?_;simp only[A5];refine dL 4 (Y (O ⟨s.b,4,Q⟩)) rfl rfl hS (λo ⟨u,v,y⟩=>by go_simp) ?_;simp only[A5];refine dL 5 (Z X (d:Int)) rfl rfl hS (λo ⟨u,v,y⟩=>by go_simp) ?_;simp only[A5];refine dL 11 (Y (O ⟨w.heap.size,d,Q⟩)) rfl rfl hS (λo ⟨u,v,y⟩=>by go_simp) ?_;simp only[A5];refine Fs (rs:=[12]) (by kernel_rfl) (by simp) (AllReadyH.cons rfl (λce a6=>?_) AllReadyH.nil);go_simp;refine a6 _ _ cy (λhS=>?_);refine wpAnyH_done (by kernel_rfl) ?_ _
    gi_wp2
    exact⟨⟨r+1,_,by omega,by go_num,b6⟩,by simp[C2];omega⟩
   .obtain rfl:r=af:=by omega
    have a9:B0 (Fg w c (U (O ⟨e,0,Q⟩) n i) n t wr/\dpN ns a t=C9 ns/\KeepsFrom (c+2) b wr):=by
     refine⟨k.st,?_,k.kf⟩;have p:=k.rest;rw[lE (by rw[g.out.2.2.1];exact ag _),Er]at p;rw[p];exact g.2.1
    gi_wp2
    exact⟨a9.2.2,t,a9.1,a9.2.1⟩
 case seq=>
  intro a0 cc cd bk cF b cB;refine aah 4 a0 (c+1) n i (O ⟨e,0,Q⟩) _ p c1 cc cd (λa b h=>?_) (λa b h r ao=>?_) cF b cB
  .obtain⟨D,m,_⟩:=bk a b h;exact fp m.bs
  .obtain⟨D,m,_⟩:=bk a b h;have⟨x,q⟩:=cJ l.2.2.1 ao;refine⟨_,rfl,?_⟩;rw[vv,q];exact cell_kept m.bl (l.1.at q)
 case ret=>intro b h;exact h.elim
 case done=>
  rintro b ⟨D,h,m⟩ cs;have cu:D=C9 ns:=m;refine cw _ _ ?_;have a4:=fp h.bx;have g:B0 (Fg w c (U (O ⟨e,0,Q⟩) n i) n D b/\b.heap[c+2]?=O (.deferred (O []))):=⟨h,by rw[<-G];exact cs⟩;have b8:B5 (jh D) (n-0) 0 a3:=⟨by rw[cu];exact l.2.2.2.1⟩;have ek:w.heap.size<c+2:=by omega
  rw[G];go_wp2;go_loop [43] (λB=>∃f:Nat,f<=n/\B= Z X f/\B5 (jh D) (n-f) f a3) (λB=>n-(C2 B).toNat)
  case atStart=>exact⟨0,aD _,rfl,b8⟩
  case round=>
   obtain⟨f,ep,rfl,b7⟩:=hrel;have z:=b7.out;by_cases dd:f<n
   .have eq:(f:Int)<(n:Int):=by omega
    have eo:(0:Int)<=(f:Int):=by omega
    have⟨al,ad⟩:=cJ g.1.ok.1 dd;have ee:b.cell? ⟨w.heap.size,f,Q⟩=O (Z X al):=by rw[g.out.1.row.cellAt f (by omega),cD,ad];rfl
    rw[show n-f=(n-(f+1))+1 by omega,jH]at z;have cn:jh D f=decide (100<al):=by unfold jh;rw[aF,ad];rfl
    rw[cn]at z;by_cases b1:100<al
    .rw[ab (be b1)]at z;have a2:=am z.symm;go_wp2_with fail;refine⟨by simp,.inl ⟨_,_,rfl,run_takeDeferred g.2,?_⟩⟩;refine⟨_,results_tmp2 rfl _ _ _,by rw[a2.out];rfl,?_⟩;exact g.1.bl.grown (B6 b (c+2) (.deferred Q)) g.1.bl.size (λf C=>by cases C;omega)
    .rw[aa (by simpa using b1)]at z;have b9:B5 (jh D) (n-(f+1)) (f+1) a3:=⟨z⟩;go_wp2;go_round
     case rel=>exact⟨f+1,by omega,by go_num,b9⟩
     case measure=>simp[C2];omega
   .obtain rfl:f=n:=by omega
    rw[fx,jH]at z;have a2:=am z.symm;go_wp2_with fail;refine⟨by simp,.inl ⟨_,_,rfl,run_takeDeferred g.2,?_⟩⟩;refine⟨_,results_tmp2 rfl _ _ _,by rw[a2.out];rfl,?_⟩;exact g.1.bl.grown (B6 b (c+2) (.deferred Q)) g.1.bl.size (λf C=>by cases C;omega)
attribute [local go_sem] lG
structure Cf (w:A3) (B n:Nat) (S:List Int) (c:List Nat) (W:A3):Prop where
 bl:cg w W
 r0:W.heap[w.heap.size]?=O (.cells #[.int .i64 0] 3 (0,0))
 r1:W.heap[w.heap.size+1]?=O (.cells #[.bool Ax] 4 (0,0))
 row:W.ownsRow w.heap.size 3 1 (.slice (O ⟨w.heap.size+1+1,0,Q⟩) n n) n (S.map (Ce .i64)++B2 (n-S.length) (.int .i64 0))
 bx:W.heap[B]?=O (.cells #[.slice (O ⟨w.heap.size+1+1,0,Q⟩) n n] 32 (0,0))
 mks:uF (w.heap.size+1+1+1) c W
def Cf.below{c:List Nat}(h:Cf w B n S c W)(a:cg W W'):Cf w B n S c W':=
 ⟨h.bl.trans (a.mono h.bl.size),(a.block _ (ai h.r0)).trans h.r0,(a.block _ (ai h.r1)).trans h.r1,dA h.row a,(a.block _ (ai h.bx)).trans h.bx,h.mks.below a⟩
def Cf.put{c:List Nat}(h:Cf w B n S c W)(f:w.heap.size+1<B){r:Loop}(g:B<k)(b:W.heap[k]?=O (.loop r))(o:Obj):Cf w B n S c (W.putObj k o):=
 ⟨h.bl.grown (B6 W k o) h.bl.size (λi e=>by cases e;omega),(A2 (by omega)).trans h.r0,(A2 (by omega)).trans h.r1,ownsRow_putObj h.row o b rfl,(A2 (by omega)).trans h.bx,
  ⟨h.mks.nd,h.mks.lo,λa d=>(A2 (by rintro rfl;have:=(h.mks.at_ a d).symm.trans b;cases this)).trans (h.mks.at_ a d)⟩⟩
structure Jq (w:A3) (B n:Nat) (S:List Int) (c:List Nat) (sz k:Nat) (kv:Ad) (a:Int) (W:A3):Prop where
 oo:Cf w B n S c W
 b5:W.heap[sz]?=O (.cells #[.int .i64 (k:Int)] 3 (0,0))
 b7:W.heap[sz+1]?=O (.cells #[.int .i64 (a-1)] 3 (0,0))
 b8:W.heap[sz+1+1]?=O (.cells #[kv] 86 (0,0))
def Jq.put{c:List Nat}{b:Nat}{a:Int}(h:Jq w B n S c b k kv a W)(d:w.heap.size+1<B)(g:B<b){r:Loop}(f:b+1+1<j)(e:W.heap[j]?=O (.loop r))(o:Obj):Jq w B n S c b k kv a (W.putObj j o):=
 ⟨h.oo.put d (by omega) e o,(A2 (by omega)).trans h.b5,(A2 (by omega)).trans h.b7,(A2 (by omega)).trans h.b8⟩
def Gf{c:Func}{p q:Tmp}{u:B7}(h:c.results=#[.cell p t,.cell q u])(tmps:Array Ad)(P:Program)(w:A3)(a b:Addr)(v d:Ad)(g:tmps.getD p V= Y (O a))(j:tmps.getD q V= Y (O b))
  (e:(loadVar t a).run P w= .ok v w) (f:(loadVar u b).run P w= .ok d w):(results c tmps).run P w= .ok (E3 #[v,d]) w:=by
 have i:tmps[p]?.getD V= Y (O a):=by simpa using g
 have k:tmps[q]?.getD V= Y (O b):=by simpa using j
 simp only[results,h];simp[Sem.run_bind,Result.andThen,i,k,asAddr,e,f]
def ai8(w:A3)(a:Addr)(z:Int)(h:w.cell? a=O (Z X z)):(loadVar 3 a).run A1 w= .ok (Z X z) w:=by go_simp
def afw(w:A3)(a:Addr)(z:Bool)(h:w.cell? a=O (Bc z)):(loadVar 4 a).run A1 w= .ok (Bc z) w:=by go_simp
def alJ(a b:List Nd):∃t,iL (a++b)=iL a++t:=by
 refine zq (p:=λb=>∃t,iL (a++b)=iL a++t) ⟨[],by simp⟩ (λd e ⟨t,c⟩=>?_) b;rw[<-bC,tB,c];exact⟨t++[_],bC _ _ _⟩
def aaj(h:ns[k]?=O N):iL (ns.take (k+1))=iL (ns.take k)++[ov (iL (ns.take k)) k N.ks]:=by
 have a:k<ns.length:=(List.getElem?_eq_some_iff.1 h).1;rw[iC,h];show iL (ns.take k++[N])=_;rw[tB,ma,gJ,vH (by omega)]
def apu(h:ns[k]?=O N):(iL ns).getD k 0=ov (iL (ns.take k)) k N.ks:=by
 have c:k<ns.length:=(List.getElem?_eq_some_iff.1 h).1;have⟨d,a⟩:=alJ (ns.take (k+1)) (ns.drop (k+1));rw[vA,aaj h]at a;have b:(iL (ns.take k)).length=k:=by rw[ma,gJ,vH (by omega)]
 rw[a,aF,bC,eD (by omega),b];simp
def ai9(L:List Im)(ks:List Int)(m:Nat):Ad:=match ks[m]? with
 |some a=>(match L[a.toNat]? with|some y=> A0 (pI (fJ y.N.k)) (Y (O ⟨y.b,0,Q⟩))|none=> Ck)
 |none=> Ck
def ad3{L:List Im}{ks:List Int}{q:Nat}{a:Im}(c:ks[m]?=O (q:Int))(d:L[q]?=O a):ai9 L ks m= A0 (pI (fJ a.N.k)) (Y (O ⟨a.b,0,Q⟩)):=by
 unfold ai9;rw[c];simp[d]
def Gg(w:A3)(base:Nat)(ca:Ad)(L:List Im)(aK:nF w base ca L)(ns:List Nd)(e9:L.map Im.N=ns)(n:Nat)(cs:L.length=n)(gn:1<=n)(F:n<=3000)(e5:∀x∈L,x.N.ks.length<=200)(eL:∀i,i<n->(iL ns).getD i 0≠0)(s:(iL ns).getD (n-1) 0=(n:Int)):
  B4 A1 65 #[ca] w (jf w (E3 #[Z X ((n:Int)-1),Bc Ax])):=by
 obtain⟨y,al,rfl⟩:∃y j,ca= U (O ⟨y,0,Q⟩) n j:=by
  rcases bJ aK.row with⟨h,_⟩|h
  .omega
  .rw[<-cs];exact h
 have gt:n<=al:=by
  rcases aK.row.2 with⟨F,_⟩|⟨ep,eh,ek,F,_,_,eq,_⟩
  .cases F
  .cases F;omega
 have⟨ft,bs,fo,fq,fr⟩:=fh yy;have g:=ajy aK e9 cs e5 eL s;refine mD (n:=5).1 ?_;refine callsIn_of_wp_marks func65 rfl trivial ?_ rfl;simp only[ntmps65,iD,bc,dE,Nat.reduceAdd,Nat.reduceSub,jn,jA,jB,pz,dI,dJ];refine wpIn_wide.2 ?_;go_wp2_with (at_make;refine Cx _ rfl _ _ 32 rfl w.heap.size 3 ft (Z X 0) 1 underlying32 bs fo fq X X _ _ n rfl rfl rfl rfl (by rw[fr];omega) (by unfold G0;omega) (by simp;omega) ?_;intro ak bf a0);rename_i fF gr;have bb:F2 ((w.alloc (Ak #[Z X 0] 3)).alloc (Ak #[Bc Ax] 4)).heap.size ((w.alloc (Ak #[Z X 0] 3)).alloc (Ak #[Bc Ax] 4)) ak:=⟨a0.os,a0.tape,a0.output,a0.size,λa cx=>a0.block a cx (by simp)⟩;rw[show(madeCells (Ce X 0).cells (n*1)).toList=B2 n (Ce X 0) by rw[sH];exact Cl _ n]at bf;simp only[fe]at bf bb;have ff:w.heap.size+1+1<ak.heap.size:=(bf.lt _ rfl).2;have bA:Cf w ak.heap.size n [] [] (ak.alloc (Ak #[U (O ⟨w.heap.size+1+1,0,Q⟩) n n] 32)):=by
  refine⟨?_,?_,?_,?_,aA ak _,⟨vF,λv hb=>by simp at hb,λv hb=>by simp at hb⟩⟩
  .exact((((ah _ w).alloc (ag _) _).alloc (by simp) _).trans (bb.mono (by omega))).alloc (by omega) _
  .exact(eI _ _ _ (by omega)).trans ((bb.block _ (by omega)).trans ((eI _ _ _ (by simp)).trans (aA w _)))
  .refine(eI _ _ _ (by omega)).trans ((bb.block _ (by omega)).trans ?_);have:=aA (w.alloc (Ak #[Z X 0] 3)) (Ak #[Bc Ax] 4);rw[fe]at this;exact this
  .exact bf.alloc _
 have⟨l,er⟩:=aC ak.heap.size;have cn:l<(ak.alloc (Ak #[U (O ⟨w.heap.size+1+1,0,Q⟩) n n] 32)).heap.size:=by simp;omega
 rw[er]at bA ff⊢;generalize ak.alloc (Ak #[U (O ⟨w.heap.size+1+1,0,Q⟩) n n] 32)=eg at bA cn⊢;have d8:B0 (Cf w l n (iL (ns.take 0)) [] eg/\∀(E:Nat) k,(iL (ns.take 0))[E]?=O k->1<=k):=⟨bA,λE k h=>by simp[iL]at h⟩;refine(sJ (n:=5)).1 (wpIn_loop (λad d=>∃(a:Nat) (j:List Nat),a<=n/\l<d.heap.size/\B0 (Cf w l n (iL (ns.take a)) j d/\∀(E:Nat) k,(iL (ns.take a))[E]?=O k->1<=k)/\
  ∃d3 d4 d5 da dc dd df dg dn dq ds dx d0 d1 d2 b0 b1 b2 b3 b4 b6 b9:Ad,ad={tmps:=#[U (O ⟨y,0,Q⟩) n al,V,Y (O ⟨w.heap.size,0,Q⟩),Y (O ⟨w.heap.size+1,0,Q⟩),Y (O ⟨l,0,Q⟩),d3,d4,d5,V,V,V,U (O ⟨y,0,Q⟩) n al,Z X (n:Int),U (O ⟨w.heap.size+1+1,0,Q⟩) n n,U (O ⟨y,0,Q⟩) n al,Z X (n:Int),Z X (a:Int),da,dc,dd,df,dg,dn,dq,ds,dx,d0,d1,d2,V,V,V,V,V,V,V,V,V,V,V,V,V,V,V,V,b0,b1,b2,b3,b4,b6,b9,V,V,V,V,V,V,V,V,V,V,V],defers:=j.map DL}) (λad _=>n-(C2 (ad.tmps.getD 16 V)).toNat) ?start ?round)
 case start=>exact⟨0,[],aD _,cn,d8,V,V,V,V,V,V,V,V,V,V,V,V,V,V,V,V,V,V,V,V,V,V,rfl⟩
 case round=>
  rintro ad d ⟨a,j,cx,bk,o,d3,d4,d5,da,dc,dd,df,dg,dn,dq,ds,dx,d0,d1,d2,b0,b1,b2,b3,b4,b6,b9,rfl⟩;refine wpIn_wide.2 ?_;by_cases bv:a<n
  .have gu:(a:Int)<(n:Int):=by omega
   have e3:(0:Int)<=(a:Int):=by omega
   have⟨x,ar⟩:=cJ g.2.2.1 bv;have eF:=cell_kept o.1.bl (g.1.at ar);have cu:=cell_kept o.1.bl (g.1.box a x ar).cells.2.2.2.2.1;have C:=g.1.kid a x ar;have⟨r,u,bt⟩:=A7 C;have e4:=g.2.2.2.1 x (dj ar);have⟨t,cy⟩:=aC x.N.ks.length;rw[bt]at cu;rw[cy]at cu e4 bt;have p:=kK ar bt cy;have bw:=λw=>sy x.N.k x.b w;have fn:x.b<d.heap.size:=iB (ai (g.1.box a x ar)) o.1.bl.size;generalize pI (fJ x.N.k)=bE at bw eF;go_wp2_with (first|(go_at_call 299;refine(gD _ _).mono ?_;rintro an cb ⟨rfl,fm⟩;subst cb)|(go_at_call 126;refine(zF r t u _).mono ?_;rintro an fB ⟨rfl,a6⟩;subst fB));rename_i f2 et;have⟨S,hS⟩:=aC (iL (ns.take a));have⟨K,bo⟩:=aC (qD S x.N.ks.reverse (a:Int));rw[hS]at o;have⟨f,a5⟩:=aC d.heap.size;have a4:Jq w l n S j f a (U r t u) (a:Int) (((d.alloc (Ak #[Z X (a:Int)] 3)).alloc (Ak #[Z X ((a:Int)-1)] 3)).alloc (Ak #[U r t u] 86)):=by
    refine⟨o.1.below ((((ah _ d).alloc (ag _) _).alloc (by simp) _).alloc (by simp;omega) _),?_,?_,?_⟩
    .exact(eI _ _ _ (by simp;omega)).trans ((eI _ _ _ (by simp;omega)).trans (by rw[<-a5];exact aA d _))
    .refine(eI _ _ _ (by simp;omega)).trans ?_;have:=aA (d.alloc (Ak #[Z X (a:Int)] 3)) (Ak #[Z X ((a:Int)-1)] 3);rw[fe,a5]at this;exact this
    .have:=aA ((d.alloc (Ak #[Z X (a:Int)] 3)).alloc (Ak #[Z X ((a:Int)-1)] 3)) (Ak #[U r t u] 86);rw[fe,fe,a5]at this;exact this
   have a8:(((d.alloc (Ak #[Z X (a:Int)] 3)).alloc (Ak #[Z X ((a:Int)-1)] 3)).alloc (Ak #[U r t u] 86)).heap.size=f+1+1+1:=by simp;omega
   rw[a5]at bk fn⊢;generalize ((d.alloc (Ak #[Z X (a:Int)] 3)).alloc (Ak #[Z X ((a:Int)-1)] 3)).alloc (Ak #[U r t u] 86)=f4 at a4 a8⊢;have eB:∀v∈j,v<f:=λv hb=>by rw[<-a5];exact(Array.getElem?_eq_some_iff.1 (o.1.mks.at_ v hb)).1
   have cF:ns[a]?=O x.N:=by rw[<-g.out.2.1,cD,p.out.1];rfl
   have bd:(iL ns).getD a 0=ov S a x.N.ks:=by rw[apu cF,hS]
   have ew:K≠Q:=λan=>g.out.2.2.2.2.1 a bv (by rw[bd];unfold ov;rw[bo,an]);refine(sJ (n:=5)).1 ?_;refine wh (P:=A1) (gf:=196) (lb:=#[Y (O ⟨f+1+1,0,Q⟩)]) rfl (enters_of func196 (by kernel_rfl) rfl)
    (λc=>#[Z X (c:Int),ai9 L x.N.ks c]) (λ_=>rfl) t
    (λc d=>∃b:Int,Jq w l n S j f a (U r t u) b d/\0<=b/\b<=(a:Int)/\qD S (x.N.ks.take c).reverse b=K)
    (λc ad d=>(∃b:Int,Jq w l n S j f a (U r t u) b d/\0<=b/\b<=(a:Int)/\qD S (x.N.ks.take (c+1)).reverse b=K)/\ad={tmps:=#[U (O ⟨y,0,Q⟩) n al,V,Y (O ⟨w.heap.size,0,Q⟩),Y (O ⟨w.heap.size+1,0,Q⟩),Y (O ⟨l,0,Q⟩),Y (O ⟨f,0,Q⟩),A0 bE (Y (O ⟨x.b,0,Q⟩)),Y (O ⟨f+1,0,Q⟩),V,ai9 L x.N.ks c,V,U (O ⟨y,0,Q⟩) n al,Z X (n:Int),U (O ⟨w.heap.size+1+1,0,Q⟩) n n,U (O ⟨y,0,Q⟩) n al,Z X (n:Int),Z X (a:Int),Bc B1,Z X (a:Int),Y (O ⟨y,a,Q⟩),A0 bE (Y (O ⟨x.b,0,Q⟩)),Z X (a:Int),Z X ((a:Int)-1),A0 bE (Y (O ⟨x.b,0,Q⟩)),Y (O ⟨x.b,0,Q⟩),Y (O ⟨x.b,0,Q⟩),Y (O ⟨x.b,5,Q⟩),U r t u,.func (.func 196) #[] #[Y (O ⟨f+1+1,0,Q⟩)],Z X (c:Int),ai9 L x.N.ks c,V,V,V,V,V,V,V,V,V,V,V,V,V,V,b0,b1,b2,b3,b4,b6,b9,V,V,V,V,V,V,V,V,V,V,V],defers:=[]})
    (λ_=>False)
    ?pZ ?pAx ?pX ?h0 ?assign ?body ?seq ?done ?ret
   case pZ=>
    rintro c d c9 bh ⟨b,h,I⟩ a2;rw[a8]at a2⊢;exact⟨b,h.put (by omega) bk (by omega) a2 bh,I⟩
   case pAx=>
    rintro c ad d c9 bh ⟨⟨b,h,I⟩,rfl⟩ a2;rw[a8]at a2⊢;exact⟨⟨b,h.put (by omega) bk (by omega) a2 bh,I⟩,rfl⟩
   case pX=>intro d c9 bh h;exact h.elim
   case h0=>
    intro f3 hb g4;refine⟨(a:Int),⟨a4.oo.below hb,(hb.block _ (by omega)).trans a4.b5,(hb.block _ (by omega)).trans a4.b7,(hb.block _ (by omega)).trans a4.b8⟩,e3,Int.le_refl _,?_⟩;rw[dl (by rw[p.out.2.2];exact ag _)];exact bo
   case assign=>
    rintro bD c d ef af ⟨b,h,I⟩ bn;have d6:B0 (∃b:Int,Jq w l n S j f a (U r t u) b d/\0<=b/\b<=(a:Int)/\qD S (x.N.ks.take (c+1)).reverse b=K):=⟨b,h,I⟩
    gi_wp2
    exact bn _ _ ⟨d6,rfl⟩ (KeepsFrom.refl _ _)
   case seq=>
    intro bD ed ee cr ey d ex;have e6:t<=u:=by
     have C:=g.1.kid a x p.1;rw[p.out.2.1,p.out.2.2]at C;rcases C.2 with⟨F,cl⟩|⟨ep,eh,ek,F,_,_,eq,_⟩
     .omega
     .cases F;omega
    refine aah 4 bD (f+1+1) t u r _ (by omega) e6 ed ee (λc d h=>?_) (λc d h E ao=>?_) ey d ex
    .obtain⟨b,I,_⟩:=cr c d h;exact fp I.b8
    .obtain⟨b,I,_⟩:=cr c d h;have⟨k,s⟩:=cJ p.2.2 ao;obtain⟨gk,bd⟩:∃gk,r=O ⟨gk,0,Q⟩:=by
      have C:=g.1.kid a x p.1;rw[p.out.2.1]at C;rcases bJ C with⟨h,_⟩|⟨gk,j,h⟩
      .rw[p.out.2.2]at h;omega
      .cases h;exact⟨_,rfl⟩
     obtain⟨e,B,rfl,c0,a7,br⟩:=g.1.kidAt p.1 (by rw[p.out.2.1,bd]) s;refine⟨_,bd,?_⟩;rw[vv,ad3 s a7];exact cell_kept I.oo.bl br
   case body=>
    rintro bD c ad m af ⟨⟨b,h,ez,eA,J⟩,rfl⟩;rw[a8];have⟨k,s⟩:=cJ p.2.2 af;obtain⟨gk,e0⟩:∃gk,r=O ⟨gk,0,Q⟩:=by
     have C:=g.1.kid a x p.1;rw[p.out.2.1]at C;rcases bJ C with⟨h,_⟩|⟨gk,j,h⟩
     .rw[p.out.2.2]at h;omega
     .cases h;exact⟨_,rfl⟩
    obtain⟨e,B,rfl,c0,a7,br⟩:=g.1.kidAt p.1 (by rw[p.out.2.1,e0]) s;rw[ad3 s a7];have fb:=cell_kept h.oo.bl (g.1.box e B a7).cells.2.2.2.1;have g8:=ai (g.1.box e B a7);have H:S.length=a:=by rw[<-hS,ma,gJ,<-g.out.2.1,bq,g.out.2.2.1];omega
    obtain⟨q,a3⟩:=cJ H c0;have g5:=o.2 e q a3;have g6:q<=(e:Int)+1:=by
     have fd:F6 S:=by
      rw[<-hS];refine AH _ (λN aK k s=>?_);obtain⟨i,bs,an⟩:=iq (Cz aK);have a1:(L.map Im.N)[i]?=O N:=by rw[g.out.2.1,aw bs,an]
      rw[cD]at a1;cases hLi:L[i]? with
      |none=>rw[hLi]at a1;cases a1
      |some fA=>
       rw[hLi]at a1;obtain rfl:=aJ a1;exact(g.1.rng i fA k hLi s).1
     exact(fd e q a3).2
    have cw:S.getD e 0=q:=by rw[aF,a3];rfl
    have a6:(if(e:Int)=b-1/\q≠0 then qD S (x.N.ks.take c).reverse (b-q) else Q)=K:=by
     rw[iC,s,Hm,List.reverse_append]at J;show _=K;rw[<-J];show _=qD S ((e:Int)::(x.N.ks.take c).reverse) b;rw[qD,iF,cw]
    have bj:=fp h.b7;have ce:=fp h.oo.bx;have ap:=h.oo.row;have ei:m.cell? ⟨w.heap.size+1+1,e,Q⟩=O (Z X q):=by
     rw[ap.cellAt e (by omega),gw (by simp;omega),cD,a3];rfl
    have eo:m.frozen? ⟨f+1,0,Q⟩=Ax:=cH _ _ _ _ _ h.b7;have bw:=λw=>sy B.N.k B.b w;have z:m.drew.cell? ⟨f+1,0,Q⟩=O (Z X (b-1))/\m.drew.cell? ⟨B.b,4,Q⟩=O (Z X (e:Int)):=⟨bj,fb⟩;have d7:=am h;generalize pI (fJ B.N.k)=fz at bw⊢;have c4:(e:Int)=b-1:=Classical.byContradiction λy=>ew (by rw[<-a6,aa (λan=>y an.1)]);rw[ab ⟨c4,by omega⟩]at a6;have eb:=am a6;clear a6 J s br h a3 cw H ap;have en:b=(e:Int)+1:=by omega
    subst en;have cf:(e:Int)+1-1=(e:Int):=by omega
    rw[cf]at bj z;clear c4 cf;have g3:(e:Int)<(n:Int):=by omega
    have g0:(0:Int)<=(e:Int):=by omega
    gi_wp2
    refine yH (S:=λA=>A.cell? ⟨f+1,0,Q⟩=O (Z X (e:Int))/\A.cell? ⟨B.b,4,Q⟩=O (Z X (e:Int))) (by kernel_rfl) (by kernel_rfl) (λ⟨_,_,h⟩=>h) z (λz=>?_);refine dL 0 (A0 fz (Y (O ⟨B.b,0,Q⟩))) rfl rfl z (λA ⟨a9,ba⟩=>by go_simp) ?_;simp only[A5];refine dL 5 (Z X (e:Int)) rfl rfl z (λA ⟨a9,ba⟩=>by go_simp) ?_;simp only[A5];refine Fs (rs:=[1]) (by kernel_rfl) (by simp) (AllReadyH.cons rfl (λef bn=>?_) AllReadyH.nil);go_simp;refine dt (gD _ _) λcb fm=>?_;subst cb;refine bn _ _ z (λz=>?_);try simp only[Act.put,co,cA,cC]
    refine dL 2 (Y (O ⟨B.b,0,Q⟩)) rfl rfl z (λA ⟨a9,ba⟩=>by go_simp) ?_;simp only[A5];refine dL 3 (Y (O ⟨B.b,4,Q⟩)) rfl rfl z (λA ⟨a9,ba⟩=>by go_simp) ?_;simp only[A5];refine dL 4 (Z X (e:Int)) rfl rfl z (λA ⟨a9,ba⟩=>by go_simp) ?_;simp only[A5];refine dL 6 (Bc Ax) rfl rfl z (λA ⟨a9,ba⟩=>by go_simp) ?_;simp only[A5];refine wpAnyH_done (by kernel_rfl) ?_ _
    gi_wp2
    have gs:m.drew.cell? ⟨f+1,0,Q⟩=O (Z X (e:Int))/\m.drew.cell? ⟨w.heap.size+1+1,e,Q⟩=O (Z X q)/\m.drew.cell? ⟨l,0,Q⟩=O (U (O ⟨w.heap.size+1+1,0,Q⟩) n n)/\m.drew.frozen? ⟨f+1,0,Q⟩=Ax:=⟨bj,ei,ce,eo⟩;have g7:IntKind.i64.wrap ((e:Int)-q)=(e:Int)-q:=by rw[dr];omega
    have G:=d7.out;have gv:f+1≠w.heap.size+1+1:=by omega
    have e2:Jq w l n S j f a (U r t u) ((e:Int)+1-q) (m.setCell ⟨f+1,0,Q⟩ (Z X ((e:Int)-q))).drew.drew:=by
     have el:(e:Int)+1-q-1=(e:Int)-q:=by omega
     refine⟨⟨(G.oo.bl.setCell (by simp;omega) _).drew.drew,(ay _ _ _ _ (by simp;omega)).trans G.oo.r0,(ay _ _ _ _ (by simp;omega)).trans G.oo.r1,?_,(ay _ _ _ _ (by simp;omega)).trans G.oo.bx,(G.oo.mks.keeps (A9 _ _ _)).keeps ((KeepsOthers.drew _).trans (KeepsOthers.drew _))⟩,(ay _ _ _ _ (by simp)).trans G.b5,?_,(ay _ _ _ _ (by simp)).trans G.b8⟩
     .exact(show(m.setCell ⟨f+1,0,Q⟩ (Z X ((e:Int)-q))).ownsRow _ _ _ _ _ _ from G.oo.row.kept (grownBy_setCell' m (f+1) _) (.inr (by simp[Bk];omega)))
     .rw[el];exact bp _ _ 0 _ _ _ G.b7
    have ec:B0 (agw (f+1+1+1) m (λd=>∃b:Int,Jq w l n S j f a (U r t u) b d/\0<=b/\b<=(a:Int)/\qD S (x.N.ks.take c).reverse b=K) (λ_=>False) .normal {tmps:=#[],defers:=[]} (m.setCell ⟨f+1,0,Q⟩ (Z X ((e:Int)-q))).drew.drew):=
     ⟨(((A9 _ _ _).trans (KeepsOthers.drew _)).trans (KeepsOthers.drew _)).from _,_,e2,by omega,by omega,eb⟩
    gi_region
    all_goals exact ec
   case ret=>intro d h;exact h.elim
   case done=>
    rintro m ⟨b,h,ez,eA,J⟩ cp;rw[a8]at cp⊢;have ev:K=O b:=by rw[<-J];rfl
    have fg:ov S a x.N.ks=(a:Int)-(b-1):=by unfold ov;rw[bo,ev];show(a:Int)-b+1=_;omega
    have H:S.length=a:=by rw[<-hS,ma,gJ,<-g.out.2.1,bq,g.out.2.2.1];omega
    have ap:=h.oo.row;have f9:m.cell? ⟨w.heap.size+1+1,a,Q⟩=O (Z X 0):=by
     rw[ap.cellAt a (by omega),eD (by simp;omega),bq,H,fx,yh,ab (by omega)]
    have gm:=ap.frozenAt a;have c8:=(ap.stored a (Z X ((a:Int)-(b-1)))).1;rw[H,GK S n a ((a:Int)-(b-1)) H bv]at c8;have ct:iL (ns.take (a+1))=S++[(a:Int)-(b-1)]:=by rw[aaj cF,hS,fg]
    have e8:uF (w.heap.size+1+1+1) ((f+1+1+1)::j) m:=⟨List.nodup_cons.2 ⟨λaf=>by have:=eB _ af;omega,h.oo.mks.nd⟩,λv hb=>by
      rcases List.mem_cons.1 hb with rfl|hb
      .omega
      .exact h.oo.mks.lo v hb,λv hb=>by
      rcases List.mem_cons.1 hb with rfl|hb
      .exact cp
      .exact h.oo.mks.at_ v hb⟩
    have cI:Cf w l n (S++[(a:Int)-(b-1)]) ((f+1+1+1)::j) (m.setCell ⟨w.heap.size+1+1,a,Q⟩ (Z X ((a:Int)-(b-1)))):=
     ⟨h.oo.bl.setCell (by simp;omega) _,(ay _ _ _ _ (by simp;omega)).trans h.oo.r0,(ay _ _ _ _ (by simp)).trans h.oo.r1,by rw[aG,H];exact c8,(ay _ _ _ _ (by simp;omega)).trans h.oo.bx,e8.keeps (A9 _ _ _)⟩
    have d9:B0 (Cf w l n (iL (ns.take (a+1))) ((f+1+1+1)::j) (m.setCell ⟨w.heap.size+1+1,a,Q⟩ (Z X ((a:Int)-(b-1))))/\∀(E:Nat) k,(iL (ns.take (a+1)))[E]?=O k->1<=k):=by
     refine⟨by rw[ct];exact cI,λE k ao=>?_⟩;rw[ct]at ao;rcases bg E a with g1|g1
     .rw[gw (by omega)]at ao;exact o.2 E k ao
     .rw[eD (by omega)]at ao;obtain⟨F,cl⟩:=List.getElem?_eq_some_iff.1 ao;simp at F cl;omega
    have f5:=fp h.oo.bx;have f6:=fp h.b5;have f8:=fp h.b7;have es:l<(m.setCell ⟨w.heap.size+1+1,a,Q⟩ (Z X ((a:Int)-(b-1)))).heap.size:=ai cI.bx;have gp:((a:Int)-(b-1))<=3001/\1<=((a:Int)-(b-1)):=by omega
    refine et _ _ ?_;go_wp2;exact⟨⟨a+1,(f+1+1+1)::j,by omega,es,d9,_,_,_,_,_,_,_,_,_,_,_,_,_,_,_,_,_,_,_,_,_,_,rfl⟩,by simp[C2];omega⟩
  .obtain rfl:a=n:=by omega
   have gz:¬(a:Int)<(a:Int):=by omega
   obtain⟨c,rfl⟩:∃c,a=c+1:=⟨a-1,by omega⟩;have hS:iL (ns.take (c+1))=iL ns:=by rw[dl (by rw[<-g.out.2.1,bq,g.out.2.2.1];exact ag _)]
   rw[hS]at o;have H:(iL ns).length=c+1:=by rw[ma,<-g.out.2.1,bq,g.out.2.2.1]
   obtain⟨k,s⟩:=cJ H (show c<c+1 by omega);have c6:k=(c:Int)+1:=by have:=g.out.2.2.2.2.2;rw[lh,aF,s]at this;exact this
   have cc:=gF o.1 c6;have gb:d.cell? ⟨w.heap.size+1+1,c,Q⟩=O (Z X k):=by
    rw[o.out.1.row.cellAt c (by omega),gw (by simp;omega),cD,s];rfl
   have ce:=fp o.1.bx;have hn:=fp o.1.r0;have ho:=fp o.1.r1;have ge:d.frozen? ⟨w.heap.size,0,Q⟩=Ax:=cH _ _ _ _ _ o.1.r0;have gl:d.frozen? ⟨w.heap.size+1,0,Q⟩=Ax:=cH _ _ _ _ _ o.1.r1;have gd:(c:Int)+1-1=(c:Int):=by omega
   have g9:(0:Int)<=(c:Int):=by omega
   have ha:(c:Int)<(c:Int)+1:=by omega
   clear s c6 hS o g;go_wp2_with fail;have hc:w.heap.size≠l:=by omega
   have he:w.heap.size+1≠l:=by omega
   have hf:w.heap.size≠w.heap.size+1+1:=by omega
   have hh:w.heap.size+1≠w.heap.size+1+1:=by omega
   go_region_held3 (λA=>A.cell? ⟨l,0,Q⟩=O (U (O ⟨w.heap.size+1+1,0,Q⟩) (c+1) (c+1))/\A.cell? ⟨w.heap.size+1+1,c,Q⟩=O (Z X k)) (go_keep) (fail)
   all_goals go_wp2_with fail
   have h:=cc.1;show LeavesInM _ _ _ _ _ _ (j.map DL) .returning _;refine tr (w.heap.size+1+1+1) j _ (((h.mks.keeps (A9 _ _ _)).keeps (A9 _ _ _)).keeps (KeepsOthers.drew _)) (λcd J=>?_);have fu:cd.heap[w.heap.size]?=O (Ak #[Z X (c:Int)] 3 (0,0)):=(J.same _ (λaf=>by have:=h.mks.lo _ af;omega)).trans ((ay _ _ _ _ (by simp)).trans (bp _ _ 0 _ _ _ h.r0));have fv:cd.heap[w.heap.size+1]?=O (Ak #[Bc (decide (k<(c:Int)+1))] 4 (0,0)):=(J.same _ (λaf=>by have:=h.mks.lo _ af;omega)).trans (bp _ _ 0 _ _ _ ((ay _ _ _ _ (by simp)).trans h.r1));refine⟨_,Gf rfl _ _ _ ⟨w.heap.size,0,Q⟩ ⟨w.heap.size+1,0,Q⟩ _ _ rfl rfl (ai8 _ _ _ (fp fu)) (afw _ _ _ (fp fv)),?_,J.below (((h.bl.setCell (by simp) _).setCell (by simp) _).drew) (λv hb=>by have:=h.mks.lo v hb;omega) (ag _)⟩;rw[show((c+1:Nat):Int)-1=(c:Int) by omega,az (by have:=cc.out.2;omega)]
