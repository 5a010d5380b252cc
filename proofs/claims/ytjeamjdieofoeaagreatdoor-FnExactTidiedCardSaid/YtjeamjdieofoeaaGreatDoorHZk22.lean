import Derived.Test.YtjeamjdieofoeaaGreatDoorHZk21
set_option linter.all false
set_option maxRecDepth 100000
set_option maxHeartbeats 6400000
open Go.Proofs.Tryz renaming prog->M
open Option renaming some->O,none->S
open Go.Value renaming slice->R,pointer->U,string->X,int->Br,iface->Bs,string->B3,bool->B6
open Go.MakeChecks renaming laidMetH_plain->T
open Go.RowKit renaming Hid->Y,Below->A2,intOf->B1
open Go renaming Value->Z,World->Ax,TypeId->B4,Calls->B7
open Bool renaming false->A0,true->B0
open Go.Ending renaming returned->A5
open Go.Obj renaming cells->A9
namespace Go.Proofs.YtjeamjdieofoeaaGreatDoor
open Go.ChangeShapes Go.WideShapes Go.ChangeAt Go.WideMaps Go.WideElems Go.RowKit
variable{W:World}{n:Nat}
def anu(V:Array Z):List (List UInt8):=V.toList.map fun b=>match b with| .string a=>a.data.toList|_=>[]
theorem Hi{d:String}{c:DataW Unit}{g:Nat}{t:B4}{V:Array Z}(v:([(d,c)].all fun x=>x.2.handleName?.isNone)=B0)
  (s:Tryz.prog.globalNamed d=O g) (l:(Tryz.prog.globals[g]?).map (·.type)=O t) (w:Tryz.prog.underlying t=O (.array n 9)) (o:Tryz.prog.cellsOf 9=1) (p:Tryz.prog.cellsOf t=n)
  (q:c= .agg ((anu V).map fun b=> .lit (.string b))) (m:(anu V).map (fun b=>B3 ⟨b.toArray⟩)=V.toList) (h:laidMetH M [(d,c)] W):∃e fr,W.heap[g]?=O (.cells V e fr):=by
 rw[T _ _ _ v]at h;obtain⟨E,⟨B,G,i,A,C,F,f,y,a,r,_,_⟩,_,_⟩:=h;obtain rfl:=bp (s.symm.trans f);obtain rfl:=bp (l.symm.trans y);subst q;have j:=DI w Tryz.underlying9 o p r;have k:i=V:=by
  apply Array.toList_inj.1;rw[j,m]
 simp only[World.var?,f,A7]at a;split at a
 ·rename_i z e fr u;cases a;exact⟨e,fr,by rw[<-k];exact u⟩
 ·cases a
theorem agD{a nm:String}{b:DataW Unit}{g:Nat}{t:B4}{ms:Array (String×B4)}(n:([(a,DataW.iface nm b)].all fun x=>x.2.handleName?.isNone)=B0)
  (m:Tryz.prog.globalNamed a=O g) (k:(Tryz.prog.globals[g]?).map (·.type)=O t) (o:Tryz.prog.underlying t=O (.interface ms)) (h:laidMetH M [(a,.iface nm b)] W):∃s r,W.cell? ⟨g,0,S⟩=O (.iface s r):=by
 rw[T _ _ _ n]at h;obtain⟨z,⟨w,B,f,v,y,A,c,p,q,l,_,_⟩,_,_⟩:=h;obtain rfl:=bp (m.symm.trans c);obtain rfl:=bp (k.symm.trans p);obtain⟨u,d,e,i,_,_⟩:=iface_of_trod o l;refine⟨d,e,?_⟩;have:=World.var?_cell c q 0;rw[this];have j:f.toList[0]?=O (.iface d e):=by rw[i];rfl
 simpa using j
def al5:List Int:=[0,1,56,2,57,49,28,3,61,58,42,50,38,29,17,4,62,47,59,36,45,43,51,22,53,39,33,30,24,18,12,5,63,55,48,27,60,41,37,16,46,35,44,21,52,32,23,11,54,26,40,15,34,20,31,10,25,14,19,9,13,8,7,6]
theorem anv:Tryz.prog.globalNamed "math/bits.deBruijn64tab" =O 9:=by kernel_rfl
theorem aoJ:Tryz.prog.globalNamed "internal/strconv.uint64pow10" =O 6:=by kernel_rfl
theorem aoK:Tryz.prog.globalNamed "strconv.ErrSyntax" =O 10:=by kernel_rfl
theorem aoL:Tryz.prog.globalNamed "strconv.ErrRange" =O 11:=by kernel_rfl
theorem ao0:Tryz.prog.globalNamed "loop.example/warp/impl.wordTexts" =O 0:=by kernel_rfl
theorem ao1:Tryz.prog.globalNamed "loop.example/warp/impl.markTexts" =O 1:=by kernel_rfl
theorem ao2:Tryz.prog.globalNamed "loop.example/warp/impl.binaryTexts" =O 2:=by kernel_rfl
theorem aju(c:laidMetH M [("loop.example/warp/impl.wordTexts",Rows.laid_loop_example_warp_impl_wordTexts)] W)(d:laidMetH M [("loop.example/warp/impl.markTexts",Rows.laid_loop_example_warp_impl_markTexts)] W)(e:laidMetH M [("loop.example/warp/impl.binaryTexts",Rows.laid_loop_example_warp_impl_binaryTexts)] W)(f:laidMetH M [("strconv.ErrSyntax",Rows.laid_strconv_ErrSyntax)] W)(g:laidMetH M [("strconv.ErrRange",Rows.laid_strconv_ErrRange)] W)(a:laidMetH M [("internal/strconv.uint64pow10",Rows.laid_internal_strconv_uint64pow10)] W)(b:laidMetH M [("math/bits.deBruijn64tab",Rows.laid_math_bits_deBruijn64tab)] W):Cw W:=by
 refine⟨⟨?_,?_,?_⟩,⟨?_,?_⟩,?_,?_⟩
 ·exact Hi (V:=ez) (by kernel_rfl) ao0 (t:=143) (by kernel_rfl) Tryz.underlying143 (by kernel_rfl) (by kernel_rfl) rfl rfl c
 ·exact Hi (V:=jh) (by kernel_rfl) ao1 (t:=230) (by kernel_rfl) Tryz.underlying230 (by kernel_rfl) (by kernel_rfl) rfl rfl d
 ·exact Hi (V:=lL) (by kernel_rfl) ao2 (t:=231) (by kernel_rfl) Tryz.underlying231 (by kernel_rfl) (by kernel_rfl) rfl rfl e
 ·exact agD (by kernel_rfl) aoK (t:=250) (by kernel_rfl) Tryz.underlying250 f
 ·exact agD (by kernel_rfl) aoL (t:=250) (by kernel_rfl) Tryz.underlying250 g
 ·rw[T _ _ _ (by kernel_rfl)]at a;exact Lib.tabIs_of_head aoJ (t:=299) (by kernel_rfl) Tryz.underlying299 Tryz.underlying226 (by kernel_rfl) (by kernel_rfl) a
 ·rw[T _ _ _ (by kernel_rfl)]at b;have h:laidMet M [("math/bits.deBruijn64tab",Lib.tabData .u8 al5)] W:=b;exact(Lib.tabIs_of_head anv (t:=324) (by kernel_rfl) Tryz.underlying324 Tryz.underlying5 (by kernel_rfl) (by kernel_rfl) h).cell anv 15 (by decide)
theorem al6(h:laidMetH M [("math/bits.deBruijn32tab",Rows.laid_math_bits_deBruijn32tab),("math/bits.deBruijn64tab",Rows.laid_math_bits_deBruijn64tab),("internal/strconv.uint64pow10",Rows.laid_internal_strconv_uint64pow10),("strconv.ErrRange",Rows.laid_strconv_ErrRange),("strconv.ErrSyntax",Rows.laid_strconv_ErrSyntax),("loop.example/warp/impl.wordTexts",Rows.laid_loop_example_warp_impl_wordTexts),("loop.example/warp/impl.markTexts",Rows.laid_loop_example_warp_impl_markTexts),("loop.example/warp/impl.binaryTexts",Rows.laid_loop_example_warp_impl_binaryTexts)] W):Cw W:=
 aju (h.filter fun a=>a.1== "loop.example/warp/impl.wordTexts") (h.filter fun a=>a.1== "loop.example/warp/impl.markTexts") (h.filter fun a=>a.1== "loop.example/warp/impl.binaryTexts") (h.filter fun a=>a.1== "strconv.ErrSyntax") (h.filter fun a=>a.1== "strconv.ErrRange") (h.filter fun a=>a.1== "internal/strconv.uint64pow10") (h.filter fun a=>a.1== "math/bits.deBruijn64tab")
def ajv{H:Type}(x:Int×Int×Int):DataW H:= .agg [.lit (.int .i64 x.1),.lit (.int .i64 x.2.1),.lit (.int .i64 x.2.2)]
def agE(x:Int×Int×Int):List Z:=[Br .i64 x.1,Br .i64 x.2.1,Br .i64 x.2.2]
theorem anw(l:List Z)(h:l.length=3):∃a b c,l=[a,b,c]:=by
 match l,h with
 |[a,b,c],_=>exact⟨a,b,c,rfl⟩
theorem ajw{H:Type}{enc:B4×Z->H}{base:Nat}{r:Nat->Bool}{m:Bool}{fuel:Nat}{l:List Z}{x:Int×Int×Int}{p:List MemPlace}(h:DataW.trod enc M W base r m fuel 168 l=O (ajv x,p)):l=agE x:=by
 have j:Tryz.prog.cellsOf 3=1:=by kernel_rfl
 have k:Tryz.prog.cellsOf 168=3:=by kernel_rfl
 obtain⟨w,y,z,v,a,e,b,c,d⟩:=Go.Deep.trod_struct3 Tryz.underlying168 h;rw[k]at e;obtain⟨s,t,u,rfl⟩:=anw l e;simp[j]at b c d;obtain⟨z0,f,n,_⟩:=FG Tryz.underlying3 b;obtain⟨A,g,o,_⟩:=FG Tryz.underlying3 c;obtain⟨B,i,q,_⟩:=FG Tryz.underlying3 d;simp at f g i;subst f g i;unfold ajv at a;rw[n,o,q]at a;simp at a;unfold agE;rw[a.1.1,a.1.2.1,a.1.2.2]
theorem E6:∀(a:List (Int×Int×Int))(cs:List Z),cs.length=3*a.length->(∀i x,a[i]?=O x->(cs.drop (i*3)).take 3=agE x)->cs=a.flatMap agE
 |[],cs,b,_=>by simpa using b
 |x::a,cs,b,h=>by
  have c:=h 0 x rfl;simp only[Nat.zero_mul,ey]at c;have e:=E6 a (cs.drop 3) (by rw[ep,b];simp;omega) (fun i f d=>by
   have:=h (i+1) f (by simpa using d);rw[List.drop_drop];rw[show(i+1)*3=3+i*3 by omega]at this;exact this)
  rw[xx,<-e,<-c];exact(Fi 3 cs).symm
def agF:List (Int×Int×Int):=[(26,1,2),(10,2,3),(73,3,4),(74,3,4),(75,3,4),(76,3,4),(77,3,4),(78,3,4),(72,4,4),(68,5,6),(69,6,7),(67,7,8),(70,8,9),(71,8,9),(61,9,10),(62,9,10),(63,10,11),(64,10,11),(65,10,11),(66,10,11)]
theorem ao3:Tryz.prog.globalNamed "loop.example/warp/impl.powers" =O 3:=by kernel_rfl
theorem ajx(h:laidMetH M [("loop.example/warp/impl.powers",Rows.laid_loop_example_warp_impl_powers)] W):∃e fr,W.heap[3]?=O (.cells Jf e fr):=by
 rw[T _ _ _ (by kernel_rfl)]at h;obtain⟨F,⟨A,H,c,q,E,G,g,y,b,r,_,_⟩,_,_⟩:=h;obtain rfl:=bp (ao3.symm.trans g);obtain rfl:=bp ((show(Tryz.prog.globals[3]?).map (·.type)=O 234 by kernel_rfl).symm.trans y);have l:Tryz.prog.cellsOf 168=3:=by kernel_rfl
 have m:Tryz.prog.cellsOf 234=60:=by kernel_rfl
 have s:DataW.trod _ M W _ _ _ q 234 c.toList=O (.agg (agF.map ajv),_):=r;obtain⟨k,C,_,j,w,B,t⟩:=DataW.trod_array Tryz.underlying234 s;simp only[ic,DataW.agg.injEq]at j;have n:c.toList=agF.flatMap agE:=by
  refine E6 agF _ (by rw[w,m];rfl) (fun a x i=>?_);have v:a<20:=by have:=(List.getElem?_eq_some_iff.1 i).1;simpa [agF] using this
  have f:=t a v;rw[l,aJ (by omega)]at f;have d:(k.map (·.1))[a]?=(agF.map ajv)[a]?:=by rw[j.1]
  rw[ce,ce,aJ (by omega),i]at d;simp only[uC,ee]at d;exact ajw (x:=x) (p:=k[a].2) (by rw[f,<-d])
 have o:c=Jf:=by
  apply Array.toList_inj.1;rw[n];rfl
 simp only[World.var?,g,A7]at b;split at b
 ·rename_i z e fr u;cases b;exact⟨e,fr,by rw[<-o];exact u⟩
 ·cases b
end Go.Proofs.YtjeamjdieofoeaaGreatDoor
namespace Go.Proofs.YtjeamjdieofoeaaGreatDoor
open Go.RowKit Go.Maps Go.WideMaps
variable{W:World}{n:Nat}
theorem Hj(b:Ax)(a t:Nat)(v:Z)(c:ByteArray)(e:Pw b a 75 #[vP a,gG b t,v] c):
  Pw b a 120 #[vP a,gG b t,v,B6 A0] c:=by
 intro h k d;have g:Y (Pw b a 75 #[vP a,gG b t,v] c):=e;have f:Y (Ps b a h k):=d;unfold gG na at *;generalize eB t=m at *;clear d e;go_enter_defers Tryz.func120,Tryz.ntmps120
 go_wp2_with (go_at_call 75;fail);refine(g.out _ _ f.out).mono ?_;rintro l n ⟨rfl,j,i⟩;go_wp2_with fail;exact⟨_,dJ rfl _ _ _,rfl,j,i⟩
theorem ql(b:Ax)(a t:Nat)(v:Z)(c:ByteArray)(d:Bool)(e:Pw b a 75 #[vP a,gG b t,v] c):
  Pw b a 120 #[vP a,gG b t,v,B6 d] (if d=B0 then gi c else c):=by
 cases d
 ·rw[aa (by simp)];exact Hj b a t v c e
 ·rw[ab rfl];exact yq b a t v c e
theorem ab7(a:Ax)(b t:Nat)(v:Z)(e:ByteArray)(l:Pw a b 75 #[vP b,gG a t,v] e):
  Pw a b 125 #[vP b,gG a t,v] (⟨#[91]⟩++e++⟨#[93]⟩):=by
 intro d c h;have B:=fun c=>pq a.heap.size (eB t) c;have w:Y (Pw a b 335 #[na a t,X ⟨#[91]⟩] ⟨#[91]⟩):=jB a b t _ (by decide);have x:Y (Pw a b 75 #[vP b,gG a t,v] e):=l;have y:Y (∀d c,Ps a b d c->∀i,CallsD M 335 #[na a t,X ⟨#[93]⟩] i c fun g p q=>p=i/\(g= A5 (.tuple #[])/\Ps a b (d++⟨#[93]⟩) q/\Kq a.heap.size c q)):=fun d c h i=>mh a b t _ d (by decide) i c h;have u:Y (Ps a b d c):=h;unfold gG na at *;generalize eB t=C at *;clear h l;go_enter_defers Tryz.func125,Tryz.ntmps125
 go_wp2_with (go_at_call 335;fail);refine(w.out _ _ u.out).mono ?_;rintro g r ⟨rfl,p2,m⟩;have j:Y (Ps a b (d++⟨#[91]⟩) r/\Kq a.heap.size c r):=⟨p2,m⟩;clear p2 m;go_wp2_with (go_at_call 75;fail);refine(x.out _ _ j.out.1).mono ?_;rintro g s ⟨rfl,o,n⟩;have k:Y (Ps a b (d++⟨#[91]⟩++e) s/\Kq a.heap.size c s):=⟨o,j.out.2.trans n⟩;clear o n;go_wp2_with fail;refine lI (f:=335) (by simp) (sG _ _ _ _) ?_;refine(y.out _ _ k.out.1 .returning).mono ?_;rintro g p E ⟨rfl,rfl,A,z⟩;refine⟨_,dJ rfl _ _ _,rfl,?_,k.out.2.trans z⟩;simpa only[bq] using A
theorem adE(b:Ax)(d:Nat)(a:List Nd)(f:List Im)(base:Nat)(C:Z)(y:Tp b a f base C)(t i:Nat)(A:i<a.length)(e:ByteArray)(s:DF b d f t i e):
  Pw b d 124 #[vP d,gG b t,nV (lj f i)] (if td (ae a i).k=B0 then e else gi e):=by
 intro x g j;obtain⟨q,al,G,af,H,v,p⟩:=vF y A;have F:=(p.cells j.pg.bel).1;have w:=fun g=>da q g;have u:=fun g=>py (de (ae a i).k) q g;have c:Y (Pw b d 120 #[vP d,gG b t,nV (lj f i),B6 (!td (ae a i).k)] (if td (ae a i).k=B0 then e else gi e)):=by
  have:=ql b d t (nV (lj f i)) e (!td (ae a i).k) s;cases hb:td (ae a i).k<;>simp[hb]at this⊢ <;>exact this
 have o:Y (Ps b d x g):=j;rw[v]at c⊢;generalize (ae a i).k=k at F u c⊢;generalize jy (de k)=ak at u c⊢;generalize gG b t=ad at c⊢;clear j p v s;cases hb:td k with
 |true=>
  rw[hb]at c;have z:k=26\/k=32\/k=33\/k=34\/k=37:=by unfold td at hb;simp at hb;omega
  clear hb;rcases z with rfl|rfl|rfl|rfl|rfl<;>
  ·go_enter Tryz.func124,Tryz.ntmps124;go_wp2_with (first|(go_at_call 336;refine(w _).mono ?_;rintro h n ⟨rfl,B⟩;subst n)|(go_at_call 120;refine(c.out _ _ o.out).mono ?_;rintro h E ⟨rfl,m,l⟩));go_end0
   exact⟨rfl,m,l⟩
 |false=>
  rw[hb]at c;have r:(k==26)=A0/\(k==32)=A0/\(k==33)=A0/\(k==34)=A0/\(k==37)=A0:=by unfold td at hb;simp at hb;simp;omega
  obtain⟨r,I,J,K,L⟩:=r;clear hb;go_enter Tryz.func124,Tryz.ntmps124;go_wp2_with (first|(go_at_call 336;refine(w _).mono ?_;rintro h n ⟨rfl,B⟩;subst n)|(go_at_call 120;refine(c.out _ _ o.out).mono ?_;rintro h E ⟨rfl,m,l⟩));go_end0
  exact⟨rfl,m,l⟩
def aan:List ByteArray->ByteArray
 |[]=>ByteArray.empty
 |y::r=>dL++y++aan r
theorem adF(l:List ByteArray):∀x:ByteArray,l.foldl Gb (B0,x)=(B0,x++aan l):=by
 induction l with
 |nil=>intro x;simp[aan]
 |cons a d c=>
  intro x;rw[qe];have b:Gb (B0,x) a=(B0,x++dL++a):=rfl;rw[b,c];simp only[aan,bq]
theorem E7(x:ByteArray)(l:List ByteArray):cC (x::l)=x++aan l:=by
 unfold cC Lm;rw[qe];have a:Gb (A0,ByteArray.empty) x=(B0,x):=by unfold Gb;simp
 rw[a,adF]
theorem agG(l:List ByteArray):(⟨(Lib.join (l.map (·.data.toList)) dL.data.toList).toArray⟩:ByteArray)=cC l:=by
 cases l with
 |nil=>rfl
 |cons e l=>
  rw[kK,Lib.join_cons,E7];have d:∀l:List ByteArray,Lib.joinTail dL.data.toList (l.map (·.data.toList))=(aan l).data.toList:=by
   intro l
   induction l with
   |nil=>rfl
   |cons a l c=>
    have b:Lib.joinTail dL.data.toList ((a::l).map (·.data.toList))=(dL.data.toList++a.data.toList)++Lib.joinTail dL.data.toList (l.map (·.data.toList)):=by simp[Lib.joinTail]
    rw[b,c];show _=(((dL++a)++aan l).data).toList;rw[oc,oc];simp
  rw[d];apply pK;rw[oc];simp
theorem adG(l:List ByteArray)(x:ByteArray):cC (l++[x])=if l=[] then x else cC l++dL++x:=by
 unfold cC;rw[yI];unfold Gb;rw[I2];cases l with
 |nil=>simp[Lm]
 |cons a b=>simp
theorem E8(w:Ax)(vn:Z)(l:List ByteArray)(h:cu w vn l)(m:rD vn)(s:l.length<=1048576)(t:(cC l).size<=100000000):
  B7 M 190 #[vn,X ⟨#[44,32]⟩] w fun e w'=>e= A5 (X (cC l))/\A2 w.heap.size w w':=by
 rcases h with⟨rfl,a,b,rfl⟩|⟨a,b,rfl,i⟩
 ·refine(Tryz.strings_Join_none a b _ w).mono ?_;rintro e w' ⟨rfl,rfl⟩;exact⟨rfl,ah _ _⟩
 ·by_cases f:l=[]
  ·subst f;refine(Tryz.strings_Join_none _ b _ w).mono ?_;rintro e w' ⟨rfl,rfl⟩;exact⟨rfl,ah _ _⟩
  ·obtain⟨j,g⟩:=m a _ b rfl;have o:0<l.length:=by rcases qd l.length with e|e;exact absurd (ia e) f;exact e
   have k:a.block<w.heap.size:=by
    have:=xI (i 0 _ (aJ o));unfold Addr.add at this;simpa using this
   have d:=agG l;have u:(Lib.join (l.map (·.data.toList)) dL.data.toList).length=(cC l).size:=by rw[<-d];simp[ByteArray.size]
   have:=Tryz.strings_Join a.block a.off b l dL w (fun q r p=>by
    have c:=i q r p;unfold Addr.add at c;split at c
    ·rename_i n;subst n;rw[g]at c;simpa using c
    ·exact c) k (by omega) j (by omega)
   rw[d,<-g]at this;exact this
theorem qF.take{d:List Im}{a:Option Addr}{c:Nat}{l:List Int}(h:qF W d (R a n c) l)(k:Nat)(g:k<=l.length):qF W d (R a k c) (l.take k):=by
 rcases h with⟨rfl,e,i,f⟩|⟨e,i,f,q,m⟩
 ·have:k=0:=by simpa using g
  subst this;exact .inl ⟨rfl,a,c,rfl⟩
 ·cases f;by_cases j:k=0
  ·subst j;exact .inl ⟨by simp,_,_,rfl⟩
  ·refine .inr ⟨e,c,by rw[eD,uF g],by rw[eD];omega,fun o p b=>m o p ?_⟩;rw[jH]at b;split at b
   ·exact b
   ·cases b
theorem agH(a:Addr)(i j:Nat):(a.add i).add j=a.add (i+j):=by
 unfold Addr.add;by_cases b:i=0
 ·subst b;simp
 ·by_cases c:j=0
  ·subst c;simp[b]
  ·simp[b,c];omega
theorem qF.drop{b:List Im}{a:Addr}{c:Nat}{l:List Int}(h:qF W b (R (O a) n c) l)(k m:Nat)(r:k<=l.length)(j:m=l.length-k):qF W b (R (O (a.add k)) m (c-k)) (l.drop k):=by
 subst j;rcases h with⟨rfl,f,g,d⟩|⟨f,g,d,q,i⟩
 ·exact .inl ⟨by simp,O (a.add k),c-k,by simp⟩
 ·cases d;refine .inr ⟨a.add k,c-k,by rw[ep],by rw[ep];omega,fun o p e=>?_⟩;rw[pI]at e;rw[agH];exact i (k+o) p e
theorem xa(b:Nat)(a:ByteArray)(w:Ax):(nilAhead 443 59 (.agg #[U (O ⟨b,0,S⟩),X a]) "loop.example/warp/impl.put").run M w= .ok (O A0) w:=by kernel_rfl
theorem ao4(b:Nat)(w:Ax):(Instr.typeAssert (Bs 194 (U (O ⟨b,0,S⟩))) 49 194 A0).run M w= .ok (U (O ⟨b,0,S⟩)) w:=by kernel_rfl
theorem ao5(b:Nat)(w:Ax):(Instr.typeAssert (Bs 154 (U (O ⟨b,0,S⟩))) 49 154 A0).run M w= .ok (U (O ⟨b,0,S⟩)) w:=by kernel_rfl
theorem ao6(b:Nat)(w:Ax):(Instr.typeAssert (Bs 163 (U (O ⟨b,0,S⟩))) 49 163 A0).run M w= .ok (U (O ⟨b,0,S⟩)) w:=by kernel_rfl
theorem ao7(b:Nat)(w:Ax):(Instr.typeAssert (Bs 166 (U (O ⟨b,0,S⟩))) 49 166 A0).run M w= .ok (U (O ⟨b,0,S⟩)) w:=by kernel_rfl
theorem al7(b:Nat)(w:Ax):(Instr.typeAssert (Bs 172 (U (O ⟨b,0,S⟩))) 49 172 A0).run M w= .ok (U (O ⟨b,0,S⟩)) w:=by kernel_rfl
theorem ao8(b:Nat)(w:Ax):(Instr.typeAssert (Bs 197 (U (O ⟨b,0,S⟩))) 49 197 A0).run M w= .ok (U (O ⟨b,0,S⟩)) w:=by kernel_rfl
theorem Ka(w:Ax)(b:Nat)(vn:Z)(l:List ByteArray)(h:cu w vn l)(a:rD vn)(d:l.length<=1048576)(f:(cC l).size<=100000000)(o:w.cell? ⟨b,6,S⟩=O vn):
  B7 M 111 #[Bs 194 (U (O ⟨b,0,S⟩))] w fun e w'=>e= A5 (X (cC l))/\A2 w.heap.size w w':=by
 have g:=E8 w vn l h a d f;have k:=fun w=>ao4 b w;obtain⟨i,j,rfl⟩:=h.form;generalize l.length=m at *;clear h a;go_enter Tryz.func111,Tryz.ntmps111;go_wp2_with (go_at_call 190;refine g.mono ?_;rintro e n ⟨rfl,c⟩);go_ret;exact⟨rfl,c⟩
theorem tr.strs{base:Nat}{v:Z}{xs:List ByteArray}(h:tr base W v xs):cu W v xs/\rD v:=by
 have e:W.ownsRow base 9 1 v xs.length (xs.map B3):=h;rcases e.2 with⟨a,g⟩|⟨c,l,p,a,g,q,m,r,s,t⟩
 ·exact⟨.inl ⟨ia g,S,0,a⟩,fun j o k b=>by rw[a]at b;cases b⟩
 ·refine⟨.inr ⟨⟨c,0,S⟩,l,a,fun d w i=>?_⟩,fun j o k b=>?_⟩
  ·have u:=(List.getElem?_eq_some_iff.1 i).1;have f:=e;rw[a]at f;have n:(⟨c,0,S⟩:Addr).add d=⟨c,d,S⟩:=by unfold Addr.add;split<;>simp_all
   rw[n,f.cellAt d (by omega),ce,i];rfl
  ·rw[a]at b;cases b;exact⟨m,rfl⟩
theorem aao(w:Ax)(g:Nat)(H I:Z)(c:List ByteArray)(x:ByteArray)(j:cu w H c)(p:cu w I [x])(al:c.length<=1000)(h:w.cell? ⟨g,0,S⟩=O H)(i:w.cell? ⟨g,1,S⟩=O I):
  B7 M 239 #[R (O ⟨g,0,S⟩) 2 2] w fun e w'=>∃v,e= A5 v/\cu w' v (c++[x])/\rD v/\A2 w.heap.size w w':=by
 obtain⟨l,n,rfl⟩:=j.form;obtain⟨m,o,rfl⟩:=p.form;obtain⟨a,s⟩:∃a,c.length=a:=⟨_,rfl⟩;rw[s]at al j h;have f:Y (cu w (R l a n) c/\cu w (R m 1 o) [x]/\c.length=a/\w.cell? ⟨g,0,S⟩=O (R l a n)/\w.cell? ⟨g,1,S⟩=O (R m 1 o)):=⟨j,p,s,h,i⟩;have ar:((a:Int)+1)<=2000:=by omega
 have u:=afz (a+1) (by omega) (by omega) w;rw[show((a+1:Nat):Int)=(a:Int)+1 by omega]at u;clear j p s h i;go_enter Tryz.func239,Tryz.ntmps239;go_wp2_with fail;go_loopw [3,11] (fun y d wr=>Y (wr=w)/\((d= Br .i64 0/\y= Br .i64 0)\/(d= Br .i64 1/\y= Br .i64 (a:Int))\/(d= Br .i64 2/\y= Br .i64 ((a:Int)+1)))) (fun _ d _=>2-(B1 d).toNat)
 case atStart=>exact⟨rfl,.inl ⟨rfl,rfl⟩⟩
 case round=>
  obtain⟨af,r⟩:=hrel;have ao:wr=w:=af.out;subst wr;rcases r with⟨rfl,rfl⟩|⟨rfl,rfl⟩|⟨rfl,rfl⟩
  ·have h:=f.out.2.2.2.1;have an:¬(a:Int)<0:=by omega
   go_wp2_with fail;refine⟨⟨by first|exact True.intro|exact rfl,.inr (.inl ⟨rfl,by first|rfl|go_num⟩)⟩,by simp[B1]⟩
  ·have i:=f.out.2.2.2.2;have an:¬(a:Int)+1<0:=by omega
   have ao:IntKind.i64.wrap ((a:Int)+1)=(a:Int)+1:=by rw[ed];omega
   go_wp2_with fail;refine⟨⟨by first|exact True.intro|exact rfl,.inr (.inr ⟨rfl,by first|rfl|go_num⟩)⟩,by simp[B1]⟩
  ·go_wp2_with (go_at_call 270;fail);refine u.mono ?_;rintro e K ⟨ak,rfl,L,F⟩;have ad:Y (tr w.heap.size K (R (O ⟨w.heap.size,0,S⟩) 0 ak) []/\A2 w.heap.size w K):=⟨L,F⟩;clear L F u;go_wp2_with fail;go_loopw [6,27] (fun k d wr=>∃A G C,k= R A G C/\((d= Br .i64 0/\Y (tr w.heap.size wr k []/\A2 w.heap.size w wr))\/(d= Br .i64 1/\Y (tr w.heap.size wr k c/\A2 w.heap.size w wr))\/(d= Br .i64 2/\Y (tr w.heap.size wr k (c++[x])/\A2 w.heap.size w wr)))) (fun _ d _=>2-(B1 d).toNat)
   case atStart=>exact⟨_,_,_,rfl,.inl ⟨rfl,ad.out⟩⟩
   case round=>
    obtain⟨A,G,C,rfl,r⟩:=hrel;rcases r with⟨rfl,b⟩|⟨rfl,b⟩|⟨rfl,b⟩
    ·have h:wr.cell? ⟨g,0,S⟩=O (R l a n):=aj b.out.2 f.out.2.2.2.1;have t:=b.out.2.size;have am:=f.out.2.2.1;go_wp2_with (at_builtin;refine EJ rfl _ _ rfl w.heap.size _ [] rfl b.out.1 t _ c rfl (f.out.1.below b.out.2) (by simp) (by omega) a (by simp;omega) ?_;intro B E J z q);have ap:tr w.heap.size J (R B a E) c:=by simpa using z
     exact⟨⟨_,_,_,rfl,.inr (.inl ⟨rfl,ap,b.out.2.trans q⟩)⟩,by simp[B1]⟩
    ·have i:wr.cell? ⟨g,1,S⟩=O (R m 1 o):=aj b.out.2 f.out.2.2.2.2;have t:=b.out.2.size;have am:=f.out.2.2.1;go_wp2_with (at_builtin;refine EJ rfl _ _ rfl w.heap.size _ c rfl b.out.1 t _ [x] rfl (f.out.2.1.below b.out.2) (by omega) (by simp) (a+1) (by simp;omega) ?_;intro B E J z q);exact⟨⟨_,_,_,rfl,.inr (.inr ⟨rfl,z,b.out.2.trans q⟩)⟩,by simp[B1]⟩
    ·go_wp2_with fail;go_ret;exact⟨_,rfl,b.out.1.strs.1,b.out.1.strs.2,b.out.2⟩
def aap:ByteArray:=⟨#[46,46,46]⟩
def nF(N:Nd):List ByteArray:=if N.op=1 then N.nm++[aap] else N.nm
theorem NdQ.rest{e:Ax}{f:List Im}{N:Nd}{b:Nat}{vn:Z}{a:Option Addr}{n c:Nat}(h:NdQ e f N b vn a n c)(i:de N.k=5){W:Ax}(g:A2 e.heap.size e W):W.cell? ⟨b,6,S⟩=O vn/\W.cell? ⟨b,7,S⟩=O (B6 (decide (N.op=1))):=by
 obtain⟨j,d⟩:=h.rd W g;unfold ft at d;rw[i]at d;exact⟨by rw[au _ _ _ _ _ _ d];rfl,by rw[au _ _ _ _ _ _ d];rfl⟩
theorem aaq(d:Ax)(h:Nat)(bn:List Im)(t:Nat)(N:Nd)(b:Nat)(vn:Z)(a:Option Addr)(n c:Nat)(Q:NdQ d bn N b vn a n c)(a9:de N.k=5)(bt:N.nm.length<=200)(bw:(cC (nF N)).size<=1000000):
  Pw d h 191 #[vP h,gG d t,U (O ⟨b,0,S⟩)] (⟨#[40]⟩++cC (nF N)++⟨#[41]⟩):=by
 intro l i E;have bD:=fun i=>pq d.heap.size (eB t) i;have av:Y (Pw d h 335 #[na d t,X ⟨#[40]⟩] ⟨#[40]⟩):=jB d h t _ (by decide);have L:Y (Pw d h 335 #[na d t,X (cC (nF N))] (cC (nF N))):=jB d h t _ (by omega);have a0:Y (∀l i,Ps d h l i->∀H,CallsD M 335 #[na d t,X ⟨#[41]⟩] H i fun j ao I=>ao=H/\(j= A5 (.tuple #[])/\Ps d h (l++⟨#[41]⟩) I/\Kq d.heap.size i I)):=fun l i E H=>mh d h t _ l (by decide) H i E;have B:Y (∀m A,cu m A (nF N)->rD A->B7 M 190 #[A,X ⟨#[44,32]⟩] m fun j I=>j= A5 (X (cC (nF N)))/\A2 m.heap.size m I):=fun m A bo br=>E8 m A _ bo br (by unfold nF;split;rw[aK];show _+1<=_;omega;omega) (by omega);have o:Y (∀m,A2 d.heap.size d m->m.cell? ⟨b,6,S⟩=O vn/\m.cell? ⟨b,7,S⟩=O (B6 (decide (N.op=1)))):=fun m bs=>Q.rest a9 bs;have ar:Y (Ps d h l i):=E;have K:Y (cu d vn N.nm/\rD vn/\N.nm.length<=200):=⟨Q.nm,Q.jn,bt⟩;obtain⟨C,a7⟩:∃C,cC (nF N)=C:=⟨_,rfl⟩;rw[a7]at L B bw⊢;unfold gG na at *;generalize eB t=bF at *;obtain⟨r,s,ba⟩:=Q.nm.form;generalize N.nm.length=u at ba;subst ba;clear E Q a7 a9;cases ho:decide (N.op=1) with
 |false=>
  have y:nF N=N.nm:=by unfold nF;rw[aa (iz ho)]
  rw[ho]at o;have bl:Y (cu d (R r u s) (nF N)):=by rw[y];exact K.out.1
  clear ho y;go_enter_defers Tryz.func191,Tryz.ntmps191
  go_wp2_with (go_at_call 335;fail);refine(av.out _ _ ar.out).mono ?_;rintro j e ⟨rfl,g,p⟩;have q:Y (Ps d h (l++⟨#[40]⟩) e/\Kq d.heap.size i e):=⟨g,p⟩;obtain⟨bh,bk⟩:=o.out _ g.pg.bel;clear g p;go_wp2_with fail;go_region_held3 (fun ad=>ad.cell? ⟨b,6,S⟩=O (R r u s)) (first|exact(o.out _ (q.out.1.below (aw (ah _ _))).pg.bel).1|exact(o.out _ ((q.out.1.below (aw (ah _ _))).below v).pg.bel).1|exact(o.out _ g.pg.bel).1|go_keep) (first|(go_at_call 190;refine(B.out _ _ (bl.out.below (q.out.1.below (aw (ah _ _))).pg.bel) K.out.2.1).mono ?_;rintro j bA ⟨rfl,v⟩)|(go_at_call 335;refine(L.out _ _ ((q.out.1.below (aw (ah _ _))).below v)).mono ?_;rintro j z ⟨rfl,g,p⟩))
  all_goals
   have w:Y (Ps d h (l++⟨#[40]⟩++C) z/\Kq d.heap.size i z):=⟨g,((q.out.2.trans (Kq.of_below (aw (ah _ _)))).trans (Kq.of_below v)).trans p⟩;clear g p;go_wp2_with fail;refine lI (f:=335) (by simp) (sG _ _ _ _) ?_;refine(a0.out _ _ w.out.1 .returning).mono ?_;rintro j ao bx ⟨rfl,rfl,am,al⟩;refine⟨_,dJ rfl _ _ _,rfl,?_,w.out.2.trans al⟩;simpa only[bq] using am
 |true=>
  have y:nF N=N.nm++[aap]:=by unfold nF;rw[ab (aH ho)]
  rw[ho]at o;rw[y]at B;clear ho y;go_enter_defers Tryz.func191,Tryz.ntmps191
  go_wp2_with (go_at_call 335;fail);refine(av.out _ _ ar.out).mono ?_;rintro j e ⟨rfl,g,p⟩;have q:Y (Ps d h (l++⟨#[40]⟩) e/\Kq d.heap.size i e):=⟨g,p⟩;obtain⟨bh,bk⟩:=o.out _ g.pg.bel;clear g p;go_wp2_with (go_at_call 239;fail);have a5:=aA e (A9 #[X ⟨#[46,46,46]⟩] 9);have F:=aA (e.alloc (A9 #[X ⟨#[46,46,46]⟩] 9)) (A9 #[R r u s,R (O ⟨e.heap.size,0,S⟩) 1 1] 42);rw[cD]at F;have G:A2 e.heap.size e ((e.alloc (A9 #[X ⟨#[46,46,46]⟩] 9)).alloc (A9 #[R r u s,R (O ⟨e.heap.size,0,S⟩) 1 1] 42)):=((ah _ e).alloc (ag _) _).alloc (by simp) _;have a6:((e.alloc (A9 #[X ⟨#[46,46,46]⟩] 9)).alloc (A9 #[R r u s,R (O ⟨e.heap.size,0,S⟩) 1 1] 42)).cell? ⟨e.heap.size,0,S⟩=O (X ⟨#[46,46,46]⟩):=aj ((ah _ _).alloc (ag _) _) (by rw[au _ _ _ _ _ _ a5];rfl);have bd:=aao ((e.alloc (A9 #[X ⟨#[46,46,46]⟩] 9)).alloc (A9 #[R r u s,R (O ⟨e.heap.size,0,S⟩) 1 1] 42)) (e.heap.size+1) (R r u s) (R (O ⟨e.heap.size,0,S⟩) 1 1) N.nm aap (K.out.1.below (q.out.1.pg.bel.trans (G.mono q.out.1.pg.bel.size))) (.inr ⟨⟨e.heap.size,0,S⟩,1,rfl,fun bb bE ak=>by
    cases bb with
    |zero=>simp at ak;subst ak;exact a6
    |succ bb=>simp at ak⟩) (by omega) (by rw[au _ _ _ _ _ _ F];rfl) (by rw[au _ _ _ _ _ _ F];rfl)
  refine bd.mono ?_;rintro j J ⟨b0,rfl,an,bc,a8⟩;have af:A2 e.heap.size e J:=G.trans (a8.mono G.size);have x:Y (Ps d h (l++⟨#[40]⟩) J/\Kq d.heap.size i J):=⟨q.out.1.below af,q.out.2.trans (Kq.of_below af)⟩;obtain⟨a1,a2,a4⟩:=an.form;generalize (N.nm++[aap]).length=bf at a4;subst a4;have ap:Y (cu J (R a1 bf a2) (N.nm++[aap])/\rD (R a1 bf a2)):=⟨an,bc⟩;obtain⟨bh,bk⟩:=o.out _ x.out.1.pg.bel;clear a5 F a6 G bd a8 af an bc;go_wp2_with fail;go_region_held3 (fun ad=>ad.cell? ⟨b,6,S⟩=O (R r u s)) (first|exact(o.out _ (x.out.1.below (aw (ah _ _))).pg.bel).1|exact(o.out _ ((x.out.1.below (aw (ah _ _))).below v).pg.bel).1|exact(o.out _ g.pg.bel).1|go_keep) (first|(go_at_call 190;refine(B.out _ _ (ap.out.1.below (aw (ah _ _))) ap.out.2).mono ?_;rintro j bA ⟨rfl,v⟩)|(go_at_call 335;refine(L.out _ _ ((x.out.1.below (aw (ah _ _))).below v)).mono ?_;rintro j z ⟨rfl,g,p⟩))
  all_goals
   have w:Y (Ps d h (l++⟨#[40]⟩++C) z/\Kq d.heap.size i z):=⟨g,((x.out.2.trans (Kq.of_below (aw (ah _ _)))).trans (Kq.of_below v)).trans p⟩;clear g p;go_wp2_with fail;refine lI (f:=335) (by simp) (sG _ _ _ _) ?_;refine(a0.out _ _ w.out.1 .returning).mono ?_;rintro j ao bx ⟨rfl,rfl,am,al⟩;refine⟨_,dJ rfl _ _ _,rfl,?_,w.out.2.trans al⟩;simpa only[bq] using am
theorem al8(a:Ax)(c:Nat)(z:List Nd)(l:List Im)(base:Nat)(ba:Z)(a0:Tp a z l base ba)(t:Nat)(br:t<=100000)(i:Nat)(a4:i<z.length)(N:Nd)(a1:ae z i=N)(ak:N.k=36)(bk:N.ks.length<=1048576)(a5:N.nm.length<=200)(a7:(cC (nF N)).size<=1000000)(B:Nat)(v:N.ks[0]?=O (B:Int))(n:ByteArray)(a2:DF a c l t (B:Int) n):
  Pw a c 113 #[vP c,gG a t,nV (lj l i)] (⟨#[40]⟩++cC (nF N)++⟨#[41]⟩++⟨#[32]⟩++n):=by
 intro o b s;obtain⟨f,C,bd,y,af,w,e⟩:=vF a0 a4;rw[a1]at w e;have r:=fun b=>da f b;have bo:=fun b=>pq a.heap.size (eB t) b;have bn:=fun b=>Ha a.heap.size (eB t) b;have bl:=fun b=>abL a.heap.size (eB t) b;have a6:=e.hn;have al:=fun b=>py (de N.k) f b;have u:de N.k=5:=by rw[ak];rfl
 obtain⟨A,rfl,a3,_⟩:=e.ks.get v;rw[a6]at a3;have bh:(0:Int)<(y:Int):=by have:=qC v;omega
 have ar:Y (Pw a c 191 _ (⟨#[40]⟩++cC (nF N)++⟨#[41]⟩)):=aaq a c l t N f C _ _ _ e u a5 a7;have av:Y (Pw a c 335 _ (⟨#[32]⟩)):=jB a c t (⟨#[32]⟩) (by decide);have ad:Y (Pw a c 75 _ (n)):=a2;obtain⟨a9,am⟩:∃a8,nV (lj l (B:Int))=a8:=⟨_,rfl⟩;rw[am]at ad;have p:Y (∀m,A2 a.heap.size a m->m.cell? ⟨f,0,S⟩=O (Br .i64 N.k)/\m.cell? ⟨f,5,S⟩=O (R (O A) y af)/\m.cell? ⟨f,6,S⟩=O C/\m.cell? A=O a9):=fun m q=>⟨(e.cells q).1,(e.cells q).2.1,(e.cells q).2.2 _ (by rw[u];rfl),by rw[<-am];obtain⟨_,g,_,bb⟩:=(e.ks.below q).get v;cases g;simpa [Addr.add] using bb⟩;have I:Y (Ps a c o b/\Kq a.heap.size b b):=⟨s,Kq.refl _ _⟩;obtain⟨E,F,G,H⟩:=p.out _ s.pg.bel;rw[w];rw[u]at al⊢;simp only[jy]at al⊢;have bf:=fun b=>ao8 f b;unfold gG na at *;generalize eB t=bs at *;have bc:Y (NdQ a l N f C (O A) y af):=e;clear s e w ak;go_enter Tryz.func113,Tryz.ntmps113;go_wp2_with (first|(go_at_call 336;refine(r _).mono ?_;rintro g j ⟨rfl,x⟩;subst j)|(go_at_call 191;fail));refine(ar.out _ _ I.out.1).mono ?_;rintro g an ⟨rfl,d,h⟩;have J:Y (Ps a c (o++(⟨#[40]⟩++cC (nF N)++⟨#[41]⟩)) an/\Kq a.heap.size b an):=⟨d,I.out.2.trans h⟩;obtain⟨E,F,G,H⟩:=p.out _ d.pg.bel;clear d h;go_wp2_with (first|(go_at_call 336;refine(r _).mono ?_;rintro g j ⟨rfl,x⟩;subst j)|(go_at_call 335;fail));refine(av.out _ _ J.out.1).mono ?_;rintro g ao ⟨rfl,d,h⟩;have K:Y (Ps a c (o++(⟨#[40]⟩++cC (nF N)++⟨#[41]⟩)++(⟨#[32]⟩)) ao/\Kq a.heap.size b ao):=⟨d,J.out.2.trans h⟩;obtain⟨E,F,G,H⟩:=p.out _ d.pg.bel;clear d h;go_wp2_with (first|(go_at_call 336;refine(r _).mono ?_;rintro g j ⟨rfl,x⟩;subst j)|(go_at_call 75;fail));refine(ad.out _ _ K.out.1).mono ?_;rintro g ap ⟨rfl,d,h⟩;have L:Y (Ps a c (o++(⟨#[40]⟩++cC (nF N)++⟨#[41]⟩)++(⟨#[32]⟩)++(n)) ap/\Kq a.heap.size b ap):=⟨d,K.out.2.trans h⟩;obtain⟨E,F,G,H⟩:=p.out _ d.pg.bel;clear d h;go_wp2_with (first|(go_at_call 336;refine(r _).mono ?_;rintro g j ⟨rfl,x⟩;subst j));go_end0
 refine⟨rfl,?_,L.out.2⟩;have:=L.out.1;simpa only[bq] using this
