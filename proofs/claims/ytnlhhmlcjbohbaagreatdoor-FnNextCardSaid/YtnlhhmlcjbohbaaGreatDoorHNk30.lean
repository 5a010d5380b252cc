import Derived.Test.YtnlhhmlcjbohbaaGreatDoorRows
import Derived.LaidMore
import Derived.LaidSub
import Derived.OpenVars
import Derived.Stop.Joined
import Derived.Test.YtnlhhmlcjbohbaaGreatDoorHNk29
import Derived.Test.YtnlhhmlcjbohbaaGreatDoorHNk22
import Derived.Test.YtnlhhmlcjbohbaaGreatDoorHNk27
set_option linter.all false
set_option maxRecDepth 100000
set_option maxHeartbeats 12800000
open Go.Value renaming slice->O,int->X,string->Z,pointer->B6,string->Cr,int->C2
open Go.Proofs.Tryz renaming prog->R
open Option renaming some->S,none->U
open Go.IntKind renaming i64->Y
open Go.Obj renaming cells->Ax
open Go.Ending renaming returned->A0
open Go.RowKit renaming Below->A2,Hid->Ce,intOf->Ck
open Go.MakeChecks renaming laidMetH_plain->A5
open Bool renaming true->A9,false->B0
open ByteArray renaming empty->Br
open Go renaming Value->B1,World->B3,Calls->B4,TypeId->B7
namespace Go.Proofs.YtnlhhmlcjbohbaaGreatDoor
open Go.ChangeShapes Go.WideShapes Go.ChangeAt Go.WideMaps Go.WideElems Go.RowKit
variable{T:Tk}{W w:World}{g i m n tab:Nat}{ns:List Nd}{s:ByteArray}{st:List Int}{t z:Int}
theorem E8{H:Type}{enc:B7×B1->H}{P:Program}{base:Nat}{B:Nat->Bool}{u:Bool}{fuel:Nat}{t e:B7}{cs:List B1}{d:List (List UInt8)}{p:List MemPlace}
  (z:P.underlying t=S (.array n e)) (r:P.underlying e=S .string) (m:P.cellsOf e=1) (q:P.cellsOf t=n)
  (h:DataW.trod enc P w base B u fuel t cs=S (.agg (d.map fun b=> .lit (.string b)),p)):cs=d.map fun b=>Cr ⟨b.toArray⟩:=by
 obtain⟨C,F,rfl,f,x,A,s⟩:=DataW.trod_array z h;simp only[gD,DataW.agg.injEq]at f;have y:d.length=n:=by have:=congrArg List.length f.1;simpa [A] using this
 apply List.ext_getElem (by simp[x,q,y]);intro a l E;have v:a<n:=by omega
 have g:=s a v;rw[m,ti,aE (by omega)]at g;obtain⟨i,j,k,_⟩:=DataW.trod_string r g;have o:cs[a]= .string i:=by
  have:((cs.drop a).take 1)[0]?=S (.string i):=by rw[j];rfl
  simpa [mu,tg,aE l] using this
 have c:(C.map (·.1))[a]?=(d.map fun b=>(DataW.lit (.string b):DataW H))[a]?:=by rw[f.1]
 rw[bK,bK,aE (by omega),aE (by omega)]at c;simp only[tj,eA]at c;rw[k]at c;simp only[DataW.lit.injEq,Lit.string.injEq]at c;rw[o,List.getElem_map,<-c]
theorem own:ownKnob Tryz.prog.godebug=U:=by kernel_rfl
theorem adw:laidOutB R=A9:=by kernel_rfl
def aq5(V:Array B1):List (List UInt8):=V.toList.map fun v=>match v with| .string s=>s.data.toList|_=>[]
theorem I4{c:String}{d:DataW Unit}{t:B7}{V:Array B1}(v:([(c,d)].all fun x=>x.2.handleName?.isNone)=A9)
  (s:Tryz.prog.globalNamed c=S g) (l:(Tryz.prog.globals[g]?).map (·.type)=S t) (w:Tryz.prog.underlying t=S (.array n 9)) (o:Tryz.prog.cellsOf 9=1) (p:Tryz.prog.cellsOf t=n)
  (q:d= .agg ((aq5 V).map fun b=> .lit (.string b))) (m:(aq5 V).map (fun b=>Cr ⟨b.toArray⟩)=V.toList) (h:laidMetH R [(c,d)] W):∃e fr,W.heap[g]?=S (.cells V e fr):=by
 rw[A5 _ _ _ v]at h;obtain⟨E,⟨B,G,i,A,C,F,f,y,a,r,_,_⟩,_,_⟩:=h;obtain rfl:=bu (s.symm.trans f);obtain rfl:=bu (l.symm.trans y);subst q;have j:=E8 w Tryz.underlying9 o p r;have k:i=V:=by
  apply Array.toList_inj.1;rw[j,m]
 simp only[World.var?,f,Cf]at a;split at a
 ·rename_i z e fr u;cases a;exact⟨e,fr,by rw[<-k];exact u⟩
 ·cases a
theorem ai1{a nm:String}{d:DataW Unit}{t:B7}{ms:Array (String×B7)}(n:([(a,DataW.iface nm d)].all fun x=>x.2.handleName?.isNone)=A9)
  (m:Tryz.prog.globalNamed a=S g) (k:(Tryz.prog.globals[g]?).map (·.type)=S t) (o:Tryz.prog.underlying t=S (.interface ms)) (h:laidMetH R [(a,.iface nm d)] W):∃s r,W.cell? ⟨g,0,U⟩=S (.iface s r):=by
 rw[A5 _ _ _ n]at h;obtain⟨z,⟨w,B,f,v,y,A,b,p,q,l,_,_⟩,_,_⟩:=h;obtain rfl:=bu (m.symm.trans b);obtain rfl:=bu (k.symm.trans p);obtain⟨u,c,e,i,_,_⟩:=iface_of_trod o l;refine⟨c,e,?_⟩;have:=World.var?_cell b q 0;rw[this];have j:f.toList[0]?=S (.iface c e):=by rw[i];rfl
 simpa using j
def api:List Int:=[0,1,56,2,57,49,28,3,61,58,42,50,38,29,17,4,62,47,59,36,45,43,51,22,53,39,33,30,24,18,12,5,63,55,48,27,60,41,37,16,46,35,44,21,52,32,23,11,54,26,40,15,34,20,31,10,25,14,19,9,13,8,7,6]
theorem aq6:Tryz.prog.globalNamed "math/bits.deBruijn64tab" =S 11:=by kernel_rfl
theorem ar9:Tryz.prog.globalNamed "internal/strconv.uint64pow10" =S 9:=by kernel_rfl
theorem asa:Tryz.prog.globalNamed "strconv.ErrSyntax" =S 6:=by kernel_rfl
theorem asb:Tryz.prog.globalNamed "strconv.ErrRange" =S 7:=by kernel_rfl
theorem asd:Tryz.prog.globalNamed "loop.example/warp/impl.wordTexts" =S 0:=by kernel_rfl
theorem ase:Tryz.prog.globalNamed "loop.example/warp/impl.markTexts" =S 2:=by kernel_rfl
theorem asf:Tryz.prog.globalNamed "loop.example/warp/impl.binaryTexts" =S 3:=by kernel_rfl
theorem alF(c:laidMetH R [("loop.example/warp/impl.wordTexts",Rows.laid_loop_example_warp_impl_wordTexts)] W)(d:laidMetH R [("loop.example/warp/impl.markTexts",Rows.laid_loop_example_warp_impl_markTexts)] W)(e:laidMetH R [("loop.example/warp/impl.binaryTexts",Rows.laid_loop_example_warp_impl_binaryTexts)] W)(f:laidMetH R [("strconv.ErrSyntax",Rows.laid_strconv_ErrSyntax)] W)(g:laidMetH R [("strconv.ErrRange",Rows.laid_strconv_ErrRange)] W)(a:laidMetH R [("internal/strconv.uint64pow10",Rows.laid_internal_strconv_uint64pow10)] W)(b:laidMetH R [("math/bits.deBruijn64tab",Rows.laid_math_bits_deBruijn64tab)] W):Fy W:=by
 refine⟨⟨?_,?_,?_⟩,⟨?_,?_⟩,?_,?_⟩
 ·exact I4 (V:=eu) (by kernel_rfl) asd (t:=141) (by kernel_rfl) Tryz.underlying141 (by kernel_rfl) (by kernel_rfl) rfl rfl c
 ·exact I4 (V:=iG) (by kernel_rfl) ase (t:=221) (by kernel_rfl) Tryz.underlying221 (by kernel_rfl) (by kernel_rfl) rfl rfl d
 ·exact I4 (V:=lp) (by kernel_rfl) asf (t:=222) (by kernel_rfl) Tryz.underlying222 (by kernel_rfl) (by kernel_rfl) rfl rfl e
 ·exact ai1 (by kernel_rfl) asa (t:=243) (by kernel_rfl) Tryz.underlying243 f
 ·exact ai1 (by kernel_rfl) asb (t:=243) (by kernel_rfl) Tryz.underlying243 g
 ·rw[A5 _ _ _ (by kernel_rfl)]at a;exact Lib.tabIs_of_head ar9 (t:=311) (by kernel_rfl) Tryz.underlying311 Tryz.underlying41 (by kernel_rfl) (by kernel_rfl) a
 ·rw[A5 _ _ _ (by kernel_rfl)]at b;have h:laidMet R [("math/bits.deBruijn64tab",Lib.tabData .u8 api)] W:=b;exact(Lib.tabIs_of_head aq6 (t:=316) (by kernel_rfl) Tryz.underlying316 Tryz.underlying5 (by kernel_rfl) (by kernel_rfl) h).cell aq6 15 (by decide)
theorem apj(h:laidMetH R [("math/bits.deBruijn32tab",Rows.laid_math_bits_deBruijn32tab),("math/bits.deBruijn64tab",Rows.laid_math_bits_deBruijn64tab),("internal/strconv.uint64pow10",Rows.laid_internal_strconv_uint64pow10),("strconv.ErrRange",Rows.laid_strconv_ErrRange),("strconv.ErrSyntax",Rows.laid_strconv_ErrSyntax),("loop.example/warp/impl.wordTexts",Rows.laid_loop_example_warp_impl_wordTexts),("loop.example/warp/impl.markTexts",Rows.laid_loop_example_warp_impl_markTexts),("loop.example/warp/impl.binaryTexts",Rows.laid_loop_example_warp_impl_binaryTexts)] W):Fy W:=
 alF (h.filter fun a=>a.1== "loop.example/warp/impl.wordTexts") (h.filter fun a=>a.1== "loop.example/warp/impl.markTexts") (h.filter fun a=>a.1== "loop.example/warp/impl.binaryTexts") (h.filter fun a=>a.1== "strconv.ErrSyntax") (h.filter fun a=>a.1== "strconv.ErrRange") (h.filter fun a=>a.1== "internal/strconv.uint64pow10") (h.filter fun a=>a.1== "math/bits.deBruijn64tab")
def alG{H:Type}(x:Int×Int×Int):DataW H:= .agg [.lit (.int .i64 x.1),.lit (.int .i64 x.2.1),.lit (.int .i64 x.2.2)]
def ai2(x:Int×Int×Int):List B1:=[X Y x.1,X Y x.2.1,X Y x.2.2]
theorem aq7(l:List B1)(h:l.length=3):∃a b c,l=[a,b,c]:=by
 match l,h with
 |[a,b,c],_=>exact⟨a,b,c,rfl⟩
theorem alH{H:Type}{enc:B7×B1->H}{base:Nat}{r:Nat->Bool}{m:Bool}{fuel:Nat}{l:List B1}{x:Int×Int×Int}{p:List MemPlace}(h:DataW.trod enc R W base r m fuel 196 l=S (alG x,p)):l=ai2 x:=by
 have j:Tryz.prog.cellsOf 3=1:=by kernel_rfl
 have k:Tryz.prog.cellsOf 196=3:=by kernel_rfl
 obtain⟨w,y,z,v,a,e,b,c,d⟩:=Go.Deep.trod_struct3 Tryz.underlying196 h;rw[k]at e;obtain⟨s,t,u,rfl⟩:=aq7 l e;simp[j]at b c d;obtain⟨z0,f,n,_⟩:=GF Tryz.underlying3 b;obtain⟨A,g,o,_⟩:=GF Tryz.underlying3 c;obtain⟨B,i,q,_⟩:=GF Tryz.underlying3 d;simp at f g i;subst f g i;unfold alG at a;rw[n,o,q]at a;simp at a;unfold ai2;rw[a.1.1,a.1.2.1,a.1.2.2]
theorem Gl:∀(a:List (Int×Int×Int))(cs:List B1),cs.length=3*a.length->(∀i x,a[i]?=S x->(cs.drop (i*3)).take 3=ai2 x)->cs=a.flatMap ai2
 |[],cs,b,_=>by simpa using b
 |x::a,cs,b,h=>by
  have c:=h 0 x rfl;simp only[Nat.zero_mul,jy]at c;have e:=Gl a (cs.drop 3) (by rw[im,b];simp;omega) (fun i f d=>by
   have:=h (i+1) f (by simpa using d);rw[List.drop_drop];rw[show(i+1)*3=3+i*3 by omega]at this;exact this)
  rw[qH,<-e,<-c];exact(vD 3 cs).symm
def ai3:List (Int×Int×Int):=[(26,1,2),(10,2,3),(73,3,4),(74,3,4),(75,3,4),(76,3,4),(77,3,4),(78,3,4),(72,4,4),(68,5,6),(69,6,7),(67,7,8),(70,8,9),(71,8,9),(61,9,10),(62,9,10),(63,10,11),(64,10,11),(65,10,11),(66,10,11)]
theorem asg:Tryz.prog.globalNamed "loop.example/warp/impl.powers" =S 1:=by kernel_rfl
theorem alI(h:laidMetH R [("loop.example/warp/impl.powers",Rows.laid_loop_example_warp_impl_powers)] W):∃e fr,W.heap[1]?=S (.cells Hr e fr):=by
 rw[A5 _ _ _ (by kernel_rfl)]at h;obtain⟨F,⟨A,H,c,q,E,G,g,y,b,r,_,_⟩,_,_⟩:=h;obtain rfl:=bu (asg.symm.trans g);obtain rfl:=bu ((show(Tryz.prog.globals[1]?).map (·.type)=S 197 by kernel_rfl).symm.trans y);have l:Tryz.prog.cellsOf 196=3:=by kernel_rfl
 have m:Tryz.prog.cellsOf 197=60:=by kernel_rfl
 have s:DataW.trod _ R W _ _ _ q 197 c.toList=S (.agg (ai3.map alG),_):=r;obtain⟨k,C,_,j,w,B,t⟩:=DataW.trod_array Tryz.underlying197 s;simp only[gD,DataW.agg.injEq]at j;have n:c.toList=ai3.flatMap ai2:=by
  refine Gl ai3 _ (by rw[w,m];rfl) (fun a x i=>?_);have v:a<20:=by have:=(List.getElem?_eq_some_iff.1 i).1;simpa [ai3] using this
  have f:=t a v;rw[l,aE (by omega)]at f;have d:(k.map (·.1))[a]?=(ai3.map alG)[a]?:=by rw[j.1]
  rw[bK,bK,aE (by omega),i]at d;simp only[tj,eA]at d;exact alH (x:=x) (p:=k[a].2) (by rw[f,<-d])
 have o:c=Hr:=by
  apply Array.toList_inj.1;rw[n];rfl
 simp only[World.var?,g,Cf]at b;split at b
 ·rename_i z e fr u;cases b;exact⟨e,fr,by rw[<-o];exact u⟩
 ·cases b
end Go.Proofs.YtnlhhmlcjbohbaaGreatDoor
namespace Go.Proofs.YtnlhhmlcjbohbaaGreatDoor
open Go.RowKit Go.Maps Go.WideMaps
variable{T:Tk}{W w:World}{g i m n tab:Nat}{ns:List Nd}{s:ByteArray}{st:List Int}{t z:Int}
section
variable {tk : Nat → Tk} {n : Nat}
theorem ai4{j:Nat}(a:(tk i).k=t)(g:i<n):∀(f:Nat)(st:List Int)(c:Nat)(lo r:List Int)(m b:Nat),eL f st t c=S (lo,S A9,b)->D tk n m (lo++r) (i+1) j->∃m',D tk n m' (st++r) i j
 |0,_,_,_,_,_,_,h,_=>by simp[eL]at h
 |f+1,[],_,_,_,_,_,h,_=>by simp[eL]at h
 |f+1,s::q,c,lo,r,m,b,h,o=>by
  by_cases l:s<100
  ·obtain⟨rfl,e,_⟩:=sj h l;have e:decide (s=t)=A9:=by simpa using e.symm
   exact⟨m+1,.tok l (by rw[a];exact(aG e).symm) g o⟩
  ·rcases kL h (by omega) with⟨u,d⟩|⟨_,_,d,_⟩
   ·obtain⟨m',p⟩:=ai4 a g f _ _ lo r m b d o;exact⟨m'+1,.exp (r:=q++r) (by omega) g (by rw[a];exact u) (by rw[a,<-cH];exact p)⟩
   ·simp at d
theorem abH{j:Nat}(b:(tk i).k=t)(c:i<n):∀(st:List Int),(feedL st t).2=A9->D tk n m (feedL st t).1 (i+1) j->∃m',D tk n m' st i j
 |[],h,_=>by simp[feedL]at h
 |s::r,h,a=>by
  by_cases f:s<100
  ·rw[jb f]at h a;exact⟨m+1,.tok f (by rw[b];exact(aG h).symm) c a⟩
  ·by_cases e:(xE s t).1=[]/\(xE s t).2=A9
   ·rw[lH (by omega) e]at h a;obtain⟨m',d⟩:=abH b c r h a;exact⟨m'+1,.exp (by omega) c (by rw[b];exact e.2) (by rw[b,e.1];exact d)⟩
   ·rw[feedL,aa f,aa e]at h a;split at h
    ·rename_i q l o g;have p:l=A9:=h;subst p;rw[g]at a;exact ai4 b c 8 [s] 0 q r m o g a
    ·simp at h
theorem aq8:∀(ts:List Tk)(st f:List Int)(i m j:Nat),Fd st ts f->(∀q T,ts[q]?=S T->tk (i+q)=T)->i+ts.length<=n->D tk n m f (i+ts.length) j->∃m',D tk n m' st i j
 |[],st,f,i,m,j,h,_,_,g=>by cases h;exact⟨m,g⟩
 |T::ts,st,f,i,m,j,h,k,r,g=>by
  cases h with
  |cons a b c d e=>
   rw[bi]at r g;obtain⟨m',o⟩:=aq8 ts _ f (i+1) m j e (fun q l p=>by rw[show i+1+q=i+(q+1) by omega];exact k (q+1) l (by simpa using p)) (by omega) (by rw[show i+1+ts.length=i+(ts.length+1) by omega];exact g);exact abH (by rw[show tk i=T from k 0 T rfl]) (by omega) st d o
end
def No6(st:List Int):Prop:=∀x∈st,x≠6/\x<=133
theorem alJ:((List.range 34).all fun s=>(List.range 78).all fun t=>(xE ((s:Int)+100) ((t:Int)+1)).1.all fun x=>decide (x≠6)||!(xE ((s:Int)+100) ((t:Int)+1)).2)=A9:=by decide+kernel
theorem apk{s:Int}(i:100<=s)(j:s<=133)(k:1<=t)(l:t<=78)(h:(xE s t).2=A9):No6 (xE s t).1:=by
 have e:=List.all_eq_true.1 alJ (s-100).toNat (by rw[ix];omega);have a:=List.all_eq_true.1 e (t-1).toNat (by rw[ix];omega);have f:(((s-100).toNat:Nat):Int)+100=s:=by omega
 have g:(((t-1).toNat:Nat):Int)+1=t:=by omega
 rw[f,g]at a;refine fun d c=>⟨?_,(acj i j k l).1 d c⟩;have b:=List.all_eq_true.1 a d c;rw[h]at b;simpa using b
theorem LG(j:1<=t)(k:t<=78):∀(f:Nat)(st:List Int)(c:Nat)(lo:List Int)(b:Nat),No6 st->eL f st t c=S (lo,S A9,b)->No6 lo/\t≠6
 |0,_,_,_,_,_,h=>by simp[eL]at h
 |f+1,[],_,_,_,_,h=>by simp[eL]at h
 |f+1,s::q,c,lo,b,g,h=>by
  have i:No6 q:=fun a hx=>g a (cL _ hx);have n:=g s (bB ..);by_cases l:s<100
  ·obtain⟨rfl,d,_⟩:=sj h l;have d:decide (s=t)=A9:=by simpa using d.symm
   have:=aG d;exact⟨i,by omega⟩
  ·rcases kL h (by omega) with⟨m,e⟩|⟨_,_,e,_⟩
   ·refine LG j k f _ _ lo b (fun a hx=>?_) e;rcases List.mem_append.1 hx with hx|hx
    ·exact apk (by omega) n.2 j k m a hx
    ·exact i a hx
   ·simp at e
theorem ai5(e:1<=t)(f:t<=78):∀(a:List Int),No6 a->(feedL (a++[6]) t).2=A9->(t=6/\(feedL (a++[6]) t).1=[])\/(t≠6/\∃b,(feedL (a++[6]) t).1=b++[6]/\No6 b)
 |[],_,h=>by
  rw[ep,jb (by omega)]at h⊢;exact .inl ⟨(aG h).symm,rfl⟩
 |s::a,i,h=>by
  have d:No6 a:=fun c hx=>i c (cL _ hx);have j:=i s (bB ..);rw[eC]at h⊢;by_cases o:s<100
  ·rw[jb o]at h⊢;have:=aG h;exact .inr ⟨by omega,a,rfl,d⟩
  ·by_cases hx:(xE s t).1=[]/\(xE s t).2=A9
   ·rw[lH (by omega) hx]at h⊢;exact ai5 e f a d h
   ·obtain⟨k,b,l,g,_⟩:=uA (by omega) j.2 e f hx;rw[lI (by omega) hx g]at h⊢;have p:b=A9:=h;subst p;obtain⟨m,n⟩:=LG e f 8 [s] 0 k l (fun c hx=>by rw[List.mem_singleton.1 hx];exact j) g;refine .inr ⟨n,k++a,by rw[cH],fun c hx=>?_⟩;rcases List.mem_append.1 hx with hx|hx
    ·exact m c hx
    ·exact d c hx
theorem ai6:∀(ts:List Tk)(a:List Int)(c:List Int),No6 a->Fd (a++[6]) ts c->∃b,c=b++[6]/\No6 b
 |[],a,c,d,h=>by cases h;exact⟨a,rfl,d⟩
 |T::ts,a,c,d,h=>by
  cases h with
  |cons g i j k f=>
   rcases ai5 g i a d k with⟨e,_⟩|⟨_,b,e,l⟩
   ·exact absurd e j
   ·rw[e]at f;exact ai6 ts b c l f
theorem apl{toks:List Tk}(h:gL s=(toks,st, -1))(o:(feedL st 6).2=A9):∃(m:Nat) (f:Fo) (e:Int),toks.length=m+1/\zJ toks m=⟨6,(s.size:Nat),(s.size:Nat),e,0,⟨#[]⟩⟩/\P (zJ toks) (m+1) .stats 0 f m/\∀q,q<m->(zJ toks q).k≠6:=by
 obtain⟨a,e,c,l⟩:=Ed s _ _ _ _ _ toks st h;rw[ep]at c;have ad:No6 [100]:=fun an J=>by rw[List.mem_singleton.1 J];omega
 obtain⟨v,C,G⟩:=ai6 a [100] st ad l;have H:toks.length=a.length+1:=by rw[c];simp
 have p:zJ toks a.length=⟨6,(s.size:Nat),(s.size:Nat),e,0,⟨#[]⟩⟩:=IA (by rw[c,fy (ae _),eD];rfl);have E:(feedL st 6).1=[]:=by
  rw[C]at o⊢;rcases ai5 (by omega) (by omega) v G o with⟨_,g⟩|⟨g,_⟩
  ·exact g
  ·exact absurd rfl g
 have u:∀q b,a[q]?=S b->zJ toks q=b:=fun q b d=>IA (by rw[c,ia (List.getElem?_eq_some_iff.1 d).1];exact d);have r:∀i,(zJ toks i).k<100/\(i<a.length->(zJ toks i).k≠6):=fun i=>by
  rcases Nat.lt_trichotomy i a.length with g|g|g
  ·rw[u i _ (aE g)];have:=ams l (oe g);exact⟨by omega,fun _=>this.2.2⟩
  ·rw[g,p];exact⟨by simp,fun g=>by omega⟩
  ·unfold zJ;rw[aK,gE (by omega)];exact⟨by simp[zTk],fun g=>by omega⟩
 obtain⟨K,w⟩:=abH (tk:=zJ toks) (n:=a.length+1) (t:=6) (i:=a.length) (j:=a.length+1) (m:=0) (by rw[p]) (by omega) st o (by rw[E];exact .nil);obtain⟨ak,x⟩:=aq8 (tk:=zJ toks) (n:=a.length+1) a _ st 0 K _ l (fun q b d=>by rw[gq];exact u q b d) (by omega) (by rw[gq];exact w);obtain⟨L,al,k,y,z,_⟩:=D.split x [100] [6] rfl;obtain⟨B,af,am,A,_⟩:=z.toks;have ag:=A.nils;obtain rfl:k=a.length:=by omega
 obtain⟨f,F⟩:=(akH (n:=a.length+1) (fun i=>(r i).1) L).stats y (Nat.lt_succ_self _) (.inr B);exact⟨a.length,f,e,H,p,F,fun q I=>(r q).2 I⟩
theorem aq9(i:s.size<=65536){toks:List Tk}(h:gL s=(toks,st, -1))(g:(feedL st 6).2=A9):∃m a b,PF s toks m a b:=by
 obtain⟨m,a,b,c,d,e,f⟩:=apl h g;exact⟨m,a,b,aqj i h c d e f⟩
theorem zF(s:ByteArray):∀(f:Nat)(st:List Int)(p:Nat)(l:Int)(b:List Tk),¬0<=(ov s f st p l b).2.2->(ov s f st p l b).2.2= -1
 |0,st,p,l,b,h=>by simp[ov]at h
 |f+1,st,p,l,b,h=>by
  rw[ov]at h⊢;split
  ·rfl
  ·rename_i e;rw[aa e]at h;split
   ·rename_i c;rw[ab c]at h;split
    ·rename_i a;rw[ab a]at h;exact zF s f _ _ _ _ h
    ·rename_i a;rw[aa a]at h;exact zF s f _ _ _ _ h
   ·rename_i c;rw[aa c]at h;split
    ·rename_i a;rw[ab a]at h;split
     ·rename_i d;rw[ab d]at h;exact zF s f _ _ _ _ h
     ·rename_i d;rw[aa d]at h;exact absurd (by simp) h
    ·rename_i a;rw[aa a]at h;exact absurd (by simp) h
theorem ai7(s:ByteArray)(h:¬0<=(gL s).2.2):(gL s).2.2= -1:=zF s _ _ _ _ _ h
theorem ai8(s:ByteArray):∃c a ns,Out s c a ns:=by
 by_cases j:65536<s.size
 ·exact⟨_,_,_,.big j⟩
 by_cases b:0<=(gL s).2.2
 ·exact⟨_,_,_,.at_ (by omega) b (by unfold jt;rw[ab b])⟩
 by_cases e:(feedL (gL s).2.1 6).2=A9
 ·obtain⟨⟨i,l,k⟩,d⟩:∃g,gL s=g:=⟨_,rfl⟩;rw[d]at b e;have f:=ai7 s (by rw[d];exact b);rw[d]at f;simp only at f b e;subst f;obtain⟨n,g,m,h⟩:=aq9 (by omega) d e;exact⟨_,_,_,.ok (toks:=i) (by omega) (by unfold jt;rw[d,aa (by simp),ab e]) h⟩
 ·exact⟨_,_,_,.at_ (z:=(s.size:Nat)) (by omega) (by omega) (by unfold jt;rw[aa b,aa e])⟩
section
variable {s y : ByteArray} {k n : Int} {x : ByteArray}
theorem apm(a:Iv y k n x)(o:k≠7)(w:1<=k){toks:List Tk}(t:gL s=(toks,st, -1)){q:Nat}(r:m<=s.size)
  (e:∃f h,∀g,ov (oJ s y) (g+m) [100,6] (blk (oJ s y) ((oJ s y).size+1) 0) 1 []=ov (oJ s y) g st (blk (oJ s y) ((oJ s y).size+1) q) f h)
  (l:blk (oJ s y) ((oJ s y).size+1) q=blk (oJ s y) ((oJ s y).size+1) (s.size+1)):
  ((feedL st k).2=A9->(jt (oJ s y)).2= -1\/(jt (oJ s y)).2=((oJ s y).size:Nat))/\((feedL st k).2=B0->(jt (oJ s y)).2=(wrongF (oJ s y) (s.size+1) (pu st):Nat)):=by
 obtain⟨f,h,e⟩:=e;have v:=zt (s:=s) (y:=y);have u:=a.pos;have e:=e ((oJ s y).size-m-1+2);rw[show(oJ s y).size-m-1+2+m=(oJ s y).size+1 by omega,l,ak6 a]at e;have d:=aoi (s:=s) (y:=y) |>.rd a.pos a.ok a.en
 rw[a.ki,a.nu,a.tx]at d;have p:oI (oJ s y) (s.size+1)=k:=by unfold oI;rw[d];rfl
 have j:wF st k=feedL st k:=by unfold wF;rw[ab (by omega)]
 have b:gL (oJ s y)=_:=e;rw[ov,aa (by omega),p,aa o,j,d]at b;simp only[iK]at b;have i:blk (oJ s y) ((oJ s y).size+1) (s.size+1+y.size)=(oJ s y).size:=by
  rw[wn _ _ (by omega) (by rw[D8];decide),wo _ _ (by omega)];omega
 constructor
 ·intro c;rw[ab c,i,ov,ab (ae _)]at b;unfold jt;rw[b];simp only;rw[aa (by omega)];split
  ·exact .inl rfl
  ·exact .inr rfl
 ·intro c;rw[aa (by rw[c];simp)]at b;unfold jt;rw[b];simp only;rw[ab (by omega)]
theorem Out.code{c a:Int}(h:Out s c a ns)(g:s.size<=65536):(c≠1↔(jt s).2= -1)/\(c=1->a=(jt s).2):=by
 cases h with
 |big h=>omega
 |at_ h f d=>rw[d];exact⟨⟨fun b=>absurd rfl b,fun b=>by simp only at b;omega⟩,fun _=>rfl⟩
 |ok h d e=>
  rw[d];unfold okC;split
  ·exact⟨⟨fun _=>rfl,fun _=>by omega⟩,fun b=>by omega⟩
  ·exact⟨⟨fun _=>rfl,fun _=>by omega⟩,fun b=>by omega⟩
theorem ai9:NoL [100,6]:=by intro b a;simp at a;omega
theorem ash(I:ie s≠[])(J:s.size+2<=65536):(∀{c a:Int}{ns:List Nd},Out s c a ns->(c≠1↔6∈ie s))/\
  ((vv (scR (s++⟨#[32,55]⟩))).length=(vv (scR s)).length\/
   ∀{y:ByteArray}{k n:Int}{x:ByteArray},Iv y k n x->k≠7->1<=k->k<=78->s.size+y.size+2<=65536->∀{c a:Int}{ns:List Nd},Out (oJ s y) c a ns->((c≠1\/a=(s.size:Nat)+(y.size:Nat)+2)↔k∈ie s)):=by
 obtain⟨A,d,f⟩:∃A d,gL s=(A,d, -1):=by
  have h:¬0<=(gL s).2.2:=fun h=>I (by unfold ie;rw[aa (by omega),ab h]);exact⟨_,_,by rw[<-zF s _ _ _ _ _ h];rfl⟩
 have E:ie s=pu d:=by unfold ie;rw[f,aa (by omega)];rfl
 rw[E];constructor
 ·intro c a ns l;rw[(l.code (by omega)).1,pu,zr];unfold jt;rw[f];simp only;rw[aa (by omega)];by_cases h:(feedL d 6).2=A9
  ·rw[ab h];simp[h]
  ·rw[aa h];simp[h]
 obtain⟨b,z,o,ao,C,F⟩:=ahr s (s.size+1) [100,6] 0 1 [] (aF _) f;have u:=o.bd;have ad:=C ai9;rcases ak4 s s.size z (by omega) u.2.1 u.2.2 with w|w
 ·refine .inl ?_;have an:(s++⟨#[32,55]⟩).size=s.size+2:=by rw[ax];rfl
  have q:BG (s++⟨#[32,55]⟩) s:=by
   have t:aq (s++⟨#[32,55]⟩) s.size=32:=by rw[ib,aa (by omega),eD];rfl
   exact⟨⟨fun m G=>by rw[gq,ib,ab G],by rw[gq,t];decide⟩,t⟩
  have ak:=w _ q (fun m al am=>by
   rw[ib,aa (by omega)];rcases(show m-s.size=0\/m-s.size=1 by omega) with h|h<;>rw[h]<;>decide)
  obtain⟨L,H⟩:=o.sc q 1;have i:=H (s.size+2-b+1);have j:=o.sc0 1 (s.size-b);have B:za (s++⟨#[32,55]⟩) (s.size+2-b+1) z L=(A9,0,[]):=by rw[za,ab (by omega)]
  rw[show s.size+2-b+1+b=(s++⟨#[32,55]⟩).size+1 by omega,B]at i;rw[show s.size-b+b+1=s.size+1 by omega]at j;have af:scR (s++⟨#[32,55]⟩)=za (s++⟨#[32,55]⟩) ((s++⟨#[32,55]⟩).size+1) 0 1:=by unfold scR;rw[aa (by omega)]
  have ag:scR s=za s (s.size+1) 0 1:=by unfold scR;rw[aa (by omega)]
  unfold vv;rw[af,ag,ab i.2,ab j.1,i.1,j.2];rfl
 ·refine .inr fun {y k n x} p K v ar ap {c a ns} l=>?_;have r:=apm p K v f (by omega) (F _ ac6) (w _ ac6);have J:=zt (s:=s) (y:=y);have e:=l.code (by omega);rw[pu,zr];by_cases h:(feedL d k).2=A9
  ·refine⟨fun _=>⟨v,by omega,h⟩,fun _=>?_⟩;by_cases c1:c=1
   ·rcases r.1 h with g|g
    ·exact absurd c1 (e.1.2 g)
    ·right;rw[e.2 c1,g];omega
   ·exact .inl c1
  ·have h:(feedL d k).2=B0:=by simpa using h
   have g:=r.2 h;have av:=aqg (s:=s) p ad h;have c1:c=1:=by
    rcases Decidable.em (c=1) with c1|c1
    ·exact c1
    ·have:=e.1.1 c1;omega
   have:=e.2 c1;rw[h];simp[c1];omega
end
theorem alK(h:IF s (gL s) z)(a:s.size<=65536):ie s=[]:=by
 unfold ie;rw[aa (by omega),ab h.bad]
theorem aja{toks:List Tk}{a:List Int}(h:gL s=(toks,a, -1))(b:s.size<=65536):ie s=pu a:=by
 unfold ie;rw[aa (by omega),h,aa (by simp)]
theorem I5{fn:Func}{p:Tmp}(h:fn.results=#[.cell p 24])(tmps:Array B1)(w:B3)(g:Nat)(a:Option Addr)(n c:Nat)(d:tmps.getD p undef= B6 (S ⟨g,0,U⟩))(b:w.heap[g]?=S (Ax #[O a n c] 24 (0,0))):(results fn tmps).run R w= .ok (O a n c) w:=by
 have e:tmps[p]?.getD undef= B6 (S ⟨g,0,U⟩):=by simpa using d
 have f:w.cell? ⟨g,0,U⟩=S (O a n c):=by rw[au _ _ _ _ _ _ b];rfl
 simp[results,h,e,asAddr];go_simp
theorem I6(w:B3)(s:ByteArray)(bb:s.size<=9223372036854775807)(B:Fy w)(a9:12<=w.heap.size)(af:B7)(fr:Nat×Nat)(t:w.heap[1]?=S (Ax Hr af fr)):
  B4 R 5 #[Z s] w fun e w'=>∃a c,e= A0 (O a (ie s).length c)/\w'.ownsRow w.heap.size 3 1 (O a (ie s).length c) (ie s).length ((ie s).map (C2 Y))/\A2 w.heap.size w w':=by
 have p:=(ah w.heap.size w).alloc (ae _) (Ax #[O U 0 0] 24 (0,0));have G:(w.alloc (Ax #[O U 0 0] 24 (0,0))).heap[w.heap.size]?=S (Ax #[O U 0 0] 24 (0,0)):=ay w _;have a4:(w.alloc (Ax #[O U 0 0] 24 (0,0))).heap.size=w.heap.size+1:=by simp
 by_cases ao:65536<s.size
 ·have av:ie s=[]:=by unfold ie;rw[ab ao]
  rw[av];have ap:(65536:Int)<(s.size:Int):=by omega
  go_enter_defers Tryz.func5,Tryz.ntmps5
  go_wp21
  exact⟨_,I5 rfl _ _ w.heap.size U 0 0 rfl G,U,0,rfl,cE _ _ _ _,p⟩
 ·have ap:¬(65536:Int)<(s.size:Int):=by omega
  have ar:=az t;have K:=zg (w.alloc (Ax #[O U 0 0] 24 (0,0))) af fr ((p.block _ ar).trans t);obtain⟨g,u⟩:∃g,ie s=g:=⟨_,rfl⟩;rw[u];have m:Ce (ie s=g/\Fy w):=⟨u,B⟩;clear u B t;go_enter_defers Tryz.func5,Tryz.ntmps5
  go_wp2_with (go_at_call 16;fail);refine K.mono ?_;rintro e ag ⟨o,rfl,z,L,n⟩;rw[a4]at z L n;have q:=p.trans (n.mono (by omega));have am:GQ ag (w.heap.size+1) o (w.heap.size+1) [100,6]:=⟨z,L,by decide,by decide⟩;have J:=zy ag (w.heap.size+1) o (w.heap.size+1) s am (m.2.below q (ae _)) (by omega) (by omega);have H:=(n.block w.heap.size (by omega)).trans G;clear K;go_wp2_with (go_at_call 17;fail);refine J.mono ?_;rintro e l ⟨(⟨ad,bf,bh,be,bj,E,a2,rfl,_,an,_,_,i⟩|⟨ak,a3,rfl,i⟩)⟩
  ·have j:=q.trans (i.mono (by omega));have x:=FH l (w.heap.size+1) o (w.heap.size+1) ad an;have a0:mo ad 78=g:=by rw[a2.nm 78 (ae _),<-m.out.1,aja E (by omega)];rfl
   rw[a0]at x;have d:=(i.block w.heap.size (by omega)).trans H;clear J E;go_wp2_with (go_at_call 18;fail);refine x.mono ?_;rintro e h ⟨a,c,rfl,F,y⟩;have al:=j.trans (y.mono j.size);have k:=(y.block w.heap.size (az d)).trans d;have a7:=dt k;have a8:h.frozen? ⟨w.heap.size,0,U⟩=B0:=bI _ _ _ _ _ k;have bd:=az d;obtain⟨b,v⟩:∃b,g.length=b:=⟨_,rfl⟩;rw[v]at F⊢;clear x;go_wp21
   have I:(h.setCell ⟨w.heap.size,0,U⟩ (O a b c)).heap[w.heap.size]?=S (Ax #[O a b c] 24 (0,0)):=aL _ _ 0 _ _ _ k;have A:A2 w.heap.size w (h.setCell ⟨w.heap.size,0,U⟩ (O a b c)):=al.setCell (ae _) _;have a1:(h.setCell ⟨w.heap.size,0,U⟩ (O a b c)).ownsRow w.heap.size 3 1 (O a b c) b (g.map (C2 Y)):=mL (kI (a:=⟨w.heap.size,0,U⟩) F (by show w.heap.size<l.heap.size;omega) _) (by omega);refine vK (f:=15) (args:=#[B6 (S ⟨w.heap.size,0,U⟩)]) (by simp) (by simp[go_sem]) ?_;refine(aoo ⟨w.heap.size,0,U⟩ _).mono ?_;rintro e a5 a6 ⟨rfl,rfl,rfl⟩;have r:=(ah (h.setCell ⟨w.heap.size,0,U⟩ (O a b c)).heap.size (h.setCell ⟨w.heap.size,0,U⟩ (O a b c))).alloc (ae _) (Ax #[X Y 0] 51 (0,0));refine⟨_,I5 rfl _ _ w.heap.size a b c rfl ((r.block _ (az I)).trans I),a,c,by rw[v],by rw[v];exact bJ a1 r,A.trans (r.mono A.size)⟩
  ·have C:g=[]:=by rw[<-m.out.1];exact alK a3 (by omega)
   have j:=q.trans (i.mono (by omega));have d:=(i.block w.heap.size (by omega)).trans H;refine vK (f:=15) (args:=#[B6 (S ⟨w.heap.size,0,U⟩)]) (by simp) (by simp[go_sem]) ?_;refine(aon ⟨w.heap.size,0,U⟩ (O U 0 0) ak l (dt d) (bI _ _ _ _ _ d) (az d)).mono ?_;rintro e a5 a6 ⟨rfl,rfl,rfl⟩;have k:((l.alloc (Ax #[X Y ak] 51 (0,0))).setCell ⟨w.heap.size,0,U⟩ (O U 0 0)).heap[w.heap.size]?=S (Ax #[O U 0 0] 24 (0,0)):=aL _ _ 0 _ _ _ ((cC _ _ _ (az d)).trans d);exact⟨_,I5 rfl _ _ w.heap.size U 0 0 rfl k,U,0,by rw[C];rfl,by rw[C];exact cE _ _ _ _,(j.alloc j.size _).setCell (ae _) _⟩
open Go.Lib (strCells strCells_length wpList_append_own_string)
theorem E9(a b:ByteArray):strCells (a++b)=strCells a++strCells b:=by
 unfold strCells;rw[oa,Cg,eB]
theorem ae8{base a:Nat}{T:ByteArray}(b:w.ownsRow base 5 1 (O (S ⟨g,0,U⟩) n a) n (strCells T)):
  (convert 22 9 (O (S ⟨g,0,U⟩) n a)).run R w= .ok (Z T) w:=by
 have c:strCells T=B8 (xx T.data.toList):=by
  unfold strCells B8 xx;rw[List.map_map];rfl
 rw[c]at b;rw[oA b,Ah]
theorem By(k:Int)(w:B3):B4 R 68 #[X Y k] w fun e w'=>e= A0 (.bool (opn k))/\w'=w:=by
 by_cases b:k=46\/k=47\/k=40\/k=44\/k=10\/k=25
 ·rcases b with rfl|rfl|rfl|rfl|rfl|rfl;all_goals
   go_in;go_wp2;go_ret;exact⟨rfl,rfl⟩
 ·have c:(k==46)=B0:=by rw[bH];omega
  have d:(k==47)=B0:=by rw[bH];omega
  have f:(k==40)=B0:=by rw[bH];omega
  have g:(k==44)=B0:=by rw[bH];omega
  have h:(k==10)=B0:=by rw[bH];omega
  have i:(k==25)=B0:=by rw[bH];omega
  by_cases j:60<k
  ·have a:opn k=A9:=by unfold opn;exact bv (by omega)
   rw[a];clear b a;go_in;go_wp2;go_ret;exact⟨rfl,rfl⟩
  ·have a:opn k=B0:=by unfold opn;exact aD (by omega)
   rw[a];clear b a;go_in;go_wp2;go_ret;exact⟨rfl,rfl⟩
section
variable {E : Bs} {W w w' : World} {y : Int}
theorem ajb(h:Cu E W y)(o:y<=800000000):
  B4 R 69 #[cV E] W fun e w'=>∃s:ByteArray,e= A0 (Z s)/\(s.size<=5/\uT s<=6)/\Cu E w' (y+1)/\Kb W w'/\A2 E.base W w':=by
 have k:=h.lt;have j:=h.lo;have c:=aw fun (m:Obj)=>jK (h.below (bG W m) k) 7 (by decide) (by decide);go_in;go_wp2_with fail;refine(c _).mono ?_;rintro e w1 ⟨a,rfl,p,d,b,f⟩;have g:=b.blk (ay W _) (by decide);have n:=fun l=>au w1 W.heap.size l _ _ _ g;have i:=iF d ((Kb.of_below (bG W _)).trans b) (((bG W _).mono j.2).trans f);clear d b f g c;rcases(show a=0\/a=1\/a=2\/a=3\/a=4\/a=5\/a=6 by omega) with rfl|rfl|rfl|rfl|rfl|rfl|rfl;all_goals
  go_wp2_with fail;go_ret;exact⟨_,rfl,⟨by decide,by decide⟩,i⟩
theorem alL{f c n k g d o n2:Nat}{a e:B1}{p x2:List B1}(l:w.ownsRow f c n a k p)(m:w.ownsRow g d o e n2 x2)(j:c≠d):a.ownBlock=U\/a.ownBlock≠e.ownBlock:=by
 rcases m.2 with⟨b,_⟩|⟨t,r,s,b,_,i,_⟩
 ·rw[b];cases h:a.ownBlock with
  |none=>exact .inl rfl
  |some q=>exact .inr (by simp[Value.ownBlock])
 ·right;rw[b];exact ll l i (dz j)
structure Lo (E:Bs) (W w:B3) (y:Int) (v:B1) (t:ByteArray) (tv:B1) (ts:List Tk):Prop where
 cu:Cu E w y
 out:w.ownsRow E.base 5 1 v t.size (strCells t)
 tok:w.ownsRow E.base 49 6 tv ts.length (ul ts)
 bel:A2 E.base W w
variable {v tv : Value} {t : ByteArray} {ts : List Tk}
theorem Lo.kb(h:Lo E W w y v t tv ts)(c:Cu E w' z)(a:Kb w w')(b:A2 E.base w w'):Lo E W w' z v t tv ts:=
 ⟨c,a.row h.out (by decide),a.row h.tok (by decide),h.bel.trans b⟩
theorem Lo.below(h:Lo E W w y v t tv ts)(a:A2 w.heap.size w w'):Lo E W w' y v t tv ts:=
 h.kb (h.cu.below a h.cu.lt) (Kb.of_below a) (a.mono h.cu.lo.2)
theorem Lo.app{n:Array Oper}{p:List Oper}{o:Oper}{a:Act}{Q:Exit->Act->B3->Prop}(h:Lo E W w y v t tv ts)(s:ByteArray)(m:Nat)(ag:s.size<=m)(ak:t.size+m<=4000000)(u:o.guard=U)(l x:Operand)
  (z:o.op= .call {callee:= .builtin .append,args:=#[l,x],argTypes:=#[22,9]}) (C:a.eval l=v) (F:a.eval x= .string s)
  (k:∀f w1,Lo E W w1 y f (t++s) tv ts->(t++s).size<=t.size+m->(∀(b:Nat)(cs:Array B1)(e:B7)(fr:Nat×Nat),w.heap[b]?=S (.cells cs e fr)->e≠5->w1.heap[b]?=S (.cells cs e fr))->wpList R n Q p (a.put o.dst f) w1):wpList R n Q (o::p) a w:=by
 obtain⟨G,H,I,J,K⟩:=dD Tryz.info5;refine wpList_append_own_string _ u l x 22 9 z E.base 5 G Tryz.underlying22 Tryz.underlying9 H I J K _ _ _ C h.out s F (by unfold maxLen;omega) (by omega) h.cu.lo.2 ?_;intro f q A d _;have j:A2 E.base w q:=(ah _ w).grown d h.cu.lo.2 (fun k c=>(h.out.lt k c).1);obtain⟨L,ad,af,g,r⟩:=h.cu.cur;refine k f q ⟨⟨⟨h.cu.lo.1,bg h.cu.lo.2 j.size⟩,h.cu.hl,h.cu.code.below j,L,ad,af,(d.block _ g.lt (fun i=>ll h.out g (by decide) i.symm)).trans g,r⟩,by rw[ax,E9];exact A,h.tok.kept d (alL h.tok h.out (by decide)),h.bel.trans j⟩ (by rw[ax];omega) (fun b cs e fr c B=>(d.block _ (ai c) (fun i=>ll h.out c B i.symm)).trans c)
end
end Go.Proofs.YtnlhhmlcjbohbaaGreatDoor
namespace Go.Proofs.YtnlhhmlcjbohbaaGreatDoor
open Go.Lib (strCells strCells_length)
open Go.RowKit Go.Maps Go.WideMaps
variable{T:Tk}{W w:World}{g i m n tab:Nat}{ns:List Nd}{s:ByteArray}{st:List Int}{t z:Int}
structure TkO (n:Nat) (ts:List Tk):Prop where
 each:∀T∈ts,0<=T.f/\T.f<=T.t/\T.t<=(n:Int)
 next:ts.Pairwise fun a b=>a.t<=b.f
theorem adx(s:ByteArray):∀(f:Nat)(st:List Int)(p:Nat)(l:Int)(a:List Tk),p<=s.size->TkO s.size a->(∀T∈a,T.t<=(p:Int))->TkO s.size (ov s f st p l a).1
 |0,st,p,l,a,_,_,_=>⟨fun T hT=>(by cases hT),.nil⟩
 |f+1,st,p,l,a,F,h,i=>by
  have g:∀(c:Tk)(q b:Nat),c.f=(p:Int)->c.t=(q:Int)->p<=q->q<=s.size->q<=b->TkO s.size (a++[c])/\∀T∈a++[c],T.t<=(b:Int):=fun c q b k m B C E=>by
   refine⟨⟨fun T hT=>?_,List.pairwise_append.2 ⟨h.next,List.pairwise_singleton _ _,fun r v A d=>?_⟩⟩,fun T hT=>?_⟩
   ·rcases List.mem_append.1 hT with hT|hT
    ·exact h.each T hT
    ·rw[List.mem_singleton.1 hT,k,m];omega
   ·rw[List.mem_singleton.1 d,k];exact i r v
   ·rcases List.mem_append.1 hT with hT|hT
    ·have:=i T hT;omega
    ·rw[List.mem_singleton.1 hT,m];omega
  have z:∀b,p<=b->∀T∈a,T.t<=(b:Int):=fun b o T hT=>by have:=i T hT;omega
  have d:∀q,q<=s.size->q<=blk s (s.size+1) q/\blk s (s.size+1) q<=s.size:=fun q y=>jm s (s.size+1) q y;rw[ov];split
  ·rename_i o;exact(g ⟨6,(s.size:Nat),(s.size:Nat),l,0,⟨#[]⟩⟩ s.size s.size (by show((s.size:Nat):Int)=_;omega) rfl (by omega) (by omega) (by omega)).1
  ·rename_i o;split
   ·rename_i u;have j:=iA s p (by omega) (KE s p u).1;have e:=d _ j.2.1;split
    ·have:=g ⟨5,(p:Nat),((rdI s p).a:Nat),l,(rdI s p).n,(rdI s p).x⟩ (rdI s p).a (blk s (s.size+1) (rdI s p).a) rfl rfl (by omega) (by omega) (by omega);exact adx s f _ _ _ _ e.2 this.1 this.2
    ·exact adx s f _ _ _ _ e.2 h (z _ (by omega))
   ·split
    ·split
     ·rename_i w;have j:=iA s p (by omega) w;have e:=d _ j.2.1;have:=g ⟨oI s p,(p:Nat),((rdI s p).a:Nat),l,(rdI s p).n,(rdI s p).x⟩ (rdI s p).a (blk s (s.size+1) (rdI s p).a) rfl rfl (by omega) (by omega) (by omega);exact adx s f _ _ _ _ e.2 this.1 this.2
     ·exact⟨fun T hT=>(by cases hT),.nil⟩
    ·exact⟨fun T hT=>(by cases hT),.nil⟩
theorem ajc(s:ByteArray):TkO s.size (jt s).1:=by
 have b:TkO s.size []:=⟨fun c a=>(by cases a),.nil⟩;unfold jt;split
 ·exact b
 split
 ·exact adx s _ _ _ _ _ (jm s (s.size+1) 0 (aF _)).2 b (fun c a=>by cases a)
 ·exact b
theorem ady{n:Int}:∀(l:List Tk)(lo:Int),l.Pairwise (fun a b=>a.f<b.f)->(∀T∈l,lo<=T.f/\T.f<=n)->lo<=n+1->(l.length:Int)<=n+1-lo
 |[],lo,_,_,h=>by simp;omega
 |T::r,lo,j,e,h=>by
  have k:=e T bB;obtain⟨g,i⟩:=List.pairwise_cons.1 j;have:=ady (n:=n) r (T.f+1) i (fun c d=>by have:=g c d;have:=e c (cL _ d);omega) (by omega);rw[bi];simp;omega
theorem LH(s:ByteArray):(jt s).1.length<=s.size+1:=by
 have e:=ajc s;have g:(jt s).1.Pairwise fun c d=>c.f<d.f:=by
  unfold jt;split
  ·exact .nil
  split
  ·exact(adq s (s.size+1) [100,6] (blk s (s.size+1) 0) 1 [] (jm s (s.size+1) 0 (aF _)).2 .nil (fun b a=>by cases a)).1
  ·exact .nil
 have:=ady (n:=(s.size:Int)) _ 0 g (fun b a=>by have:=e.each b a;omega) (by omega);omega
theorem TkO.at_{ts:List Tk}(h:TkO n ts){a:Tk}(g:ts[i]?=S T)(j:ts[i+1]?=S a):T.t<=a.f:=by
 obtain⟨d,b⟩:=List.getElem?_eq_some_iff.1 g;obtain⟨e,c⟩:=List.getElem?_eq_some_iff.1 j;rw[<-b,<-c];exact(List.pairwise_iff_getElem.1 h.next) i (i+1) d e (by omega)
section
variable {E : Bs} {W w : World} {y : Int} {v tv : Value} {t : ByteArray} {ts : List Tk}
theorem Lo.conv(h:Lo E W w y v t tv ts):(convert 22 9 v).run R w= .ok (Z t) w:=by
 rcases bq h.out with⟨b,rfl⟩|⟨d,c,rfl⟩
 ·have a:t=Br:=by
   have:t.data=#[]:=Array.eq_empty_of_size_eq_zero b;cases t;simp_all;first|rfl|done
  rw[a];exact yy w
 ·exact ae8 h.out
theorem Lo.cells{a:Option Addr}{c:Nat}(h:Lo E W w y v t (O a n c) ts)(j:ts.length=n)(e:ts[i]?=S T):∃g,a=S ⟨g,0,U⟩/\w.cell? ⟨g,i*6,U⟩=S (X Y T.k)/\w.cell? ⟨g,i*6+1,U⟩=S (X Y T.f)/\w.cell? ⟨g,i*6+2,U⟩=S (X Y T.t)/\w.cell? ⟨g,i*6+3,U⟩=S (X Y T.l)/\w.cell? ⟨g,i*6+4,U⟩=S (X Y T.n)/\w.cell? ⟨g,i*6+5,U⟩=S (Z T.x):=by
 subst j;have r:i<ts.length:=(List.getElem?_eq_some_iff.1 e).1;rcases bq h.tok with⟨q,_⟩|⟨g,o,d⟩
 ·omega
 ·have p:=d;cases d;have k:=h.tok;refine⟨g,rfl,?_⟩;have c:∀b,b<6->w.cell? ⟨g,i*6+b,U⟩=(cTk T)[b]?:=fun b m=>by rw[k.cellAt (i*6+b) (by omega),ID ts i b T e m]
  exact⟨c 0 (by omega),c 1 (by omega),c 2 (by omega),c 3 (by omega),c 4 (by omega),c 5 (by omega)⟩
end
theorem w5t{t p:ByteArray}(a:T.k=5)(h:uT t+wTk s T<=n)(b:uT p<=10):uT (t++p)<=n:=by
 rw[vh];have:wTk s T=10:=by unfold wTk;rw[aa (by omega),ab a]
 omega
theorem w7t{t a p:ByteArray}(h:uT t+uT a+10<=n)(b:uT p<=10):uT (t++a++p)<=n:=by
 rw[vh,vh];omega
theorem ajd(s:ByteArray)(ts:List Tk)(i:Nat):I2 s (ts.take i)<=I2 s ts:=by
 have:I2 s ts=I2 s (ts.take i)+I2 s (ts.drop i):=by unfold I2;rw[<-List.sum_append,<-eB,vD]
 omega
theorem ara{t:ByteArray}{ts:List Tk}(h:uT t<=I2 s (ts.take i))(a:I2 s ts<=n):uT t<=n:=by
 have:=ajd s ts i;omega
theorem apn{p:Bs}{y:Int}(h:Cu p W y)(eb:y<=30000000)(s:ByteArray)(cr:s.size<=65536):B4 R 30 #[cV p,Z s] W fun e w'=>∃t:ByteArray,e= A0 (Z t)/\(t.size<=1048576/\uT t<=uK 0 (dF s))/\Cu p w' 40000000/\A2 p.base W w':=by
 have r:=zx W s cr;have av:=ajc s;have bA:(jt s).1.length<=65537:=by have:=LH s;omega
 have a0:=aiB s;unfold TkP at r;generalize (jt s).1=g at r av bA a0;generalize (jt s).2=ek at r;obtain⟨m,L⟩:=aA g.length;rw[L]at r bA;go_in;go_wp2_with fail;refine r.mono ?_;rintro e w1 ⟨be,bl,rfl,bD,i⟩;have cp:=h.lo;have ca:Lo p W w1 y (O U 0 0) ⟨#[]⟩ (O be m bl) g:=⟨h.below i h.lt,cE _ _ _ _,by rw[L];exact lA bD (fun ck _ ds dx=>⟨rfl,by omega⟩),i.mono cp.2⟩;have j:=iF L av a0;clear r bD i L av a0;go_wp2_with fail;go_loopw [7,20] (fun cF a2 wr=>∃(a:Nat) (t:ByteArray) (C:Int),a2= X Y a/\a<=m/\Lo p W wr (y+3*a) cF t (O be m bl) g/\0<=C/\(t.size:Int)<=C+10*a/\(∀b,g[a]?=S b->C<=b.f)/\C<=65536/\Ce (uT t<=I2 s (g.take a))) (fun _ a2 _=>m-(Ck a2).toNat)
 case atStart=>exact⟨0,⟨#[]⟩,0,rfl,aF _,by simpa using ca,by decide,by decide,fun b l=>(j.2.1.each b (cG l)).1,by decide,aF _⟩
 case round=>
  obtain⟨a,t,C,rfl,d3,c,d6,d7,ct,d8,ak⟩:=hrel;by_cases d1:a<m
  ·obtain⟨b,l⟩:∃b,g[a]?=S b:=⟨_,aE (by have:=j.1;omega)⟩;have d0:=j.2.1.each b (cG l);have bd:Ce (uT t+wTk s b<=I2 s (g.take (a+1))):=by
    rw[iw,l];show _<=I2 s (g.take a++[b]);rw[Cz];have:=ak.out;show _<=_;omega
   have d9:=ct b l;obtain⟨ck,rfl,bn,cf,cg,dd,df,dg⟩:=c.cells j.1 l;have d2:(0:Int)<=(a:Int):=by omega
   have cn:(a:Int)<(m:Int):=by omega
   have ad:∀ap,g[a+1]?=S ap->b.t<=ap.f:=fun ap cl=>j.2.1.at_ l cl;have d5:=c.out.1;by_cases ar:b.k=6
   ·rw[ar]at bn;have cy:=fun n=>(c.below (bG wr n)).conv;have bb:=aw fun n=>c.below (bG wr n);go_wp2_with fail;go_ret;exact⟨t,rfl,⟨by omega,ara ak j.2.2⟩,(bb _).cu.wide,(bb _).bel⟩
   have dq:(b.k==6)=B0:=by simpa using ar
   obtain⟨q,bt⟩:=gl (show 0<=b.f by omega);obtain⟨o,bE⟩:=gl (show 0<=b.t by omega);rw[bt]at cf;rw[bE]at cg;have bw:q<=o/\o<=s.size:=by omega
   have cm:(s.extract q o).size<=o-q:=by rw[ik];omega
   by_cases K:b.k=5
   ·rw[K]at bn;have x:=aw fun (b4 cB:Obj)=>jK (((c.below (bG wr b4)).below (bG (wr.alloc b4) cB)).cu) 6 (by decide) (by decide);go_wp2_with fail;refine(x _ _).mono ?_;rintro e c7 ⟨u,rfl,ec,a7,G,bf⟩;have cb:=((c.below (bG wr _)).below (bG (wr.alloc _) _)).kb a7 G bf;have bk:=G.blk (((bG (wr.alloc _) _).block wr.heap.size (by simp)).trans (ay wr _)) (by decide);have a3:=G.blk (ay (wr.alloc _) _) (by decide);rw[dr]at a3;have cq:=fun a=>au c7 (wr.heap.size+1) a _ _ _ a3;clear x a7 G bf a3;rcases(show u=0\/u=1\/u=2\/u=3\/u=4\/u=5 by omega) with rfl|rfl|rfl|rfl|rfl|rfl;all_goals
     go_wp2_with (at_builtin;refine cb.app _ 5 (by decide) (by omega) rfl _ _ rfl rfl rfl ?_;intro cI a5 d cw w;have J:=w _ _ _ _ bk (by decide);have b1:=fun a=>au a5 wr.heap.size a _ _ _ J);clear cq bk w;refine eH (By _ _) ?_;go_wp2_with fail;go_roundw
     case rel=>exact⟨a+1,_,b.t,by go_num,by omega,⟨d.cu.wide,d.out,d.tok,d.bel⟩,by omega,by omega,ad,by omega,w5t K bd (by decide)⟩
     case measure=>simp[Ck];omega
   ·have dn:(b.k==5)=B0:=by simpa using K
    have br:=fun n=>c.below (bG wr n);have bs:=fun ch=>ay wr (Ax ch 49);have af:=dC br bs;clear br bs;go_wp2_with (at_builtin;refine(af.1 _).app (s.extract q o) (o-q) cm (by omega) rfl _ _ rfl rfl rfl ?_;intro cI a5 d cw w;have J:=w _ _ _ _ (af.2 _) (by decide);have b1:=fun a=>au a5 wr.heap.size a _ _ _ J);clear w af;have ag:=aw (anI s bw.1 bw.2);have b0:wTk s b=uR s q o+beK b.k:=by
     unfold wTk;rw[aa ar,aa K,bt,bE];rfl
    have al:=dC bd.out b0;clear b0;refine eH (By _ _) ?_;cases i:opn b.k
    case false=>
     have F:Ce (beK b.k=6):=by show _=_;unfold beK;rw[i];rfl
     clear i;have B:=ajb d.cu (by omega);go_wp2_with fail;refine B.mono ?_;rintro e c9 ⟨a4,rfl,⟨a1,cv⟩,v,z,A⟩;have ao:=d.kb v z A;clear B v z A;go_wp2_with (at_builtin;refine ao.app a4 5 a1 (by omega) rfl _ _ rfl rfl rfl ?_;intro c6 da f cx b9);go_roundw
     case rel=>exact⟨a+1,_,b.t,by go_num,by omega,⟨f.cu.wide,f.out,f.tok,f.bel⟩,by omega,by omega,ad,by omega,by show _<=_;rw[vh,vh,ag.out];have:=al.out;have:=F.out;omega⟩
     case measure=>simp[Ck];omega
    case true=>
     have F:Ce (beK b.k=10):=by show _=_;unfold beK;rw[i];rfl
     clear i;have b3:=jK d.cu 4 (by decide) (by decide);go_wp2_with fail;refine b3.mono ?_;rintro e E ⟨b7,rfl,ee,a8,am,bh⟩;have H:=d.kb a8 am bh;have ce:=am.blk J (by decide);have ea:=fun a=>au E wr.heap.size a _ _ _ ce;clear b3 a8 am bh b1;by_cases bo:b7=0
     ·subst bo;have x:=aw fun (n:Obj)=>jK ((H.below (bG E n)).cu) 3 (by decide) (by decide);go_wp2_with fail;refine(x _).mono ?_;rintro e c8 ⟨a6,rfl,ef,a9,an,bj⟩;have cc:=(H.below (bG E _)).kb a9 an bj;have cz:=an.blk (ay E _) (by decide);have d4:=fun a=>au c8 E.heap.size a _ _ _ cz;clear x a9 an bj;rcases(show a6=0\/a6=1\/a6=2 by omega) with rfl|rfl|rfl;all_goals
       go_wp2_with (at_builtin;refine cc.app _ 5 (by decide) (by omega) rfl _ _ rfl rfl rfl ?_;intro eh ei I eg dc);go_roundw
       case rel=>exact⟨a+1,_,b.t,by go_num,by omega,⟨I.cu.wide,I.out,I.tok,I.bel⟩,by omega,by omega,ad,by omega,w7t (by rw[ag.out];have:=al.out;have:=F.out;omega) (by decide)⟩
       case measure=>simp[Ck];omega
     ·have dk:(b7==0)=B0:=by simpa using bo
      have B:=ajb H.cu (by omega);go_wp2_with fail;refine B.mono ?_;rintro e c9 ⟨a4,rfl,⟨a1,cv⟩,v,z,A⟩;have ao:=H.kb v z A;clear B v z A;go_wp2_with (at_builtin;refine ao.app a4 5 a1 (by omega) rfl _ _ rfl rfl rfl ?_;intro c6 da f cx b9);go_roundw
      case rel=>exact⟨a+1,_,b.t,by go_num,by omega,⟨f.cu.wide,f.out,f.tok,f.bel⟩,by omega,by omega,ad,by omega,by show _<=_;rw[vh,vh,ag.out];have:=al.out;have:=F.out;omega⟩
      case measure=>simp[Ck];omega
  ·have cn:¬(a:Int)<(m:Int):=by omega
   have cy:=c.conv;go_wp2_with fail;go_ret;exact⟨t,rfl,⟨by omega,ara ak j.2.2⟩,c.cu.wide,c.bel⟩
end Go.Proofs.YtnlhhmlcjbohbaaGreatDoor
namespace Go.Proofs.YtnlhhmlcjbohbaaGreatDoor
open Go.RowKit Go.Maps Go.WideMaps
variable{T:Tk}{W w:World}{g i m n tab:Nat}{ns:List Nd}{s:ByteArray}{st:List Int}{t z:Int}
structure Mp (w0:B3) (p1:Addr) (n c1:Nat) (ns:List Nd):Prop where
 nds:gw w0 (.slice (S p1) n c1) ns
 cap:D5 w0 p1 ns
 len:ns.length=n
 big:n<=3000
 sz:Szd ns
 n0:∀i:Int, -9223372036854775808<=(nodeI ns i).n
 n1:∀i:Int,(nodeI ns i).n<=9223372036854775807
abbrev vT(b:Addr)(n a:Nat):B1:= O (S b) n a
def OkB(a:B3)(h:Addr)(n j:Nat)(ns:List Nd)(f:Nat):Prop:=
 ∀(k tab:Nat)(i:ByteArray),k<f->(nodeI ns k).k=7->tab+f<=500000->∀{d c:Option Addr}{m g b e:Nat},NdR a h k (nodeI ns k) d m g c b e->Wr a (vT h n j) tab 115 #[pW a,jo (nodeI ns k) (O d m g) (O c b e),Z i] (zm ns f k i tab)
structure OkA (w0:B3) (p1:Addr) (n c1:Nat) (ns:List Nd) (f:Nat):Prop where
 e:∀tab:Nat,tab+f<=500000->OkE w0 (vT p1 n c1) ns (fun k=>AB ns f k tab) tab f
 s:aqe w0 (vT p1 n c1) ns (fun k t=>uk ns f k t) f
 b:OkB w0 p1 n c1 ns f
theorem OkA.zero(e:B3)(d:Addr)(n c:Nat)(ns:List Nd):OkA e d n c ns 0:=
 ⟨fun _ _ b _ _ _ a=>absurd a (by omega),fun b _ _ _ a=>absurd a (by omega),fun b _ _ a=>absurd a (by omega)⟩
section
variable {w0 : World} {p1 : Addr} {n c1 : Nat} {ns : List Nd} (M : Mp w0 p1 n c1 ns) {f : Nat} (A : OkA w0 p1 n c1 ns f)
theorem Wr.expr0(a:OkA w0 p1 n c1 ns f){q:Nat}(j:tab+f<=500000)(i:q<f)(g:gF (nodeI ns q).k=A9):Wr w0 (vT p1 n c1) tab 113 #[pW w0,X Y (q:Int),X Y 0] (AB ns f q tab):=
 fun b c d h=>(a.e tab j).zero q b c i g d h
theorem Wr.blk(a:Mp w0 p1 n c1 ns)(e:OkA w0 p1 n c1 ns f){q:Nat}(r:tab+f<500000)(x:q<=f)(b:q<ns.length)(m:(nodeI ns q).k=1):Wr w0 (vT p1 n c1) tab 110 #[pW w0,X Y (q:Int)] (F8 (fun k t=>uk ns f k t) (nodeI ns q).ks tab):=by
 intro g h i o;obtain⟨p,w⟩:=ma (a.sz.nb q b);have j:=Lm p m;refine aeB w0 _ ns _ f e.s a.nds (by rw[a.len];have:=a.big;omega) q b (fun y u=>?_) (by omega) tab r g h i o;obtain⟨d,l,rfl⟩:=oz u;obtain⟨v,c⟩:=ij (a.sz.nb q b) b d l;have:=ah4 _ 0 j d (by omega) (by omega);rw[c.id]at this⊢;exact⟨v,rfl,by have:=c.lt;omega,c.len,this⟩
theorem Wr.exs(b:OkA w0 p1 n c1 ns f)(l:tab+f<=500000){a:List Int}(h:ahx ns f a)(j:a.length<=1048576)(v:B1)(m:dm w0 v a):Wr w0 (vT p1 n c1) tab 112 #[pW w0,v] (ft (a.map fun k=>AB ns f k tab)):=
 fun c d g i=>aeG w0 _ v ns _ tab f (b.e tab l) a m h j c d g i
theorem Wr.bod(a:Mp w0 p1 n c1 ns)(g:OkA w0 p1 n c1 ns f){q:Nat}(p:tab+f<500000)(u:q<=f)(b:q<ns.length)(m:(nodeI ns q).k=36):Wr w0 (vT p1 n c1) tab 114 #[pW w0,X Y (q:Int)] (KJ ns (fun k t=>uk ns f k t) (nodeI ns q) tab):=by
 obtain⟨o,s⟩:=ma (a.sz.nb q b);obtain⟨i,d,j,l⟩:=ah5 o m;obtain⟨w,c⟩:=ij (a.sz.nb q b) b 0 (by omega);obtain⟨_,_,_,_,_,_,h⟩:=zn a.nds a.cap b;have:=a.len;have:=a.big;have:=c.lt;unfold KJ aez;rw[c.id]at d⊢;refine abg a.nds a.cap a.len (by omega) (by omega) (by omega) h (.bod j ?_ i c.at_ (Wr.blk a g p (by omega) c.len d));rcases l with e|e
 ·exact .inl ⟨by omega,aa (by omega)⟩
 ·refine .inr ⟨e,?_⟩;rw[ab e];cases (nodeI ns q).nm with
  |nil=>exact .inl ⟨rfl,rfl⟩
  |cons r v=>exact .inr ⟨Nat.succ_pos _,rfl⟩
theorem uf(e:Mp w0 p1 n c1 ns)(d:i<ns.length)(q:i<=f){a:Nat}(h:∀j,a<=j->j<a+m->gF (nodeI ns (dG (nodeI ns i) j)).k=A9)(r:a+m<=(nodeI ns i).ks.length):ahx ns f (((nodeI ns i).ks.drop a).take m):=by
 intro s o;obtain⟨j,l,c⟩:=il o;rw[jx,im]at l;rw[List.getElem_take,List.getElem_drop]at c;obtain⟨p,b⟩:=ij (e.sz.nb i d) d (a+j) (by omega);have g:=En (N:=nodeI ns i) (j:=a+j) (by omega);rw[g,b.id]at c;have:=h (a+j) (by omega) (by omega);rw[b.id]at this;exact⟨p,c.symm,by have:=b.lt;omega,b.len,this⟩
end
section
variable {w0 : World} {p1 : Addr} {n c1 : Nat} {ns : List Nd} {f : Nat}
theorem Wr.bas(a:Mp w0 p1 n c1 ns)(b:OkA w0 p1 n c1 ns f){q:Nat}(m:tab+f<=500000)(j:q<f)(l:q<ns.length)(h:gF (nodeI ns q).k=A9):Wr w0 (vT p1 n c1) tab 162 #[pW w0,X Y (q:Int)] (bsB ns (fun k=>AB ns f k tab) q):=
 fun c d g i=>ahj w0 _ ns _ tab f (b.e tab m) a.nds (by rw[a.len];have:=a.big;omega) q j l h c d g i
theorem LI(c:Mp w0 p1 n c1 ns)(h:OkA w0 p1 n c1 ns f)(tab i:Nat)(bw:tab+f<500000)(bd:i<=f)(y:i<ns.length)(bt:gF (nodeI ns i).k=A9)(bf:Int)(o:¬jH (nodeI ns i).k (nodeI ns i).op<bf):
  Wr w0 (vT p1 n c1) tab 113 #[pW w0,X Y (i:Int),X Y bf] (prE ns (fun q=>AB ns f q tab) (fun q t=>uk ns f q t) (nodeI ns i) tab):=by
 have b0:=c.big;have b5:=c.len;obtain⟨s,b3⟩:=ma (c.sz.nb i y);have p:=fun u F=>ij (c.sz.nb i y) y u F;have a3:(nodeI ns i).k=31->1<=(nodeI ns i).op/\(nodeI ns i).op<=18:=fun br=>(nG s).2.2 br;have b1:=aG bt;have b6:=D3 (nodeI ns i).k (nodeI ns i).op;obtain⟨bl,m,bo,bk,bj,bn,C⟩:=zn c.nds c.cap y;have d:=@ahw w0 p1 n c1 ns c.nds c.cap c.len (by omega) tab i (by omega) _ (by omega) a3 _ _ _ _ _ _ C;have a4:∀a9:ByteArray,((nodeI ns i).k=28\/(nodeI ns i).k=29\/(nodeI ns i).k=31)->Wr w0 (vT p1 n c1) tab 160 #[pW w0,jo (nodeI ns i) (O bl m bo) (O bk bj bn),Z a9,X Y (jH (nodeI ns i).k (nodeI ns i).op)] (Ir ns (fun q=>AB ns f q tab) (nodeI ns i) a9 (jH (nodeI ns i).k (nodeI ns i).op)):=by
  intro a9 b2;obtain⟨g,e,x⟩:=nG s;obtain⟨a,b⟩:=p 0 (by omega);obtain⟨I,l⟩:=p 1 (by omega);have j:=mJ 2 0 e 0 (by omega) (by omega);have r:=mJ 2 0 e 1 (by omega) (by omega);have:=ac7 (nodeI ns i).k (nodeI ns i).op;have A:=b.lt;have bh:=l.lt;unfold Ir;rw[b.id]at j⊢;rw[l.id]at r⊢;exact ak8 (fun J K=>x (by omega)) C g b.at_ l.at_ (by omega) (fun v d w z=>h.e tab (by omega) a _ v d (by omega) j (by unfold F7;split<;>omega) (by unfold F7;split<;>omega) w z) (fun v d w z=>h.e tab (by omega) I _ v d (by omega) r (by omega) (by omega) w z)
 unfold prE;by_cases J:(nodeI ns i).k=28
 ·rw[ab J];exact d (.inf (.inl ⟨J,rfl⟩) o (a4 _ (by omega)))
 rw[aa J];by_cases K:(nodeI ns i).k=29
 ·rw[ab K];exact d (.inf (.inr ⟨K,rfl⟩) o (a4 _ (by omega)))
 rw[aa K];by_cases L:(nodeI ns i).k=31
 ·rw[ab L];exact ahv (by omega) (by omega) a3 C L o (Lq (a3 L)) (a4 _ (by omega))
 rw[aa L];by_cases ad:(nodeI ns i).k=30
 ·rw[ab ad];obtain⟨g,e,x⟩:=oK s;obtain⟨a,b⟩:=p 0 (by omega);have A:=b.lt;have b8:=b.len;unfold unB unS;rw[b.id]at e⊢;have ap:=aw fun v d w z=>h.e tab (by omega) a 11 v d (by omega) e (by omega) (by omega) w z;refine d (.nod (.inl ⟨ad,rfl⟩) o ?_);have:=x ad;by_cases a6:(nodeI ns i).op=21
  ·rw[ab a6];exact d (.un (.inl ⟨a6,rfl⟩) g b.at_ ap)
  rw[aa a6];by_cases a7:(nodeI ns i).op=22
  ·rw[ab a7];exact d (.un (.inr (.inl ⟨a7,rfl⟩)) g b.at_ ap)
  rw[aa a7];by_cases a8:(nodeI ns i).op=20
  ·rw[ab a8];exact d (.un (.inr (.inr ⟨a8,rfl⟩)) g b.at_ ap)
  rw[aa a8];refine Ec c.nds c.cap c.len (by omega) C (.neg g b.at_ (show _=_ by omega) ⟨by omega,?_⟩ ap);unfold aqc;by_cases G:(nodeI ns a).k=30
  ·by_cases ar:(nodeI ns a).op=19
   ·exact .inl ⟨G,.inl ⟨ar,by rw[G,ar];rfl⟩⟩
   ·exact .inl ⟨G,.inr ⟨ar,by simp[ar]⟩⟩
  ·exact .inr ⟨G,by simp[G]⟩
 rw[aa ad];by_cases a0:(nodeI ns i).k=32
 ·rw[ab a0];obtain⟨g,e,x⟩:=nG s;obtain⟨a,b⟩:=p 0 (by omega);obtain⟨I,l⟩:=p 1 (by omega);have j:=mJ 2 0 e 0 (by omega) (by omega);have r:=mJ 2 0 e 1 (by omega) (by omega);have A:=b.lt;have bh:=l.lt;rw[b.id]at j⊢;rw[l.id]at r⊢;exact d (.idx a0 o g b.at_ l.at_ (Wr.bas c h (by omega) (by omega) b.len j) (Wr.expr0 h (by omega) (by omega) r))
 rw[aa a0];by_cases a1:(nodeI ns i).k=33
 ·rw[ab a1];obtain⟨g,e,x⟩:=oK s;obtain⟨a,b⟩:=p 0 (by omega);have A:=b.lt;rw[b.id]at e⊢;exact d (.fld a1 o g b.at_ (Wr.bas c h (by omega) (by omega) b.len e))
 rw[aa a1];by_cases al:(nodeI ns i).k=34
 ·rw[ab al];obtain⟨g,e⟩:=IG s al;obtain⟨a,b⟩:=p 0 (by omega);have j:=mJ _ 0 e 0 (by omega) (by omega);have A:=b.lt;have bb:=uf c y bd (a:=1) (m:=(nodeI ns i).ks.length-1) (fun u x bE=>mJ _ 0 e u (by omega) (by omega)) (by omega);rw[dj (by rw[im];exact ae _)]at bb;rw[b.id]at j⊢;exact d (.cal al o g b.at_ (Wr.bas c h (by omega) (by omega) b.len j) fun bD bx=>Wr.exs h (by omega) bb (by rw[im];omega) bD bx)
 rw[aa al];by_cases am:(nodeI ns i).k=35
 ·rw[ab am];have g:=Eh s am;refine d (.nod (.inr (.inl ⟨am,rfl⟩)) o (ae7 c.nds c.cap c.len (by omega) C.ks (by omega) fun b9 bA=>?_));obtain⟨u,F,rfl⟩:=oz bA;obtain⟨H,B⟩:=p u F;have e:=adg _ 0 g u (by omega) (by omega);rw[B.id]at e⊢;refine⟨H,rfl,B.len,?_⟩;obtain⟨be,b4⟩:=ma (c.sz.nb H B.len);have a5:=fun u F=>ij (c.sz.nb H B.len) B.len u F;have b7:=B.lt;unfold Az;by_cases af:(nodeI ns H).k=41
  ·obtain⟨a2,E,bs⟩:=nG be;obtain⟨a,b⟩:=a5 0 (by omega);obtain⟨I,l⟩:=a5 1 (by omega);have j:=mJ 2 0 E 0 (by omega) (by omega);have r:=mJ 2 0 E 1 (by omega) (by omega);have A:=b.lt;have bh:=l.lt;rw[b.id]at j⊢;rw[l.id]at r⊢;exact .inl ⟨af,a2,a,I,_,_,b.at_,l.at_,Wr.expr0 h (by omega) (by omega) j,Wr.expr0 h (by omega) (by omega) r,ab af⟩
  ·obtain⟨a2,E,bs⟩:=oK be;obtain⟨a,b⟩:=a5 0 (by omega);have A:=b.lt;rw[aa af];rw[b.id]at E⊢;refine .inr ⟨a2,a,_,b.at_,Wr.expr0 h (by omega) (by omega) E,?_⟩;by_cases ag:(nodeI ns H).k=42
   ·exact .inl ⟨ag,ab ag⟩
   ·exact .inr ⟨⟨af,ag⟩,aa ag⟩
 rw[aa am];by_cases ao:(nodeI ns i).k=36
 ·rw[ab ao];exact d (.fn ao o (Wr.bod c h bw bd y ao))
 rw[aa ao];by_cases av:(nodeI ns i).k=37
 ·rw[ab av];obtain⟨g,e,x⟩:=oK s;obtain⟨a,b⟩:=p 0 (by omega);have A:=b.lt;rw[b.id]at e⊢;exact d (.one av o g b.at_ (Wr.expr0 h (by omega) (by omega) e))
 rw[aa av];exact d (.nod (.inr (.inr ⟨by omega,rfl⟩)) o fun v d w z=>aeA w0 _ _ _ _ v tab d w (by omega) (c.n0 i) (c.n1 i) (fun _=>abk (c.sz.nb i y)) z)
theorem ae9(a:Mp w0 p1 n c1 ns)(e:OkA w0 p1 n c1 ns f)(w:f<ns.length)(tab:Nat)(B:tab+(f+1)<=500000):OkE w0 (vT p1 n c1) ns (fun k=>AB ns (f+1) k tab) tab (f+1):=by
 intro k l g h x i t u j b;have v:=a.big;have z:=a.len;obtain⟨r,y⟩:=ma (a.sz.nb k (by omega));have q:(nodeI ns k).k=31->1<=(nodeI ns k).op/\(nodeI ns k).op<=18:=fun o=>(nG r).2.2 o;have p:AB ns (f+1) k tab=prE ns (fun d=>AB ns f d tab) (fun d s=>uk ns f d s) (nodeI ns k) tab:=by rw[AB]
 unfold uj at b⊢;simp only[p]at b⊢;by_cases c:jH (nodeI ns k).k (nodeI ns k).op<l
 ·rw[ab c]at b⊢;have A:=D3 (nodeI ns k).k (nodeI ns k).op;obtain⟨_,_,_,_,_,_,m⟩:=zn a.nds a.cap (show k<ns.length by omega);exact ahw a.nds a.cap a.len (by omega) (by omega) (by omega) q m (.par c (LI a e tab k (by omega) (by omega) (by omega) i 0 (by omega))) g h j b
 ·rw[aa c]at b⊢;exact LI a e tab k (by omega) (by omega) (by omega) i l c g h j b
end
section
variable {w0 : World} {p1 : Addr} {n c1 : Nat} {ns : List Nd} {f : Nat}
theorem Ew(a:Mp w0 p1 n c1 ns)(j:OkA w0 p1 n c1 ns f)(tab i:Nat)(A:tab+f<500000)(ag:i<=f)(r:i<ns.length)(I:(nodeI ns i).k=7)(B:ByteArray){an x:Option Addr}{cn v ck:Nat}(e:NdR w0 p1 i (nodeI ns i) an m cn x v ck):
  Wr w0 (vT p1 n c1) tab 115 #[pW w0,jo (nodeI ns i) (O an m cn) (O x v ck),Z B] (D2 ns (fun q=>AB ns f q tab) (fun q t=>uk ns f q t) (fun q w=>zm ns f q w tab) (nodeI ns i) B tab):=by
 have af:=a.big;have am:=a.len;obtain⟨J,al⟩:=ma (a.sz.nb i r);have s:=fun K H=>ij (a.sz.nb i r) r K H;obtain⟨L,ad,y,z,G⟩:=ah9 J I;obtain⟨E,c⟩:=s 0 (by omega);obtain⟨F,b⟩:=s 1 (by omega);have ao:=c.lt;have ap:=b.lt;rw[c.id]at y;rw[b.id]at z;have p:=aw (Wr.expr0 j (tab:=tab) (by omega) (show E<f by omega) y);have o:=aw (Wr.blk a j A (show F<=f by omega) b.len z);have C:=@abg w0 p1 n c1 ns a.nds a.cap a.len (by omega) tab i (by omega) _ (by omega) _ _ _ _ _ _ e;unfold D2;rw[c.id,b.id];rcases aH (nodeI ns i).ks.length 3 with g|g
 ·rw[ab g,show ∀u:ByteArray,u++Br=u from fun u=>ByteArray.append_empty];exact C (.br2 (by omega) c.at_ b.at_ p o)
 ·rw[aa (by omega)];obtain⟨l,d⟩:=s 2 (by omega);have wc:=d.lt;have ar:=d.len;rw[d.id]at G⊢;by_cases h:(nodeI ns l).k=7
  ·rw[ab h];exact Ec a.nds a.cap a.len (by omega) e (.bre (by omega) c.at_ b.at_ d.at_ p o ⟨by omega,h⟩ fun _ _ _ _ _ _ e=>j.b l tab _ (by omega) h (by omega) e)
  ·rw[aa h,<-fh];exact Ec a.nds a.cap a.len (by omega) e (.br3 (by omega) c.at_ b.at_ d.at_ p o ⟨by omega,h⟩ (Wr.blk a j A (show l<=f by omega) d.len (show(nodeI ns l).k=1 by omega)))
theorem aje{N:Nd}(h:N.nm.length=1):N.nm[0]?=S (nm0 N):=by
 unfold nm0;rw[aK,aE (by omega)];rfl
theorem ajf(d:Mp w0 p1 n c1 ns)(h:OkA w0 p1 n c1 ns f)(tab i:Nat)(B:tab+f<500000)(A:i<=f)(r:i<ns.length)(bd:jJ (nodeI ns i).k=A9):
  Wr w0 (vT p1 n c1) tab 71 #[pW w0,X Y (i:Int)] (prS ns (fun q=>AB ns f q tab) (fun q t=>uk ns f q t) (fun _ w=>D2 ns (fun q=>AB ns f q tab) (fun q t=>uk ns f q t) (fun q w=>zm ns f q w tab) (nodeI ns i) w tab) (nodeI ns i) tab):=by
 have be:=d.big;have bj:=d.len;obtain⟨s,bh⟩:=ma (d.sz.nb i r);have v:=fun p a7=>ij (d.sz.nb i r) r p a7;have a6:(nodeI ns i).ks.length<=1048576:=by omega
 obtain⟨_,_,_,_,_,_,a1⟩:=zn d.nds d.cap r;have l:=@abg w0 p1 n c1 ns d.nds d.cap d.len (by omega) tab i (by omega) _ (by omega) _ _ _ _ _ _ a1;have bf:=aG bd;have a4:∀k:Int,k=34->gF k=A9:=fun k al=>by rw[al];rfl
 unfold prS;by_cases H:(nodeI ns i).k=1
 ·rw[ab H];exact l (.blk H (Wr.blk d h B A r H))
 rw[aa H];by_cases G:(nodeI ns i).k=2
 ·rw[ab G];obtain⟨g,b⟩:=ah8 s G;by_cases y:(nodeI ns i).ks=[]
  ·rw[ab y,show ∀C:ByteArray,C++Br=C from fun C=>ByteArray.append_empty];exact l (.let0 b G (by rw[y];rfl))
  ·rw[aa y];have o:=uf d r A (a:=0) (m:=(nodeI ns i).ks.length) (fun p e z=>mJ _ 0 g p (by omega) (by omega)) (by omega);rw[jy,dj (ae _)]at o;exact l (.let1 b G (List.length_pos_iff.2 y) fun x u=>Wr.exs h (by omega) o a6 x u)
 rw[aa G];by_cases K:(nodeI ns i).k=3
 ·rw[ab K];obtain⟨g,b,e⟩:=Ej s K;obtain⟨a,c⟩:=v 0 (by omega);have E:=c.lt;rw[c.id]at b⊢;exact l (.cst K g e (aje e) c.at_ (Wr.expr0 h (by omega) (by omega) b))
 rw[aa K];by_cases L:(nodeI ns i).k=4
 ·rw[ab L];obtain⟨g,b,e⟩:=abm s L;obtain⟨a,c⟩:=v 0 (by omega);have E:=c.lt;rw[c.id]at b⊢;exact l (.fns L g e (aje e) c.at_ (Wr.bod d h B (by omega) c.len b))
 rw[aa L];by_cases ad:(nodeI ns i).k=5
 ·rw[ab ad];obtain⟨g,b,e,z⟩:=aov s ad;obtain⟨m,a9⟩:∃m:Nat,(nodeI ns i).n=(m:Int):=⟨(nodeI ns i).n.toNat,by omega⟩;have bb:(nodeI ns i).n.toNat=m:=by omega
  rw[bb]at e z⊢;have o:=uf d r A (a:=0) (m:=m) (fun p ar av=>amu _ 0 e p (by omega) (by omega)) (by omega);rw[jy]at o;have a5:=uf d r A (a:=m) (m:=(nodeI ns i).ks.length-m) (fun p ar av=>mJ _ m z p (by omega) (by omega)) (by omega);rw[dj (by rw[im];exact ae _)]at a5;exact l (.set ad (by omega) a9 (fun x u=>Wr.exs h (by omega) o (by rw[jx];omega) x u) fun x u=>Wr.exs h (by omega) a5 (by rw[im];omega) x u)
 rw[aa ad];by_cases ao:(nodeI ns i).k=6
 ·rw[ab ao];obtain⟨g,b⟩:=Gi s (by omega);obtain⟨a,c⟩:=v 0 (by omega);have E:=c.lt;rw[c.id]at b⊢;exact l (.one ao g c.at_ (Wr.expr0 h (by omega) (by omega) (a4 _ b)))
 rw[aa ao];by_cases af:(nodeI ns i).k=7
 ·rw[ab af];exact l (.iff af (Ew d h tab i B A r af _ a1))
 rw[aa af];by_cases ag:(nodeI ns i).k=8
 ·rw[ab ag];obtain⟨g,b,e⟩:=Ek s ag;obtain⟨a,c⟩:=v 0 (by omega);obtain⟨ak,j⟩:=v 1 (by omega);have E:=c.lt;have a0:=j.lt;rw[c.id]at b⊢;rw[j.id]at e⊢;exact l (.whl ag g c.at_ j.at_ (Wr.expr0 h (by omega) (by omega) b) (Wr.blk d h B (by omega) j.len e))
 rw[aa ag];by_cases a3:(nodeI ns i).k=9\/(nodeI ns i).k=10
 ·rw[ab a3];by_cases a2:(nodeI ns i).k=10
  ·rw[aa (by omega)];obtain⟨g,b,e,z⟩:=IH s a2;rw[g];have o:=uf d r A (a:=0) (m:=1) (fun p ar av=>by have al:p=0:=(by omega);subst al;exact b) (by omega);rw[jy]at o;obtain⟨ak,j⟩:=v 1 (by omega);have a0:=j.lt;show Wr _ _ _ _ _ (_++_++_++_++_++F8 _ (nodeI ns (dG (nodeI ns i) 1)).ks tab);rw[j.id]at e⊢;exact l (.fr z (.inr ⟨a2,rfl,rfl⟩) g j.at_ (fun x u=>Wr.exs h (by omega) o (by rw[jx];omega) x u) (Wr.blk d h B (by omega) j.len e))
  ·have ap:(nodeI ns i).k=9:=by omega
   rw[ab ap];obtain⟨g,b,e,z⟩:=abn s ap;obtain⟨k,a8⟩:∃k,(nodeI ns i).ks.length=k+1:=⟨(nodeI ns i).ks.length-1,by omega⟩;rw[show(nodeI ns i).ks.length-1=k by omega]at b e⊢;have o:=uf d r A (a:=0) (m:=k) (fun p ar av=>mJ _ 0 b p (by omega) (by omega)) (by omega);rw[jy]at o;obtain⟨ak,j⟩:=v k (by omega);have a0:=j.lt;rw[j.id]at e⊢;exact l (.fr (by omega) (.inl ⟨ap,rfl,by omega⟩) a8 j.at_ (fun x u=>Wr.exs h (by omega) o (by rw[jx];omega) x u) (Wr.blk d h B (by omega) j.len e))
 rw[aa a3];by_cases am:(nodeI ns i).k=11
 ·rw[ab am];exact l (.brk am)
 rw[aa am];by_cases an:(nodeI ns i).k=12
 ·rw[ab an];exact l (.nxt an)
 rw[aa an];by_cases F:(nodeI ns i).k=13
 ·rw[ab F];have g:=aow s F;by_cases y:(nodeI ns i).ks=[]
  ·rw[ab y,show ∀C:ByteArray,C++Br=C from fun C=>ByteArray.append_empty];exact l (.ret0 F (by rw[y];rfl))
  ·rw[aa y];have o:=uf d r A (a:=0) (m:=(nodeI ns i).ks.length) (fun p e z=>mJ _ 0 g p (by omega) (by omega)) (by omega);rw[jy,dj (ae _)]at o;exact l (.ret1 F (List.length_pos_iff.2 y) fun x u=>Wr.exs h (by omega) o a6 x u)
 rw[aa F];by_cases I:(nodeI ns i).k=14
 ·rw[ab I];obtain⟨g,b,e,z⟩:=abo s I;obtain⟨a,c⟩:=v 0 (by omega);obtain⟨ak,j⟩:=v 1 (by omega);have E:=c.lt;have a0:=j.lt;rw[c.id]at b⊢;rw[j.id]at e⊢;exact l (.try_ z I g c.at_ j.at_ (Wr.blk d h B (by omega) c.len b) (Wr.blk d h B (by omega) j.len e))
 rw[aa I];by_cases J:(nodeI ns i).k=15
 ·rw[ab J];obtain⟨g,b⟩:=El s J;obtain⟨a,c⟩:=v 0 (by omega);have E:=c.lt;rw[c.id]at b⊢;exact l (.thr J g c.at_ (Wr.expr0 h (by omega) (by omega) b))
 rw[aa J,ab (by omega)];obtain⟨g,b⟩:=Gi s (by omega);obtain⟨a,c⟩:=v 0 (by omega);have E:=c.lt;rw[c.id]at b⊢;exact l (.dfr (show _=_ by omega) g c.at_ (Wr.expr0 h (by omega) (by omega) (a4 _ b)))
theorem ajg(d:Mp w0 p1 n c1 ns)(c:OkA w0 p1 n c1 ns f)(m:f<ns.length):OkA w0 p1 n c1 ns (f+1):=
 ⟨fun b i=>ae9 d c m b i,
  fun j b e g o p i h a=>by
  simp only[uk]at a⊢;exact ajf d c b j (by omega) (by omega) (by omega) p e g h a,
  fun j b q o l i _ _ _ _ _ _ k e g h a=>by
  simp only[zm]at a⊢;exact Ew d c b j (by omega) (by omega) (by omega) l q k e g h a⟩
theorem okA(a:Mp w0 p1 n c1 ns):∀f,f<=ns.length->OkA w0 p1 n c1 ns f
 |0,_=>OkA.zero w0 p1 n c1 ns
 |f+1,h=>ajg a (okA a f (by omega)) (by omega)
end
open Go.Lib (strCells strCells_length)
theorem I7(T:ByteArray):strCells T=B8 (xx T.data.toList):=by
 unfold strCells B8 xx;rw[List.map_map];rfl
theorem afa{base a:Nat}{T:ByteArray}(b:w.ownsRow base 5 1 (O (S ⟨g,0,U⟩) n a) n (strCells T)):
  (convert 22 9 (O (S ⟨g,0,U⟩) n a)).run R w= .ok (Z T) w:=by
 rw[I7]at b;rw[oA b,Ah]
def nJ(ns:List Nd):ByteArray:=if(dL ns).1=0 then Is ns else⟨#[]⟩
theorem D5.below{a:Addr}{i:Nat}(h:D5 w a ns)(k:gw w (O (S a) n i) ns)(l:A2 w.heap.size w W):D5 W a ns:=by
 intro m b c d g f;obtain⟨p,j,q,o,e⟩:=k.get g;cases j;have:=aj l e.c8;rw[this]at f;obtain rfl:o= O c b.ks.length d:=by simpa using f
 exact h m b c d g e.c8
theorem apo(h:(dL ns).1=0):0<ns.length/\ns.length<=3000/\(nodeI ns ((ns.length:Int)-1)).k=1:=by
 have e:=zq h;have:=e.len;unfold dL at h;by_cases b:jD ns=A9
 ·rw[ab b]at h;exact absurd h (by decide)
 ·have c:jD ns=B0:=by simpa using b
  have d:=jg c;refine⟨by omega,by omega,?_⟩;by_cases a:(ns.getD (ns.length-1) zNd).k=1
  ·unfold nodeI;rw[show((ns.length:Int)-1).toNat=ns.length-1 by omega];rw[aK,aE (by omega)]at a⊢;exact a
  ·exact absurd (.inr (.inr a)) d
theorem Pr.new(a:B3)(b:B1):Pr a b Br 0 (a.alloc (Ax #[b,O U 0 0,X Y 0] 130)):=
 ⟨(ah _ a).alloc (ae _) _,O U 0 0,ay a _,cE _ _ _ _⟩
theorem Fa(w:B3)(f:Addr)(n c:Nat)(ns:List Nd)(h:gw w (O (S f) n c) ns)(b2:D5 w f ns)(am:ns.length=n)(d5:n<=1048576)(cp:∀N∈ns,jC N)(b3:∀N∈ns,amg N):
  B4 R 31 #[.agg #[O (S f) n c]] w fun e w'=>e= A0 (Z (nJ ns))/\A2 w.heap.size w w':=by
 have bE:∀u,A2 w.heap.size w (w.alloc u):=fun u=>(ah _ w).alloc (ae _) u;have o:=CB h b2 b3 am;have bf:=fun u=>abd (w.alloc u) (O (S f) n c) ns (h.below (bE u)) (by omega) cp;obtain⟨bo,a9⟩:=aA ((dL ns).1);obtain⟨k,bA⟩:=aA ((dL ns).2);rw[a9,bA]at bf;have G:=aw a9;clear h cp b3 am a9 bA b2;go_in;go_wp2_with fail;have bn:=ay w (Ax #[O (S f) n c] 34);have c4:(w.alloc (Ax #[O (S f) n c] 34)).heap.size=w.heap.size+1:=dr _ _;refine cJ (bf _) fun w1 A=>?_;have F:=(A.block _ (by omega)).trans bn;have B:A2 w.heap.size w w1:=(bE _).trans (A.mono (by omega));clear bn A bf;by_cases z:bo=0
 ·subst z;have a4:=du F;have d6:=ai F;have cy:((0:Int)!=0)=B0:=rfl;have ag:A2 w1.heap.size w1 (w1.alloc (Ax #[X Y 0,X Y k] 75)):=(ah _ w1).alloc (ae _) _;have l:A2 w.heap.size w (w1.alloc (Ax #[X Y 0,X Y k] 75)):=B.trans (ag.mono B.size);have J:(w1.alloc (Ax #[X Y 0,X Y k] 75)).cell? ⟨w.heap.size,0,U⟩=S (O (S f) n c):=aj ag a4;obtain⟨c9,cl,bh⟩:=apo G.out;have am:=o.2.2.2;obtain⟨b,rfl⟩:∃b,n=b+1:=⟨n-1,by omega⟩;have bb:nodeI ns ((ns.length:Int)-1)=nodeI ns (b:Int):=by congr 1;omega
  rw[bb]at bh;obtain⟨dk,dd,ds,bs,j,bt,I⟩:=zn o.1 o.2.1 (show b<ns.length by omega);have a6:=(I.rd _ (l.trans (((ah _ _).alloc (ae _) (Ax #[O (S f) (b+1) c,O U 0 0,X Y 0] 130)).mono l.size))).c8;have dx:((b:Int)+1)-1=(b:Int):=by omega
  have d7:(0:Int)<=(b:Int):=by omega
  have d8:(b:Int)<(b:Int)+1:=by omega
  have p:Mp (w1.alloc (Ax #[X Y 0,X Y k] 75)) f (b+1) c ns:=by
   refine⟨o.1.below l,o.2.1.below o.1 l,am,by omega,ah7 G,fun cf=>?_,fun cf=>?_⟩;all_goals
    unfold nodeI;rw[aK];cases e:ns[cf.toNat]? with
    |none=>decide
    |some N=>have:=(o.2.2.1 N (cG e)).n;simp only[gj];omega
  have b6:=abp p.sz p.n1 (by omega) (by omega);have a0:=Pr.new (w1.alloc (Ax #[X Y 0,X Y k] 75)) (O (S f) (b+1) c);have a1:=aw a0;have a5:((w1.alloc (Ax #[X Y 0,X Y k] 75)).alloc (Ax #[O (S f) (b+1) c,O U 0 0,X Y 0] 130)).cell? ⟨w.heap.size,0,U⟩=S (O (S f) (b+1) c):=aj ((ah _ _).alloc (ae _) _) J;generalize cB:w1.alloc (Ax #[X Y 0,X Y k] 75)=q at p a1 a0 a5 J a6 l ag;have bl:=okA p ns.length (ae _);obtain⟨b9,cI⟩:=ma (p.sz.nb b (by omega));have b1:=Lm b9 bh;have bd:=I.hL;obtain⟨t,v⟩:=aA ((nodeI ns (b:Int)).ks);obtain⟨d,al⟩:∃d,(t.map fun a=>uk ns ns.length a 0++(⟨#[10]⟩:ByteArray))=d:=⟨_,rfl⟩;have b5:nE ns=jc d:=by unfold nE;rw[bb,v,al]
  have cb:∀x∈t,∃g:Nat,x=(g:Int)/\g<ns.length/\jJ (nodeI ns g).k=A9:=by
   intro x ap;rw[<-v]at ap;obtain⟨cg,cF,rfl⟩:=oz ap;obtain⟨dc,cc⟩:=ij (p.sz.nb b (by omega)) (by omega) cg cF;have:=ah4 _ 0 b1 cg (by omega) (by omega);rw[cc.id]at this⊢;exact⟨dc,rfl,cc.len,this⟩
  have b4:dm q (O bs j bt) t:=by rw[<-v];exact I.ks.below l
  have i:Ce (OkA q f (b+1) c ns ns.length/\dm q (O bs j bt) t/\(∀x∈t,∃g:Nat,x=(g:Int)/\g<ns.length/\jJ (nodeI ns g).k=A9)/\t.length=j/\(t.map fun a=>uk ns ns.length a 0++(⟨#[10]⟩:ByteArray))=d/\nE ns=jc d/\(nE ns).size<=6000000000/\ns.length<=3000/\d.length=j):=⟨bl,b4,cb,by rw[<-v];exact bd,al,b5,b6,cl,by rw[<-al,cA,<-v];exact bd⟩;have d1:j<=200:=by omega
  have ar:=aw l;subst cB;clear bl b9 b1 bd v al b5 cb b4 b6 p a0 I bb c9 cl bh cI F ag B c4 l;go_wp2_with fail;have be:(w1.alloc (Ax #[X Y 0,X Y k] 75)).heap.size=w1.heap.size+1:=dr _ _;generalize w1.alloc (Ax #[X Y 0,X Y k] 75)=q at a1 i ar J a5 a6 be⊢;have a2:=aw be;clear be;go_loopw [25] (fun bk wr=>∃a:Nat,a<=j/\bk= X Y a/\Ce (Pr q (O (S f) (b+1) c) (jc (d.take a)) 0 wr)) (fun bk _=>j-(Ck bk).toNat)
  case atStart=>exact⟨0,by omega,rfl,a1⟩
  case round=>
   clear a5 a6 J a4;obtain⟨a,d2,rfl,y⟩:=hrel;by_cases c0:a<j
   ·obtain⟨x,ao⟩:=co i.2.2.2.1 c0;obtain⟨g,rfl,b7,b8⟩:=i.2.2.1 x (cG ao);obtain⟨dg,rfl,cw⟩:=(i.2.1.below y.bel).get ao;have d4:(a:Int)<(j:Int):=by omega
    have d3:(0:Int)<=(a:Int):=by omega
    have ca:d[a]?=S (uk ns ns.length g 0++⟨#[10]⟩):=by rw[<-i.out.2.2.2.2.1,bK,ao];rfl
    have a7:=AD d a _ ca;have a8:=ac4 d (a+1);have bx:=i.2.2.2.2.2.2.1;rw[i.out.2.2.2.2.2.1]at bx;rw[a7]at a8;simp only[ax]at a8;have ap:(jc (d.take a)).size+((uk ns ns.length g 0).size+1)<=6000000000:=by
     have e:(⟨#[10]⟩:ByteArray).size=1:=rfl;omega
    have E:=i.1.s g 0 (jc (d.take a)) wr b7 b8 (by have:=i.2.2.2.2.2.2.2.1;omega) y (by show _+(uk ns ns.length g 0).size<=_;omega);have br:=aw a7;simp only at E;obtain⟨df,bD⟩:=aA (uk ns ns.length g 0);rw[bD]at E br ap;rw[a2.out]at E;clear a7 a8 bx ao ca bD b7 b8;go_wp2_with fail;refine E.mono ?_;rintro e d9 ⟨rfl,cm,c5⟩;have cq:=aw cm;clear cm c5 cw E;go_wp2_with fail;have ch:=ga q _ _ ⟨#[10]⟩ _ _ cq (by rw[ax];show _+_+1<=_;omega);rw[a2.out]at ch;refine ch.mono ?_;rintro e ea ⟨rfl,bj,c6⟩;rw[fh,<-br.out]at bj;have cr:=aw bj;clear bj c6;go_wp2_with fail;exact⟨⟨a+1,by omega,by go_num,cr⟩,by simp[Ck];omega⟩
   ·obtain rfl:a=j:=by omega
    have ad:d.take a=d:=dj (by rw[i.out.2.2.2.2.2.2.2.2];exact ae _);rw[ad,<-i.out.2.2.2.2.2.1]at y;have a3:A2 w.heap.size w wr:=ar.out.trans (y.bel.mono ar.size);obtain⟨u,af,r⟩:=y.row;have m:Ce (nJ ns=if 65536<(nE ns).size then Br else nE ns):=by show _=_;unfold nJ Is;rw[ab G.out]
    have ce:=i.2.2.2.2.2.2.1;obtain⟨D,L⟩:=aA (nE ns);rw[L]at r m ce;obtain⟨K,C⟩:=aA D.size;rw[C]at r m ce;obtain⟨cu,cx,rfl⟩:=cj r;have da:wr.cell? ⟨q.heap.size,1,U⟩=S (O cu K cx):=by rw[au _ _ _ _ _ _ af];rfl
    rw[a2.out]at da;by_cases b0:65536<K
    ·have H:Ce (nJ ns=Br):=by show _=_;rw[m.out,ab b0]
     have A:(65536:Int)<(K:Int):=by omega
     clear ad L m r af C;go_wp2_with fail;go_ret;exact⟨by rw[H.out];rfl,a3⟩
    ·have H:Ce (nJ ns=D):=by show _=_;rw[m.out,aa b0]
     have A:¬(65536:Int)<(K:Int):=by omega
     rcases bq r with⟨z,e⟩|⟨d0,dq,e⟩
     ·cases e;have cz:D=⟨#[]⟩:=by
       apply oc;have:D.data.size=0:=C;exact Array.eq_empty_of_size_eq_zero this
      have c7:(convert 22 9 (O U 0 0)).run R wr= .ok (Z ⟨#[]⟩) wr:=by kernel_rfl
      clear ad L m r af C;go_wp2_with fail;go_ret;exact⟨by rw[H.out,cz];rfl,a3⟩
     ·cases e;have c7:=afa r;clear ad L m af C;go_wp2_with fail;go_ret;exact⟨by rw[H.out];rfl,a3⟩
 ·have cy:(bo !=0)=A9:=by rw[Ci];exact z
  have a4:=du F;have ct:Ce (nJ ns=⟨#[]⟩):=by show _=_;unfold nJ;rw[aa (by rw[G.out];exact z)]
  clear z;go_wp2_with fail;go_ret;exact⟨by rw[ct.out];rfl,B.trans (((ah _ w1).alloc (ae _) _).mono B.size)⟩
end Go.Proofs.YtnlhhmlcjbohbaaGreatDoor
namespace Go.Proofs.YtnlhhmlcjbohbaaGreatDoor
open Go.RowKit Go.Maps Go.WideMaps
variable{T:Tk}{W w:World}{g i m n tab:Nat}{ns:List Nd}{s:ByteArray}{st:List Int}{t z:Int}
theorem Lw.kcap{lo c:Nat}{a:List Mb}(h:Lw w lo (O (S ⟨g,0,U⟩) n c) a)(o:a.length=n):D5 w ⟨g,0,U⟩ (a.map Mb.N):=fun b N r s e d=>by
 subst o;rw[bK]at e;obtain⟨q,f,rfl⟩:=Option.map_eq_some_iff.1 e;obtain⟨_,_,_,_,_,_,_,_,l⟩:=wh h.row f;have m:(⟨((⟨g,0,U⟩:Addr).add (b*9)).block,((⟨g,0,U⟩:Addr).add (b*9)).off+8,U⟩:Addr)=⟨g,b*9+8,U⟩:=by
  unfold Addr.add;split<;>simp_all
 rw[m,l]at d;have p:=bu d;have i:=(h.each q (cG f)).2;rw[p]at i;rcases i.2 with⟨j,k⟩|⟨v,t,u,j,_,_,k,_⟩
 ·omega
 ·cases j;exact k
theorem zI.small{N:Nd}(h:zI N):jC N:=⟨by have:=h.nm;omega,by have:=h.ks;omega,by have:=h.x.size;omega,fun b a=>by have:=(h.s b a).sz;omega⟩
theorem LJ(ns:List Nd):(nJ ns).size<=65536:=by
 unfold nJ;split
 ·unfold Is;split
  ·decide
  ·omega
 ·decide
theorem LK(a:List Mb)(e:∀y∈a,zI y.N):(uK 0 (dF (nJ (a.map Mb.N))):Int)<=150*(a.length:Int)+8000*(bigs a:Int):=by
 unfold nJ;split
 ·rename_i b;unfold Is;split
  ·show((0:Nat):Int)<=_;omega
  ·obtain⟨h,c,d⟩:=ai0 b (fun N f=>by obtain⟨y,g,rfl⟩:=List.mem_map.1 f;exact e y g);rw[aoz]at d;have:=(c.out 0 (by decide)).1;omega
 ·show((0:Nat):Int)<=_;omega
theorem apq{f:Bs}{y:Int}(h:Cu f W y)(d:y<=10):B4 R 11 #[cV f] W fun e w'=>∃(t:ByteArray) (m:Nat),e= A0 (Z t)/\(t.size<=1048576/\uT t<=39750+8000*m)/\Cu {f with g:=m} w' 40000000/\A2 f.base W w':=by
 have E:=aq4 h d;go_in;go_wp2_with fail;refine E.mono ?_;rintro e w1 ⟨g,F,z,a,rfl,n,J,q,k,p,B⟩;have r:∀c,B4 R 31 #[.agg #[O (S ⟨g,0,U⟩) F z]] (w1.alloc c) fun e w'=>e= A0 (Z (nJ (a.map Mb.N)))/\A2 (w1.alloc c).heap.size (w1.alloc c) w':=fun c=>by
  have v:=bG w1 c;have nd:=q.nds;exact Fa (w1.alloc c) ⟨g,0,U⟩ F z (a.map Mb.N) (nd.below v) ((q.kcap n).below nd v) (by rw[cA,n]) (by omega)
   (fun I b=>by obtain⟨y,d,rfl⟩:=List.mem_map.1 b;exact(k y d).small) (fun I b=>by obtain⟨y,d,rfl⟩:=List.mem_map.1 b;exact(k y d).int)
 have A:=LJ (a.map Mb.N);have l:=LK a k;rw[n]at l;generalize nJ (a.map Mb.N)=P at r A l;obtain⟨m,b⟩:=aA (bigs a);rw[b]at l p;have i:=dC p B;have H:Ce (uK 0 (dF P)<=39750+8000*m):=by show _<=_;omega
 clear E q k p B n J l b;go_wp2_with fail;refine cJ (r _) fun L w=>?_;have o:=(bG w1 _).trans (w.mono (bG w1 _).size);have s:=i.1.below o i.1.lt;have K:=apn s (by decide) P A;have G:=aw (i.2.trans (o.mono i.1.lo.2));clear r w o s;go_wp2_with fail;refine K.mono ?_;rintro e ad ⟨t,rfl,C,u,x⟩;have j:=iF C u x;clear u x C;go_wp2_with fail;go_ret;exact⟨t,m,rfl,⟨j.1.1,by have:=j.1.2;have:=H.out;omega⟩,j.2.1,G.out.trans j.2.2⟩
section
variable {E : Bs} {W : World} {y : Int}
theorem Cu.went{a:B3}(h:Cu E W y)(c:W.grownBy a (S E.cb)){p q r:Int}(f:fj E.cb a E.a0 E.len E.cap p q r)(d:0<=p/\p<=z)(i:0<=r/\r<=3/\(E.g:Int)<=r):Cu E a z/\Kb W a/\A2 E.base W a:=by
 obtain⟨j,k,l,e,_⟩:=h.cur;have b:=oB c h.lo.1 h.lo.2;exact⟨⟨⟨h.lo.1,bg h.lo.2 b.size⟩,h.hl,h.code.below b,p,q,r,f,d.1,d.2,i⟩,Kb.grown c e (.inr (.inr rfl)),b⟩
theorem Cu.long(h:Cu E W y){p q r:Int}(c:fj E.cb W E.a0 E.len E.cap p q r)(b:0<=p/\p<=y)(e:0<=r/\r<3/\(E.g:Int)<=r):Cu {E with g:=E.g+1} (W.setCell ⟨E.cb,3,U⟩ (X Y (r+1))) y/\A2 E.base W (W.setCell ⟨E.cb,3,U⟩ (X Y (r+1))):=by
 have d:=xl (pj W E.cb) 3 (X Y (r+1));have a:=oB d h.lo.1 h.lo.2;exact⟨⟨⟨h.lo.1,bg h.lo.2 a.size⟩,h.hl,h.code.below a,p,q,r+1,c.set3 (r+1),b.1,b.2,by omega,by omega,by show((E.g+1:Nat):Int)<=r+1;omega⟩,a⟩
theorem amD(h:Cu E W y)(k:Int)(v:1<=k)(n:k<=100000)(w:y<=800000000):
  B4 R 13 #[cV E,X Y k] W fun e w'=>∃z:Int,e= A0 (X Y z)/\(0<=z/\z<k)/\Cu E w' (y+2)/\Kb W w'/\A2 E.base W w':=by
 by_cases f:k=1
 ·subst f;go_in;go_wp2;go_ret;exact⟨0,rfl,by decide,h.wide,Kb.refl _,ah _ _⟩
 by_cases g:k<=200
 ·refine(jK h k (by omega) g).mono ?_;rintro e w' ⟨z,rfl,p,a,m,i⟩;exact⟨z,rfl,p,a.wide,m,i⟩
 ·obtain⟨q,s,t,a,r,x,o⟩:=h.cur;refine(Bw k (by omega) n E.cb E.base W E.a0 E.len E.cap q s t h.lo.1 h.lo.2 a h.code r (by omega) h.hl).mono ?_;rintro e w' ⟨z,z0,u,rfl,A,j,l⟩;obtain⟨b,c,d⟩:=h.went (z:=y+2) l j (by omega) o;exact⟨z,rfl,⟨z0,u⟩,b,c,d⟩
theorem ajh(h:Cu E W y)(n:Int)(j:0<=n)(r:n<=100)(u:y<=800000000):
  B4 R 42 #[cV E,X Y n] W fun e w'=>∃s:ByteArray,e= A0 (Z s)/\(s.size:Int)<=n/\Cu E w' (y+100)/\Kb W w'/\A2 E.base W w':=by
 obtain⟨l,rfl⟩:=gl j;obtain⟨m,p,q,d,o,x,k⟩:=h.cur;refine(Ff l (by omega) E.cb E.base W E.a0 E.len E.cap m p q h.lo.1 h.lo.2 d h.code o (by omega) h.hl).mono ?_;rintro e w' ⟨s,t,g,v,B,w,A,f,i⟩;obtain⟨a,b,c⟩:=h.went (z:=y+100) i f (by omega) k;exact⟨s,g,by omega,a,b,c⟩
theorem apr(h:Cu E W y)(f:y<=700000000):
  B4 R 36 #[cV E] W fun e w'=>∃n:Int,e= A0 (X Y n)/\(-9223372036854775808<=n/\n<=9223372036854775807)/\Cu E w' (y+10)/\A2 E.base W w':=by
 have p:=jK h 6 (by decide) (by decide);go_in;go_wp2_with fail;refine p.mono ?_;rintro e w1 ⟨a,rfl,w,k,_,o⟩;have d:=aw o;clear o p h;have i:=jK k 3 (by decide) (by decide);have g:=jK k 12 (by decide) (by decide);have j:=amD k 70000 (by decide) (by decide) (by omega);rcases(show a=0\/a=1\/a=2\/(a≠0/\a≠1/\a≠2) by omega) with rfl|rfl|rfl|⟨q,r,s⟩
 ·clear g j;go_wp2_with fail;refine i.mono ?_;rintro e m ⟨y,rfl,f,b,_,c⟩;have l:IntKind.i64.wrap (9223372036854775807-y)=9223372036854775807-y:=by rw[di];omega
  go_wp2_with fail;go_ret;exact⟨_,rfl,by omega,b.wide,d.out.trans c⟩
 ·clear g j;go_wp2_with fail;refine i.mono ?_;rintro e m ⟨y,rfl,f,b,_,c⟩;have l:IntKind.i64.wrap (-9223372036854775808+y)= -9223372036854775808+y:=by rw[di];omega
  go_wp2_with fail;go_ret;exact⟨_,rfl,by omega,b.wide,d.out.trans c⟩
 ·clear g i;go_wp2_with fail;refine j.mono ?_;rintro e m ⟨y,rfl,f,b,_,c⟩;have l:IntKind.i64.wrap (y-35000)=y-35000:=by rw[di];omega
  go_wp2_with fail;go_ret;exact⟨_,rfl,by omega,b.wide,d.out.trans c⟩
 ·clear j i;have t:(a==0)=B0:=by simpa using q
  have u:(a==1)=B0:=by simpa using r
  have v:(a==2)=B0:=by simpa using s
  go_wp2_with fail;refine g.mono ?_;rintro e m ⟨y,rfl,f,b,_,c⟩;have l:IntKind.i64.wrap (y-3)=y-3:=by rw[di];omega
  go_wp2_with fail;go_ret;exact⟨_,rfl,by omega,b.wide,d.out.trans c⟩
def DrP(b:Bs)(W:B3)(a:Nat)(y:Int)(e:Ending)(c:B3):Prop:=
 ∃(t:ByteArray) (m:Nat),e= A0 (Z t)/\b.g<=m/\uT t+8010*b.g<=a+8010*m/\Cu {b with g:=m} c y/\A2 b.base W c
theorem drp{b:B3}{t:ByteArray}{a:Nat}(e:uT t<=a)(d:Cu E b z)(c:A2 E.base W b):DrP E W a z (A0 (Z t)) b:=⟨t,E.g,rfl,ae _,by omega,d,c⟩
end
section
variable {E : Bs} {W : World} {y : Int}
theorem asi(h:Cu E W y)(a7:y<=700000000):
  B4 R 39 #[cV E] W fun e w'=>∃(s:ByteArray) (m:Nat),e= A0 (Z s)/\((s.size<=9/\m=E.g)\/(Lng s/\m=E.g+1))/\Cu {E with g:=m} w' (y+200)/\A2 E.base W w':=by
 have H:=jK h 6 (by decide) (by decide);go_in;go_wp2_with fail;refine H.mono ?_;rintro e w1 ⟨i,rfl,a9,n,_,w⟩;have a:=dC n w;clear w H h;rcases(show i=0\/i=1\/i=2\/i=3\/i=4\/i=5 by omega) with rfl|rfl|rfl|rfl|rfl|rfl
 ·go_wp2;go_ret;exact⟨_,E.g,rfl,.inl ⟨by decide,rfl⟩,a.1.wide,a.2⟩
 ·have k:=jK n 6 (by decide) (by decide);go_wp2_with fail;refine k.mono ?_;rintro e am ⟨c,rfl,F,f,_,j⟩;have ad:=ajh f c (by omega) (by omega) (by omega);have d:=aw j;clear j k;go_wp2_with fail;refine ad.mono ?_;rintro e bf ⟨s,rfl,a5,J,_,K⟩;go_wp2;go_ret;exact⟨_,E.g,rfl,.inl ⟨by omega,rfl⟩,J.wide,(a.2.trans d).trans K⟩
 ·go_wp2;go_ret;exact⟨_,E.g,rfl,.inl ⟨by decide,rfl⟩,a.1.wide,a.2⟩
 ·have k:=jK n 20 (by decide) (by decide);go_wp2_with fail;refine k.mono ?_;rintro e am ⟨c,rfl,F,f,_,j⟩;have d:=dC f (a.2.trans j);clear j k n;obtain⟨bb,bd,p,z,af,ag,ak,be,al⟩:=f.cur;obtain⟨an,ao,ap,ar,av,a0,a1⟩:=wd z;by_cases G:c=0
  ·subst G;by_cases L:p<3
   ·have o:=f.long z ⟨af,ag⟩ ⟨ak,L,al⟩;have r:=dC o.1 o.2;clear o f;have a6:IntKind.i64.wrap (p+1)=p+1:=by rw[di];omega
    go_wp2_with fail;go_loop [3] (fun q=>∃b:ByteArray,q= Z b/\Ten b.size/\DgT b) (fun q=>6000-amI q)
    case atStart=>exact⟨_,rfl,.inl rfl,aq2⟩
    case round=>
     obtain⟨b,rfl,C,A⟩:=hrel;have l:=aw C;have u:=aw A;clear C A;by_cases B:b.size<4000
     ·go_wp2;go_round
      case rel=>exact⟨_,rfl,Fg l B,u.twice⟩
      case measure=>have a2:=ab8 l.out;show 6000-(b++b).size<6000-b.size;rw[ax];omega
     ·have a3:4001<=b.size:=ab6 l.out B;have a4:b.size<=5120:=ab7 l.out;have I:=jK r.1 3 (by decide) (by decide);go_wp2_with fail;refine I.mono ?_;rintro e bh ⟨c,rfl,F,v,_,x⟩;have t:=dC v ((d.2.trans r.2).trans x);clear v x I;rcases(show c=0\/c=1\/c=2 by omega) with rfl|rfl|rfl;all_goals
       go_wp2;go_ret;exact⟨_,E.g+1,rfl,.inr ⟨u.lng (by omega) (by omega) (by omega),rfl⟩,t.1.wide,t.2⟩
   ·go_wp2;go_ret;exact⟨_,E.g,rfl,.inl ⟨by decide,rfl⟩,d.1.wide,d.2⟩
  ·have a8:(c==0)=B0:=by simp[G]
   go_wp2;go_ret;exact⟨_,E.g,rfl,.inl ⟨by decide,rfl⟩,d.1.wide,d.2⟩
 ·go_wp2;go_ret;exact⟨_,E.g,rfl,.inl ⟨by decide,rfl⟩,a.1.wide,a.2⟩
 ·go_wp2;go_ret;exact⟨_,E.g,rfl,.inl ⟨by decide,rfl⟩,a.1.wide,a.2⟩
theorem aps(s:ByteArray):uT (ey (cD s))=2*(cD s).length:=by
 have d:∀c,c<(ey (cD s)).size->uw (aq (ey (cD s)) c)=2:=fun c b=>by
  rw[rL]at b;rw[uC _ (fun h e=>by have:=so s h e;omega),aE b];have:=so s _ (oe b);unfold uw;simp only[gj];rw[ab (by omega)]
 have g:∀a,a<=(ey (cD s)).size->uS (ey (cD s)) 0 a=2*a:=by
  intro a
  induction a with
  |zero=>intro _;rfl
  |succ a f=>intro i;rw[uS,f (by omega),gq,d a (by omega)];omega
 unfold uT uR;rw[pi,g _ (ae _),rL]
theorem al0(s:ByteArray):(cD s).length<=4*s.size+2:=by
 unfold cD qt;simp only[aB,bi,dH,List.length_flatMap];have:∀a:List UInt8,(a.map fun b=>(esc (b.toNat:Int)).length).sum<=4*a.length:=by
  intro a
  induction a with
  |nil=>exact ae _
  |cons b a e=>simp only[kJ,List.sum_cons,bi];have:=arB (b.toNat:Int);omega
 have c:=this (s.data.toList.take s.size);have d:(s.data.toList.take s.size).length<=s.size:=List.length_take_le _ _;omega
theorem al3(h:Lng s):(cD s).length=s.size+2:=by
 unfold cD qt;have e:s.data.toList.take s.size=s.data.toList:=dj (by rw[eK];exact ae _);have g:s.data.toList.length=s.size:=eK;simp only[aB,bi,dH,List.length_flatMap,e];have:∀b:List UInt8,(∀a∈b,bc (a.toNat:Int)=A9)->(b.map fun a=>(esc (a.toNat:Int)).length).sum=b.length:=by
  intro b
  induction b with
  |nil=>intro _;rfl
  |cons a b j=>
   intro c;have l:=fe (c a bB);have:(esc (a.toNat:Int)).length=1:=by unfold esc;rw[aa (by omega),aa (by omega),aa (by omega),aa (by omega)];rfl
   simp only[kJ,List.sum_cons,bi];rw[j (fun k i=>c k (cL _ i)),this];omega
 rw[this _ (fun a c=>by
  obtain⟨d,f,rfl⟩:=il c;have:=(fL s d s.data.toList[d]).1 (aE f);rw[<-this.2];exact h.dg d this.1),g]
theorem arb(h:Cu E W y)(L:y<=700000000):B4 R 34 #[cV E] W (fun e w'=>∃t:ByteArray,e= A0 (Z t)/\uT t<=84/\Cu E w' (y+200)/\A2 E.base W w'):=by
 have G:=h.lt;have F:=h.lo;have r:=jK h 60 (by decide) (by decide);go_in;go_wp2_with fail;refine r.mono ?_;rintro e w1 ⟨v,rfl,ad,f,_,o⟩;have i:=aw o;clear o r;by_cases l:v=0
 ·subst l;go_wp2_with fail;go_loopw [3] (fun g wr=>∃t:ByteArray,g= Z t/\t.size<=41/\Ce (uT t<=2*t.size)/\Cu E wr (y+1+t.size)/\A2 E.base W wr) (fun g _=>50-amI g)
  case atStart=>exact⟨_,rfl,by decide,by show _<=_;decide,f.wide,i⟩
  case round=>
   obtain⟨t,rfl,J,n,x,q⟩:=hrel;have s:=jK x 3 (by decide) (by decide);have w:=aw q;clear q;go_wp2_with fail;refine s.mono ?_;rintro e u ⟨a,rfl,z,b,_,c⟩;have d:=dC b (w.out.trans c);clear b c s;have K:IntKind.i64.wrap (39+a)=39+a:=by rw[di];omega
   by_cases H:(t.size:Int)<39+a
   ·go_wp2_with fail;go_roundw
    case rel=>exact⟨_,rfl,by rw[ax];show t.size+1<=41;omega,by show _<=_;rw[vh,ax];have:=n.out;have:uT ⟨#[95]⟩=2:=(by decide);show _<=2*(t.size+1);omega,d.1.wide (by rw[ax];show _<=y+1+((t.size+1:Nat):Int);omega),d.2⟩
    case measure=>show 50-(t++⟨#[95]⟩).size<50-t.size;rw[ax];show 50-(t.size+1)<_;omega
   ·go_wp2_with fail;go_ret;exact⟨t,rfl,by have:=n.out;omega,d.1.wide,d.2⟩
 ·have C:(v==0)=B0:=by simpa using l
  have k:=aw fun (B:Obj)=>jK (f.below (bG w1 B) f.lt) 12 (by decide) (by decide);go_wp2_with fail;refine(k _).mono ?_;rintro e u ⟨a,rfl,z,b,m,c⟩;have p:=m.blk (ay w1 _) (by decide);have I:=fun A=>au u w1.heap.size A _ _ _ p;have j:=dC b ((i.out.trans ((bG w1 _).mono f.lo.2)).trans c);clear b m c p k;rcases(show a=0\/a=1\/a=2\/a=3\/a=4\/a=5\/a=6\/a=7\/a=8\/a=9\/a=10\/a=11 by omega) with rfl|rfl|rfl|rfl|rfl|rfl|rfl|rfl|rfl|rfl|rfl|rfl;all_goals
   go_wp2_with fail;go_ret;exact⟨_,rfl,by decide,j.1.wide,j.2⟩
theorem asj(h:Cu E W y)(o:y<=700000000):B4 R 37 #[cV E] W (fun e w'=>∃t:ByteArray,e= A0 (Z t)/\uT t<=84/\Cu E w' (y+1)/\A2 E.base W w'):=by
 have k:=h.lt;have j:=h.lo;have b:=aw fun (m:Obj)=>jK (h.below (bG W m) k) 9 (by decide) (by decide);go_in;go_wp2_with fail;refine(b _).mono ?_;rintro e w1 ⟨a,rfl,p,c,d,f⟩;have g:=d.blk (ay W _) (by decide);have n:=fun l=>au w1 W.heap.size l _ _ _ g;have i:=dC c (((bG W _).mono j.2).trans f);clear c d f g b;rcases(show a=0\/a=1\/a=2\/a=3\/a=4\/a=5\/a=6\/a=7\/a=8 by omega) with rfl|rfl|rfl|rfl|rfl|rfl|rfl|rfl|rfl;all_goals
  go_wp2_with fail;go_ret;exact⟨_,rfl,by decide,i⟩
end
theorem apt:∀k:Fin 22,uT (bp eu k.val)<=120:=by decide
theorem arc:∀k:Fin 30,uT (bp iE k.val)<=120:=by decide
theorem ard{n:Int}(a:n<=9223372036854775807):uT (xy n)<=120:=by
 have:=Gj n a;have:=amk (xy n);omega
section
variable {E : Bs} {W : World} {y : Int}
theorem are{a:Bs}(h:(s.size<=9/\m=a.g)\/(Lng s/\m=a.g+1)):a.g<=m/\uT (ey (cD s))+8010*a.g<=120+8010*m/\s.size<=4100:=by
 rw[aps];rcases h with⟨h,rfl⟩|⟨h,rfl⟩
 ·have:=al0 s;omega
 ·rw[al3 h];have:=h.hi;omega
theorem apu(h:Cu E W y)(a3:y<=600000000):B4 R 14 #[cV E] W (DrP E W 120 (y+300)):=by
 have af:=jK h 12 (by decide) (by decide);go_in;go_wp2_with fail;refine af.mono ?_;rintro n w1 ⟨k,rfl,a4,b,_,L⟩;have m:=dC b L;clear L af h;rcases(show k=0\/k=1\/k=2\/k=3\/(k=4\/k=5)\/(k=6\/k=7\/k=8)\/k=9\/k=10\/k=11 by omega) with rfl|rfl|rfl|rfl|h45|h678|rfl|rfl|rfl
 ·have d:=arb b (by omega);go_wp2_with fail;refine d.mono ?_;rintro n j ⟨a0,rfl,x,c,f⟩;have a:=iF c f x;clear c f x d b;go_wp2_with fail;go_ret;exact drp (by have:=a.2.2;omega) (a.1.wide) (m.2.trans a.2.1)
 ·have d:=apr b (by omega);go_wp2_with fail;refine d.mono ?_;rintro n j ⟨ar,rfl,B,c,f⟩;have a:=dC c f;have l:=Aj ar B.1 B.2 j;have ad:=aw (ard B.2);clear c f d b;go_wp2_with fail;refine cJ l fun z q=>?_;have g:=dC (a.1.below q a.1.lt) (a.2.trans (q.mono a.1.lo.2));clear q l;go_wp2_with fail;go_ret;exact drp ad (g.1.wide) (m.2.trans g.2)
 ·have d:=asj b (by omega);go_wp2_with fail;refine d.mono ?_;rintro n j ⟨a0,rfl,x,c,f⟩;have a:=iF c f x;clear c f x d b;go_wp2_with fail;go_ret;exact drp (by have:=a.2.2;omega) (a.1.wide) (m.2.trans a.2.1)
 ·have d:=asi b (by omega);go_wp2_with fail;refine d.mono ?_;rintro n j ⟨F,ap,rfl,C,c,f⟩;have a:=dC c f;obtain⟨ag,ak,al⟩:=are C;have l:=De F al j;have I:=dC ag ak;clear c f d b C ag ak al;go_wp2_with fail;refine cJ l fun z q=>?_;have g:=dC (a.1.below q a.1.lt) (a.2.trans (q.mono a.1.lo.2));clear q l;go_wp2_with fail;go_ret;exact⟨_,ap,rfl,I.1,I.2,g.1.wide,m.2.trans g.2⟩
 ·rcases h45 with rfl|rfl;all_goals
   have d:=qK w1;go_wp2_with fail;refine d.mono ?_;rintro n j ⟨rfl,s⟩;have p:A2 w1.heap.size w1 j:=by rw[s];exact bG w1 _
   have o:j.heap[w1.heap.size]?=S (Ax eu 9 (0,0)):=by rw[s];exact ay w1 _
   have c:=b.below p b.lt;have a:=aw (m.2.trans (p.mono b.lo.2));have l:=jK c 22 (by decide) (by decide);clear s p c d b;go_wp2_with fail;refine l.mono ?_;rintro n z ⟨i,rfl,r,t,u,v⟩;obtain⟨i,rfl⟩:=gl r.1;have w:i<22:=by omega
   have A:z.cell? ⟨w1.heap.size,i,U⟩=S (Z (bp eu i)):=by rw[au _ _ _ _ _ _ (u.blk o (by decide))];exact Cm ⟨i,w⟩
   have g:=iF t (a.out.trans v) (apt ⟨i,w⟩);have am:=r.1;have an:=r.2;generalize bp eu i=a1 at A g;clear t v l o u;go_wp2_with fail;go_ret;exact drp g.2.2 (g.1.wide) g.2.1
 ·rcases h678 with rfl|rfl|rfl;all_goals
   have d:=uy w1;go_wp2_with fail;refine d.mono ?_;rintro n j ⟨rfl,s⟩;have p:A2 w1.heap.size w1 j:=by rw[s];exact bG w1 _
   have o:j.heap[w1.heap.size]?=S (Ax iE 9 (0,0)):=by rw[s];exact ay w1 _
   have c:=b.below p b.lt;have a:=aw (m.2.trans (p.mono b.lo.2));have l:=jK c 30 (by decide) (by decide);clear s p c d b;go_wp2_with fail;refine l.mono ?_;rintro n z ⟨i,rfl,r,t,u,v⟩;obtain⟨i,rfl⟩:=gl r.1;have w:i<30:=by omega
   have A:z.cell? ⟨w1.heap.size,i,U⟩=S (Z (bp iE i)):=by rw[au _ _ _ _ _ _ (u.blk o (by decide))];exact aaj ⟨i,w⟩
   have g:=iF t (a.out.trans v) (arc ⟨i,w⟩);have am:=r.1;have an:=r.2;generalize bp iE i=a1 at A g;clear t v l o u;go_wp2_with fail;go_ret;exact drp g.2.2 (g.1.wide) g.2.1
 ·go_wp2_with fail;go_ret;exact drp (by decide) (m.1.wide) m.2
 ·have H:=aw fun (av:Obj)=>jK (b.below (bG w1 av) b.lt) 20 (by decide) (by decide);go_wp2_with fail;refine(H _).mono ?_;rintro n j ⟨e,rfl,ad,J,K,f⟩;have o:=K.blk (ay w1 _) (by decide);have a2:=fun ao=>au j w1.heap.size ao _ _ _ o;have G:=dC J ((m.2.trans ((bG w1 _).mono b.lo.2)).trans f);clear J K f o H b;rcases(show e=0\/e=1\/e=2\/e=3\/e=4\/e=5\/e=6\/e=7\/e=8\/e=9\/e=10\/e=11\/e=12\/e=13\/e=14\/e=15\/e=16\/e=17\/e=18\/e=19 by omega) with rfl|rfl|rfl|rfl|rfl|rfl|rfl|rfl|rfl|rfl|rfl|rfl|rfl|rfl|rfl|rfl|rfl|rfl|rfl|rfl;all_goals
   go_wp2_with fail;go_ret;exact drp (by decide) (G.1.wide) G.2
 ·have d:=ajh b 1 (by decide) (by decide) (by omega);go_wp2_with fail;refine d.mono ?_;rintro n j ⟨F,rfl,C,c,_,f⟩;have a:=dC c f;clear c f d b;go_wp2_with fail;go_ret;exact drp (by have:=amk F;omega) (a.1.wide) (m.2.trans a.2)
end
theorem apv(w:B3)(i:Option Addr)(h l:Nat)(bs:h<=1048576)(a3:Code w.heap.size w i h):
  B4 R 4 #[O i h l] w fun e w'=>∃t:ByteArray,e= A0 (Z t)/\t.size<=60000/\A2 w.heap.size w w':=by
 have s:=bG w (Ax #[O i h l,X Y 0,X .u64 0,X Y 0] 43);have H:Cu ⟨w.heap.size,w.heap.size,0,i,h,l,0,0⟩ (w.alloc (Ax #[O i h l,X Y 0,X .u64 0,X Y 0] 43)) 0:=⟨⟨ae _,s.size⟩,bs,a3.below s,0,0,0,ay w _,by decide,by decide,by decide,by decide,Int.le_refl 0⟩;obtain⟨k,r⟩:∃k:Bs,k=⟨w.heap.size,w.heap.size,0,i,h,l,0,0⟩:=⟨_,rfl⟩;have I:k.base=w.heap.size:=by rw[r]
 have L:cV k= B6 (S ⟨w.heap.size,0,U⟩):=by rw[r]
 rw[<-r]at H;have af:=apq H (by decide);rw[L]at af;go_in;go_wp2_with fail;refine af.mono ?_;rintro e w1 ⟨c,a8,rfl,⟨bx,ad⟩,a,a1⟩;have cf:a8<=3:=a.g3;have cp:c.size<=31875:=by have:=aml c;omega
 have z:=zx w1 c (by omega);have J:=ajc c;have bt:=LH c;unfold TkP at z;obtain⟨ao,y⟩:=aA (jt c).1;obtain⟨A,x⟩:=aA ao.length;obtain⟨B,a6⟩:=aA (jt c).2;rw[y,x]at bt;rw[y]at J;rw[y,x,a6]at z;obtain⟨d,hF⟩:∃d:Bs,d={k with g:=a8}:=⟨_,rfl⟩;have m:d.base=w.heap.size:=by rw[hF];exact I
 have u:cV d= B6 (S ⟨w.heap.size,0,U⟩):=by rw[hF];exact L
 rw[<-hF]at a;have n:=dC J x;have b:=aw (s.trans (by rw[<-I];exact a1));clear af r a3 s H bx ad a1 J x y a6 hF L I;go_wp2_with fail;refine z.mono ?_;rintro e bD ⟨bk,bl,rfl,a4,q⟩;have f:Lo d w1 bD 40000000 (O U 0 0) ⟨#[]⟩ (O bk A bl) ao:=⟨a.below q a.lt,cE _ _ _ _,by rw[n.out.2];exact lA a4 (fun g _ cc ce=>⟨rfl,by have:=a.lo.2;omega⟩),q.mono a.lo.2⟩;have a:=f.cu;have b:=aw (b.out.trans (q.mono b.size));clear z a4 q;rcases qI A with n0|n0
 case' inl=>subst n0
 case' inr=>
  have cm:(0:Int)<(A:Int):=by omega
  have ag:=jK a 4 (by decide) (by decide) (by decide);rw[u]at ag;go_wp2_with fail;refine ag.mono ?_;rintro e ct ⟨j,rfl,a5,a,ar,E⟩;have f:=f.kb a ar E;have b:=aw (b.out.trans (by rw[<-m];exact E));clear ag ar E;rcases(show j=0\/0<j by omega) with y0|y0
  case' inl=>subst y0
  case' inr=>
   have ak:=amD a A (by omega) (by omega) (by decide);rw[u]at ak;go_wp2_with fail;refine ak.mono ?_;rintro e bb ⟨a7,rfl,v,a,av,F⟩;have f:=f.kb a av F;have b:=aw (b.out.trans (by rw[<-m];exact F));clear ak av F;obtain⟨a7,rfl⟩:=gl v.1;obtain⟨o,K⟩:∃o,ao[a7]?=S o:=⟨_,aE (by have:=n.2;omega)⟩;have br:=n.1.each o (cG K);obtain⟨g,rfl,b0,b7,bn,b8,b9,ca⟩:=f.cells n.2 K;have ch:=v.1;have ck:=v.2;obtain⟨an,bw⟩:=gl (show 0<=o.t by omega);rw[bw]at bn;have cn:an<=c.size:=by omega
   have cr:(c.extract 0 an).size<=31875:=by rw[ik];omega
   have bj:=aw fun am=>f.below (bG bb am);have b:=aw fun am=>b.out.trans ((bG bb am).mono b.size);clear K br v
 all_goals
  go_wp2_with fail;have C:∀{p:B3}{j:Int},Cu d p j->j<=900000000->B4 R 13 #[B6 (S ⟨w.heap.size,0,U⟩),X Y 6] p fun e w'=>∃B:Int,e= A0 (X Y B)/\(0<=B/\B<6)/\Cu d w' (j+1)/\Kb p w'/\A2 d.base p w':=fun bo a5=>by
   have:=jK bo 6 (by decide) (by decide) a5;rw[u]at this;exact this
  first|refine(C a (by decide)).mono ?_|refine(C (bj _).cu (by decide)).mono ?_
  rintro e bE ⟨bd,rfl,cs,be,_,G⟩;have ap:Ce (A2 w.heap.size w bE):=by first|exact b.out.trans (by rw[<-m];exact G)|exact(b _).trans (by rw[<-m];exact G)
  try generalize c.extract 0 an=c at *
  clear G C;by_cases z0:bd=0
  ·subst z0;have al:=apu be (by decide);rw[u]at al;go_wp2_with fail;refine al.mono ?_;rintro e cv ⟨a9,bA,rfl,cl,ad,bf,a2⟩;have cg:bA<=3:=bf.g3;have cq:a9.size<=12075:=by have:=aml a9;omega
   have bh:=aw (ap.out.trans (by rw[<-m];exact a2));clear al a2 ad;go_wp2_with fail;go_ret;exact⟨_,rfl,by rw[ax];omega,bh⟩
  ·have cb:(bd==0)=B0:=by simpa using z0
   go_wp2_with fail;go_ret;exact⟨_,rfl,by omega,ap⟩
