import Derived.Test.YtcbmoiabehpliaaGreatDoorHPk03
import Derived.Test.YtcbmoiabehpliaaGreatDoorHPk14
import Derived.LaidLaws
import Derived.Lib.LaidTab
import Derived.Test.YtcbmoiabehpliaaGreatDoorHPk26
import Derived.Deep.Strs
import Derived.Test.YtcbmoiabehpliaaGreatDoorHPk40
import Derived.Test.YtcbmoiabehpliaaGreatDoorHPk29
import Derived.Test.YtcbmoiabehpliaaGreatDoorHPk25
import Derived.Test.YtcbmoiabehpliaaGreatDoorHPk01
import Derived.Test.YtcbmoiabehpliaaGreatDoorHPk48
set_option linter.unusedSimpArgs false
set_option linter.unusedVariables false
set_option maxRecDepth 100000
set_option maxHeartbeats 12800000
namespace Go.Proofs.YtcbmoiabehpliaaGreatDoor
open Go.ChangeShapes Go.WideShapes Go.ChangeAt Go.WideMaps Go.WideElems Go.RowKit
def Js(V:Array Value):List (List UInt8):=V.toList.map fun a=>match a with| .string b=>b.data.toList|_=>[]
theorem sr{W:World}{d:String}{c:DataW Unit}{g:Nat}{t:TypeId}{n:Nat}{V:Array Value}(k:([(d,c)].all fun x=>x.2.handleName?.isNone)=true)
  (y:Tryz.prog.globalNamed d=some g) (i:(Tryz.prog.globals[g]?).map (·.type)=some t) (l:Tryz.prog.underlying t=some (.array n 9)) (m:Tryz.prog.cellsOf 9=1) (r:Tryz.prog.cellsOf t=n)
  (j:c= .agg ((Js V).map fun b=> .lit (.string b))) (o:(Js V).map (fun b=>Value.string ⟨b.toArray⟩)=V.toList) (h:laidMetH Tryz.prog [(d,c)] W):∃e fr,W.heap[g]?=some (.cells V e fr):=by
 rw[MakeChecks.laidMetH_plain _ _ _ k]at h;obtain⟨z,⟨C,A,p,E,F,B,f,s,a,v,_,_⟩,_,_⟩:=h;obtain rfl:=Option.some.inj (y.symm.trans f);obtain rfl:=Option.some.inj (i.symm.trans s);subst j;have u:=pE l Tryz.underlying9 m r v;have q:p=V:=by
  apply Array.toList_inj.1;rw[u,o]
 simp only[World.var?,f,Option.bind_some]at a;split at a
 ·rename_i G e fr w;cases a;exact⟨e,fr,by rw[<-q];exact w⟩
 ·cases a
theorem C1{W:World}{a d:String}{b:DataW Unit}{g:Nat}{t:TypeId}{ms:Array (String×TypeId)}(k:([(a,DataW.iface d b)].all fun x=>x.2.handleName?.isNone)=true)
  (v:Tryz.prog.globalNamed a=some g) (j:(Tryz.prog.globals[g]?).map (·.type)=some t) (l:Tryz.prog.underlying t=some (.interface ms)) (h:laidMetH Tryz.prog [(a,.iface d b)] W):∃i u,W.cell? ⟨g,0,none⟩=some (.iface i u):=by
 rw[MakeChecks.laidMetH_plain _ _ _ k]at h;obtain⟨w,⟨A,y,o,B,C,z,c,p,s,r,_,_⟩,_,_⟩:=h;obtain rfl:=Option.some.inj (v.symm.trans c);obtain rfl:=Option.some.inj (j.symm.trans p);obtain⟨E,f,e,q,_,_⟩:=iface_of_trod l r;refine⟨f,e,?_⟩;have:=World.var?_cell c s 0;rw[this];have m:o.toList[0]?=some (.iface f e):=by rw[q];rfl
 simpa using m
def H5:List Int:=[0,1,56,2,57,49,28,3,61,58,42,50,38,29,17,4,62,47,59,36,45,43,51,22,53,39,33,30,24,18,12,5,63,55,48,27,60,41,37,16,46,35,44,21,52,32,23,11,54,26,40,15,34,20,31,10,25,14,19,9,13,8,7,6]
theorem Jt:Tryz.prog.globalNamed "math/bits.deBruijn64tab" =some 11:=by kernel_rfl
theorem Kq:Tryz.prog.globalNamed "internal/strconv.uint64pow10" =some 9:=by kernel_rfl
theorem Kr:Tryz.prog.globalNamed "strconv.ErrSyntax" =some 6:=by kernel_rfl
theorem Ks:Tryz.prog.globalNamed "strconv.ErrRange" =some 7:=by kernel_rfl
theorem Ku:Tryz.prog.globalNamed "loop.example/warp/impl.wordTexts" =some 0:=by kernel_rfl
theorem Kv:Tryz.prog.globalNamed "loop.example/warp/impl.markTexts" =some 2:=by kernel_rfl
theorem Kw:Tryz.prog.globalNamed "loop.example/warp/impl.binaryTexts" =some 3:=by kernel_rfl
theorem H7{W:World}(h:laidMetH Tryz.prog [("math/bits.deBruijn32tab",Rows.laid_math_bits_deBruijn32tab),("math/bits.deBruijn64tab",Rows.laid_math_bits_deBruijn64tab),("internal/strconv.uint64pow10",Rows.laid_internal_strconv_uint64pow10),("strconv.ErrRange",Rows.laid_strconv_ErrRange),("strconv.ErrSyntax",Rows.laid_strconv_ErrSyntax),("loop.example/warp/impl.wordTexts",Rows.laid_loop_example_warp_impl_wordTexts),("loop.example/warp/impl.markTexts",Rows.laid_loop_example_warp_impl_markTexts),("loop.example/warp/impl.binaryTexts",Rows.laid_loop_example_warp_impl_binaryTexts)] W):tO W:=by
 have f:laidMetH Tryz.prog [("loop.example/warp/impl.wordTexts",Rows.laid_loop_example_warp_impl_wordTexts)] W:=h.filter fun a=>a.1== "loop.example/warp/impl.wordTexts";have g:laidMetH Tryz.prog [("loop.example/warp/impl.markTexts",Rows.laid_loop_example_warp_impl_markTexts)] W:=h.filter fun a=>a.1== "loop.example/warp/impl.markTexts";have e:laidMetH Tryz.prog [("loop.example/warp/impl.binaryTexts",Rows.laid_loop_example_warp_impl_binaryTexts)] W:=h.filter fun a=>a.1== "loop.example/warp/impl.binaryTexts";have j:laidMetH Tryz.prog [("strconv.ErrSyntax",Rows.laid_strconv_ErrSyntax)] W:=h.filter fun a=>a.1== "strconv.ErrSyntax";have d:laidMetH Tryz.prog [("strconv.ErrRange",Rows.laid_strconv_ErrRange)] W:=h.filter fun a=>a.1== "strconv.ErrRange";have b:laidMetH Tryz.prog [("internal/strconv.uint64pow10",Rows.laid_internal_strconv_uint64pow10)] W:=h.filter fun a=>a.1== "internal/strconv.uint64pow10";have c:laidMetH Tryz.prog [("math/bits.deBruijn64tab",Rows.laid_math_bits_deBruijn64tab)] W:=h.filter fun a=>a.1== "math/bits.deBruijn64tab";refine⟨⟨?_,?_,?_⟩,⟨?_,?_⟩,?_,?_⟩
 ·exact sr (V:=bj) (by kernel_rfl) Ku (t:=118) (by kernel_rfl) Tryz.underlying118 (by kernel_rfl) (by kernel_rfl) rfl rfl f
 ·exact sr (V:=cY) (by kernel_rfl) Kv (t:=208) (by kernel_rfl) Tryz.underlying208 (by kernel_rfl) (by kernel_rfl) rfl rfl g
 ·exact sr (V:=dV) (by kernel_rfl) Kw (t:=209) (by kernel_rfl) Tryz.underlying209 (by kernel_rfl) (by kernel_rfl) rfl rfl e
 ·exact C1 (by kernel_rfl) Kr (t:=223) (by kernel_rfl) Tryz.underlying223 j
 ·exact C1 (by kernel_rfl) Ks (t:=223) (by kernel_rfl) Tryz.underlying223 d
 ·rw[MakeChecks.laidMetH_plain _ _ _ (by kernel_rfl)]at b;exact Lib.tabIs_of_head Kq (t:=294) (by kernel_rfl) Tryz.underlying294 Tryz.underlying196 (by kernel_rfl) (by kernel_rfl) b
 ·rw[MakeChecks.laidMetH_plain _ _ _ (by kernel_rfl)]at c;have i:laidMet Tryz.prog [("math/bits.deBruijn64tab",Lib.tabData .u8 H5)] W:=c;exact(Lib.tabIs_of_head Jt (t:=299) (by kernel_rfl) Tryz.underlying299 Tryz.underlying5 (by kernel_rfl) (by kernel_rfl) i).cell Jt 15 (by decide)
def Fl{H:Type}(x:Int×Int×Int):DataW H:= .agg [.lit (.int .i64 x.1),.lit (.int .i64 x.2.1),.lit (.int .i64 x.2.2)]
def C3(x:Int×Int×Int):List Value:=[.int .i64 x.1,.int .i64 x.2.1,.int .i64 x.2.2]
theorem Ju(l:List Value)(h:l.length=3):∃a b c,l=[a,b,c]:=by
 match l,h with
 |[a,b,c],_=>exact⟨a,b,c,rfl⟩
theorem Fp{H:Type}{enc:TypeId×Value->H}{W:World}{base:Nat}{k:Nat->Bool}{o:Bool}{fuel:Nat}{l:List Value}{x:Int×Int×Int}{p:List MemPlace}(h:DataW.trod enc Tryz.prog W base k o fuel 179 l=some (Fl x,p)):l=C3 x:=by
 have m:Tryz.prog.cellsOf 3=1:=by kernel_rfl
 have j:Tryz.prog.cellsOf 179=3:=by kernel_rfl
 obtain⟨y,A,B,n,a,f,i,c,b⟩:=Go.Deep.trod_struct3 Tryz.underlying179 h;rw[j]at f;obtain⟨z,v,t,rfl⟩:=Ju l f;simp[m]at i c b;obtain⟨z0,g,s,_⟩:=DataW.trod_int Tryz.underlying3 i;obtain⟨w,d,q,_⟩:=DataW.trod_int Tryz.underlying3 c;obtain⟨u,e,r,_⟩:=DataW.trod_int Tryz.underlying3 b;simp at g d e;subst g d e;unfold Fl at a;rw[s,q,r]at a;simp at a;unfold C3;rw[a.1.1,a.1.2.1,a.1.2.2]
theorem qM:∀(a:List (Int×Int×Int))(cs:List Value),cs.length=3*a.length->(∀i x,a[i]?=some x->(cs.drop (i*3)).take 3=C3 x)->cs=a.flatMap C3
 |[],cs,b,_=>by simpa using b
 |x::a,cs,b,h=>by
  have c:=h 0 x rfl;simp only[Nat.zero_mul,List.drop_zero]at c;have e:=qM a (cs.drop 3) (by rw[List.length_drop,b];simp;omega) (fun i f d=>by
   have:=h (i+1) f (by simpa using d);rw[List.drop_drop];rw[show(i+1)*3=3+i*3 by omega]at this;exact this)
  rw[List.flatMap_cons,<-e,<-c];exact(List.take_append_drop 3 cs).symm
def C4:List (Int×Int×Int):=[(26,1,2),(10,2,3),(73,3,4),(74,3,4),(75,3,4),(76,3,4),(77,3,4),(78,3,4),(72,4,4),(68,5,6),(69,6,7),(67,7,8),(70,8,9),(71,8,9),(61,9,10),(62,9,10),(63,10,11),(64,10,11),(65,10,11),(66,10,11)]
theorem Kx:Tryz.prog.globalNamed "loop.example/warp/impl.powers" =some 1:=by kernel_rfl
theorem Fq{W:World}(h:laidMetH Tryz.prog [("loop.example/warp/impl.powers",Rows.laid_loop_example_warp_impl_powers)] W):∃e fr,W.heap[1]?=some (.cells ud e fr):=by
 rw[MakeChecks.laidMetH_plain _ _ _ (by kernel_rfl)]at h;obtain⟨A,⟨I,B,d,o,C,G,g,y,b,z,_,_⟩,_,_⟩:=h;obtain rfl:=Option.some.inj (Kx.symm.trans g);obtain rfl:=Option.some.inj ((show(Tryz.prog.globals[1]?).map (·.type)=some 180 by kernel_rfl).symm.trans y);have u:Tryz.prog.cellsOf 179=3:=by kernel_rfl
 have q:Tryz.prog.cellsOf 180=60:=by kernel_rfl
 have r:DataW.trod _ Tryz.prog W _ _ _ o 180 d.toList=some (.agg (C4.map Fl),_):=z;obtain⟨f,H,_,j,l,F,s⟩:=DataW.trod_array Tryz.underlying180 r;simp only[Prod.mk.injEq,DataW.agg.injEq]at j;have t:d.toList=C4.flatMap C3:=by
  refine qM C4 _ (by rw[l,q];rfl) (fun a x k=>?_);have w:a<20:=by have:=(List.getElem?_eq_some_iff.1 k).1;simpa [C4] using this
  have i:=s a w;rw[u,List.getElem?_eq_getElem (by omega)]at i;have c:(f.map (·.1))[a]?=(C4.map Fl)[a]?:=by rw[j.1]
  rw[List.getElem?_map,List.getElem?_map,List.getElem?_eq_getElem (by omega),k]at c;simp only[Option.map_some,Option.some.injEq]at c;exact Fp (x:=x) (p:=f[a].2) (by rw[i,<-c])
 have m:d=ud:=by
  apply Array.toList_inj.1;rw[t];rfl
 simp only[World.var?,g,Option.bind_some]at b;split at b
 ·rename_i E e fr v;cases b;exact⟨e,fr,by rw[<-m];exact v⟩
 ·cases b
end Go.Proofs.YtcbmoiabehpliaaGreatDoor
namespace Go.Proofs.YtcbmoiabehpliaaGreatDoor
open Go.RowKit Go.Maps Go.WideMaps
inductive Fd:List Int->List Tk->List Int->Prop where
 |nil {st:List Int}:Fd st [] st
 |cons {st:List Int}{T:Tk}{ts:List Tk}{st':List Int}:1<=T.k->T.k<=78->T.k≠6->(feedL st T.k).2=true->Fd (feedL st T.k).1 ts st'->Fd st (T::ts) st'
theorem xh(V:Array Value)(base:Int)(r:ByteArray)(b:40<=base):∀(f i:Nat)(a:Int×Nat),a.1≠6->(qz V base r f i a).1≠6
 |0,i,a,h=>h
 |f+1,i,a,h=>by
  unfold qz;refine xh V base r b f (i+1) _ ?_;split
  ·show base+(i:Int)≠6;omega
  ·exact h
theorem Ft(s:ByteArray)(p:Nat)(h:(rdI s p).ok=true):gX s p≠6:=by
 unfold gX;rw[if_pos h];unfold rdI at h⊢;split
 ·simp only;unfold wf;cases hf:jb bj (s.extract p (eo s (s.size+1) p)) 22 0 with
  |none=>simp
  |some e=>simp only;omega
 split
 ·split
  ·simp only;unfold kE;split
   ·simp
   ·split<;>simp
  ·rename_i c b a;rw[if_neg c,if_pos b,if_neg a]at h;cases h
 split
 ·split
  ·simp
  ·rename_i c b a d;rw[if_neg c,if_neg b,if_pos a,if_neg d]at h;cases h
 split
 ·rename_i c b a d;rw[if_neg c,if_neg b,if_neg a,if_pos d]at h;cases h
 ·simp only;unfold gU;split
  ·omega
  split
  ·omega
  ·exact xh _ _ _ (by omega) _ _ _ (xh _ _ _ (by omega) _ _ _ (by simp))
theorem oY(s:ByteArray):∀(f:Nat)(st:List Int)(p:Nat)(l:Int)(g:List Tk)(c:List Tk)(b:List Int),kH s f st p l g=(c,b, -1)->∃ts d,c=g++ts++[⟨6,(s.size:Nat),(s.size:Nat),d,0,⟨#[]⟩⟩]/\Fd st ts b
 |0,st,p,l,g,c,b,h=>by simp[kH]at h
 |f+1,st,p,l,g,c,b,h=>by
  rw[kH]at h;split at h
  ·simp only[Prod.mk.injEq]at h;exact⟨[],l,by rw[List.append_nil];exact h.1.symm,by rw[<-h.2.1];exact .nil⟩
  split at h
  ·split at h
   ·rename_i i;obtain⟨ts,d,e,j⟩:=oY s f _ _ _ _ c b h;exact⟨⟨5,(p:Nat),((rdI s p).a:Nat),l,(rdI s p).n,(rdI s p).x⟩::ts,d,by rw[e];simp,.cons (by show(1:Int)<=5;omega) (by show(5:Int)<=78;omega) (by show(5:Int)≠6;omega) i j⟩
   ·exact oY s f _ _ _ _ c b h
  split at h
  ·rename_i r i;split at h
   ·rename_i m;obtain⟨o,t⟩:=ul s p m;have q:gX s p=(rdI s p).k:=by unfold gX;rw[if_pos m]
    rw[show mJ st (gX s p)=feedL st (gX s p) by unfold mJ;rw[if_pos (by omega)]]at i;obtain⟨ts,d,e,j⟩:=oY s f _ _ _ _ c b h;exact⟨⟨gX s p,(p:Nat),((rdI s p).a:Nat),l,(rdI s p).n,(rdI s p).x⟩::ts,d,by rw[e];simp,.cons (by show 1<=gX s p;omega) (by show gX s p<=78;omega) (Ft s p m) i j⟩
   ·simp only[Prod.mk.injEq]at h;omega
  ·simp only[Prod.mk.injEq]at h;omega
section
variable {tk : Nat → Tk} {n : Nat}
theorem C5{t:Int}{i j:Nat}(a:(tk i).k=t)(l:i<n):∀(f:Nat)(st:List Int)(c:Nat)(lo r:List Int)(m b:Nat),bp f st t c=some (lo,some true,b)->D tk n m (lo++r) (i+1) j->∃d,D tk n d (st++r) i j
 |0,_,_,_,_,_,_,h,_=>by simp[bp]at h
 |f+1,[],_,_,_,_,_,h,_=>by simp[bp]at h
 |f+1,s::q,c,lo,r,m,b,h,p=>by
  by_cases o:s<100
  ·obtain⟨rfl,e,_⟩:=fW h o;have e:decide (s=t)=true:=by simpa using e.symm
   exact⟨m+1,.tok o (by rw[a];exact(of_decide_eq_true e).symm) l p⟩
  ·rcases dg h (by omega) with⟨v,g⟩|⟨_,_,g,_⟩
   ·obtain⟨d,u⟩:=C5 a l f _ _ lo r m b g p;exact⟨d+1,.exp (r:=q++r) (by omega) l (by rw[a];exact v) (by rw[a,<-List.append_assoc];exact u)⟩
   ·simp at g
theorem xi{t:Int}{i j m:Nat}(b:(tk i).k=t)(d:i<n):∀(st:List Int),(feedL st t).2=true->D tk n m (feedL st t).1 (i+1) j->∃f,D tk n f st i j
 |[],h,_=>by simp[feedL]at h
 |s::r,h,a=>by
  by_cases e:s<100
  ·rw[cD e]at h a;exact⟨m+1,.tok e (by rw[b];exact(of_decide_eq_true h).symm) d a⟩
  ·by_cases c:(xE s t).1=[]/\(xE s t).2=true
   ·rw[dB (by omega) c]at h a;obtain⟨f,l⟩:=xi b d r h a;exact⟨f+1,.exp (by omega) d (by rw[b];exact c.2) (by rw[b,c.1];exact l)⟩
   ·rw[feedL,if_neg e,if_neg c]at h a;split at h
    ·rename_i p q o g;have u:q=true:=h;subst u;rw[g]at a;exact C5 b d 8 [s] 0 p r m o g a
    ·simp at h
theorem Jv:∀(ts:List Tk)(st d:List Int)(i m j:Nat),Fd st ts d->(∀q T,ts[q]?=some T->tk (i+q)=T)->i+ts.length<=n->D tk n m d (i+ts.length) j->∃k,D tk n k st i j
 |[],st,d,i,m,j,h,_,_,f=>by cases h;exact⟨m,f⟩
 |T::ts,st,d,i,m,j,h,g,r,f=>by
  cases h with
  |cons a b c l e=>
   rw[List.length_cons]at r f;obtain⟨k,p⟩:=Jv ts _ d (i+1) m j e (fun q s o=>by rw[show i+1+q=i+(q+1) by omega];exact g (q+1) s (by simpa using o)) (by omega) (by rw[show i+1+ts.length=i+(ts.length+1) by omega];exact f);exact xi (by rw[show tk i=T from g 0 T rfl]) (by omega) st l p
end
def DA(st:List Int):Prop:=∀a∈st,a≠6/\a<=133
theorem Fu:((List.range 34).all fun s=>(List.range 78).all fun t=>(xE ((s:Int)+100) ((t:Int)+1)).1.all fun x=>decide (x≠6)||!(xE ((s:Int)+100) ((t:Int)+1)).2)=true:=by decide+kernel
theorem H8{s t:Int}(j:100<=s)(l:s<=133)(g:1<=t)(f:t<=78)(h:(xE s t).2=true):DA (xE s t).1:=by
 have i:=List.all_eq_true.1 Fu (s-100).toNat (by rw[List.mem_range];omega);have d:=List.all_eq_true.1 i (t-1).toNat (by rw[List.mem_range];omega);have e:(((s-100).toNat:Nat):Int)+100=s:=by omega
 have k:(((t-1).toNat:Nat):Int)+1=t:=by omega
 rw[e,k]at d;refine fun a c=>⟨?_,(xH j l g f).1 a c⟩;have b:=List.all_eq_true.1 d a c;rw[h]at b;simpa using b
theorem uR{t:Int}(j:1<=t)(g:t<=78):∀(f:Nat)(st:List Int)(c:Nat)(lo:List Int)(b:Nat),DA st->bp f st t c=some (lo,some true,b)->DA lo/\t≠6
 |0,_,_,_,_,_,h=>by simp[bp]at h
 |f+1,[],_,_,_,_,h=>by simp[bp]at h
 |f+1,s::q,c,lo,b,k,h=>by
  have i:DA q:=fun a hx=>k a (List.mem_cons_of_mem _ hx);have m:=k s (List.mem_cons_self ..);by_cases l:s<100
  ·obtain⟨rfl,d,_⟩:=fW h l;have d:decide (s=t)=true:=by simpa using d.symm
   have:=of_decide_eq_true d;exact⟨i,by omega⟩
  ·rcases dg h (by omega) with⟨o,e⟩|⟨_,_,e,_⟩
   ·refine uR j g f _ _ lo b (fun a hx=>?_) e;rcases List.mem_append.1 hx with hx|hx
    ·exact H8 (by omega) m.2 j g o a hx
    ·exact i a hx
   ·simp at e
theorem C6{t:Int}(e:1<=t)(d:t<=78):∀(a:List Int),DA a->(feedL (a++[6]) t).2=true->(t=6/\(feedL (a++[6]) t).1=[])\/(t≠6/\∃b,(feedL (a++[6]) t).1=b++[6]/\DA b)
 |[],_,h=>by
  rw[List.nil_append,cD (by omega)]at h⊢;exact .inl ⟨(of_decide_eq_true h).symm,rfl⟩
 |s::a,g,h=>by
  have f:DA a:=fun c hx=>g c (List.mem_cons_of_mem _ hx);have j:=g s (List.mem_cons_self ..);rw[List.cons_append]at h⊢;by_cases l:s<100
  ·rw[cD l]at h⊢;have:=of_decide_eq_true h;exact .inr ⟨by omega,a,rfl,f⟩
  ·by_cases hx:(xE s t).1=[]/\(xE s t).2=true
   ·rw[dB (by omega) hx]at h⊢;exact C6 e d a f h
   ·obtain⟨k,b,p,i,_⟩:=ij (by omega) j.2 e d hx;rw[dC (by omega) hx i]at h⊢;have q:b=true:=h;subst q;obtain⟨o,m⟩:=uR e d 8 [s] 0 k p (fun c hx=>by rw[List.mem_singleton.1 hx];exact j) i;refine .inr ⟨m,k++a,by rw[List.append_assoc],fun c hx=>?_⟩;rcases List.mem_append.1 hx with hx|hx
    ·exact o c hx
    ·exact f c hx
theorem C7:∀(ts:List Tk)(a:List Int)(c:List Int),DA a->Fd (a++[6]) ts c->∃b,c=b++[6]/\DA b
 |[],a,c,d,h=>by cases h;exact⟨a,rfl,d⟩
 |T::ts,a,c,d,h=>by
  cases h with
  |cons k i g l f=>
   rcases C6 k i a d l with⟨e,_⟩|⟨_,b,e,j⟩
   ·exact absurd e g
   ·rw[e]at f;exact C7 ts b c j f
theorem F6{ts:List Tk}{st a:List Int}(h:Fd st ts a):∀{T:Tk},T∈ts->1<=T.k/\T.k<=78/\T.k≠6:=by
 induction h with
 |nil=>intro T hT;cases hT
 |cons e c b f g d=>
  intro T hT;rcases List.mem_cons.1 hT with rfl|hT
  ·exact⟨e,c,b⟩
  ·exact d hT
def KM:Tk:=⟨0,0,0,0,0,⟨#[]⟩⟩
def jK(ts:List Tk)(q:Nat):Tk:=ts.getD q KM
theorem oZ{ts:List Tk}{q:Nat}{T:Tk}(h:ts[q]?=some T):jK ts q=T:=by unfold jK;rw[List.getD_eq_getElem?_getD,h];rfl
theorem H9{s:ByteArray}{toks:List Tk}{st:List Int}(h:du s=(toks,st, -1))(l:(feedL st 6).2=true):∃(m:Nat) (R:Fo) (e:Int),toks.length=m+1/\jK toks m=⟨6,(s.size:Nat),(s.size:Nat),e,0,⟨#[]⟩⟩/\P (jK toks) (m+1) .stats 0 R m/\∀q,q<m->(jK toks q).k≠6:=by
 obtain⟨a,e,c,o⟩:=oY s _ _ _ _ _ toks st h;rw[List.nil_append]at c;have H:DA [100]:=fun S J=>by rw[List.mem_singleton.1 J];omega
 obtain⟨w,y,x⟩:=C7 a [100] st H o;have u:toks.length=a.length+1:=by rw[c];simp
 have f:jK toks a.length=⟨6,(s.size:Nat),(s.size:Nat),e,0,⟨#[]⟩⟩:=oZ (by rw[c,List.getElem?_append_right (Nat.le_refl _),Nat.sub_self];rfl);have A:(feedL st 6).1=[]:=by
  rw[y]at l⊢;rcases C6 (by omega) (by omega) w x l with⟨_,g⟩|⟨g,_⟩
  ·exact g
  ·exact absurd rfl g
 have r:∀q b,a[q]?=some b->jK toks q=b:=fun q b d=>oZ (by rw[c,List.getElem?_append_left (List.getElem?_eq_some_iff.1 d).1];exact d);have p:∀i,(jK toks i).k<100/\(i<a.length->(jK toks i).k≠6):=fun i=>by
  rcases Nat.lt_trichotomy i a.length with g|g|g
  ·rw[r i _ (List.getElem?_eq_getElem g)];have:=F6 o (List.getElem_mem g);exact⟨by omega,fun _=>this.2.2⟩
  ·rw[g,f];exact⟨by simp,fun g=>by omega⟩
  ·unfold jK;rw[List.getD_eq_getElem?_getD,List.getElem?_eq_none (by omega)];exact⟨by simp[KM],fun g=>by omega⟩
 obtain⟨F,L⟩:=xi (tk:=jK toks) (n:=a.length+1) (t:=6) (i:=a.length) (j:=a.length+1) (m:=0) (by rw[f]) (by omega) st l (by rw[A];exact .nil);obtain⟨M,B⟩:=Jv (tk:=jK toks) (n:=a.length+1) a _ st 0 F _ o (fun q b d=>by rw[Nat.zero_add];exact r q b d) (by omega) (by rw[Nat.zero_add];exact L);obtain⟨K,N,k,I,C,_⟩:=D.split B [100] [6] rfl;obtain⟨E,T,O,G,_⟩:=C.toks (by omega);have Q:=G.nils;obtain rfl:k=a.length:=by omega
 obtain⟨R,v⟩:=(Fb (n:=a.length+1) (fun i=>(p i).1) K).stats I (Nat.lt_succ_self _) (.inr E);exact⟨a.length,R,e,u,f,v,fun q z=>(p q).2 z⟩
def Fo.all(p:Nd->Prop):Fo->Prop
 | .nil=>True
 | .cons N k r=>p N/\k.all p/\r.all p
theorem kP(p:Nd->Prop):∀(a b:Fo),(a.app b).all p↔a.all p/\b.all p
 | .nil,b=>by simp[Fo.app,Fo.all]
 | .cons N k r,b=>by simp only[Fo.app,Fo.all,kP p r b,and_assoc]
theorem cW(p:Nd->Prop)(N:Nd)(k:Fo):(one N k).all p↔p N/\k.all p:=by simp[one,Fo.all]
def Gd(tk:Nat->Tk)(n:Nat)(N:Nd):Prop:=(N.x=z0\/∃a,N.x=(tk a).x)/\N.nm.length<=n/\∀b∈N.nm,∃a,b=(tk a).x
def Jw(tk:Nat->Tk)(n:Nat):kW->Prop
 | .more _ _ x=>x.all (Gd tk n)
 | .post _ B=>B.all (Gd tk n)
 |_=>True
section
variable {tk : Nat → Tk} {n : Nat}
theorem Jy(k:Int)(s:Tk)(e a m:Int):Gd tk n (nd k s e a m z0 []):=⟨.inl rfl,Nat.zero_le _,fun c b=>by cases b⟩
theorem Lg(k:Int)(s:Tk)(e a m:Int)(q:Nat):Gd tk n (nd k s e a m (tk q).x []):=⟨.inr ⟨q,rfl⟩,Nat.zero_le _,fun x b=>by cases b⟩
theorem KN(h:0<n)(k:Int)(s:Tk)(e a m:Int)(q:Nat):Gd tk n (nd k s e a m z0 [(tk q).x]):=⟨.inl rfl,h,fun x b=>⟨q,List.mem_singleton.1 b⟩⟩
theorem Lh(k:Int)(s:Tk)(e:Int):Gd tk n (gV k s e):=by unfold gV;split;exact Jy ..;split;exact Jy ..;exact Jy ..
theorem Li(N:Nd)(ks:Fo)(s:Tk)(e:Int)(h:Gd tk n N)(a:ks.all (Gd tk n)):(dE N ks s e).all (Gd tk n):=by
 unfold dE;split
 ·rw[cW,cW];exact⟨Jy ..,h,a⟩
 ·rw[cW];exact⟨h,a⟩
theorem rD.gd{i j:Nat}{ns:List ByteArray}(h:rD tk n i ns j):i+2*ns.length<=j/\j<n/\∀x∈ns,∃q,x=(tk q).x:=by
 induction h with
 |stop c b=>exact⟨by simp,b,fun x hx=>by cases hx⟩
 |go c b d _ a=>
  refine⟨by simp;omega,a.2.1,fun x hx=>?_⟩;rcases List.mem_cons.1 hx with rfl|hx
  ·exact⟨_,rfl⟩
  ·exact a.2.2 x hx
theorem xW.gd{i j:Nat}{ns:List ByteArray}{r:Bool}(h:xW tk n i ns r j):i+ns.length<=j/\j<=n/\∀x∈ns,∃q,x=(tk q).x:=by
 induction h with
 |close a b=>exact⟨by simp,by omega,fun x hx=>by cases hx⟩
 |rest a b c=>exact⟨by simp,by omega,fun x hx=>by cases hx⟩
 |last a b c=>exact⟨by simp,by omega,fun x hx=>⟨_,List.mem_singleton.1 hx⟩⟩
 |go a b c _ d=>
  refine⟨by simp;omega,d.2.1,fun x hx=>?_⟩;rcases List.mem_cons.1 hx with rfl|hx
  ·exact⟨_,rfl⟩
  ·exact d.2.2 x hx
theorem Jz{i j q:Nat}{ns:List ByteArray}(h:rD tk n i ns j)(k:Int)(s:Tk)(e a m:Int):Gd tk n (nd k s e a m z0 ((tk q).x::ns)):=by
 obtain⟨c,d,b⟩:=h.gd;refine⟨.inl rfl,by show ns.length+1<=n;omega,fun x hx=>?_⟩;rcases List.mem_cons.1 hx with rfl|hx
 ·exact⟨_,rfl⟩
 ·exact b x hx
theorem P.gd{t:kW}{i j:Nat}{R:Fo}(h:P tk n t i R j):Jw tk n t->R.all (Gd tk n):=by
 induction h
 case tlet0 h1 h2 h3 h4 h5=>intro _;rw[cW];exact⟨Jz h4 ..,trivial⟩
 case tlet h1 h2 h3 h4 h5 h6 ih=>intro _;rw[cW];exact⟨Jz h4 ..,ih trivial⟩
 case tfor h1 h2 h3 h4 h5 h6 h7 i1 i2=>intro _;rw[cW,kP];exact⟨Jz h4 ..,i1 trivial,i2 trivial⟩
 case teach h1 h2 h3 h4 h5 h6 h7 h8 h9 i1 i2=>intro _;rw[cW,kP];exact⟨Jz h4 ..,i1 trivial,i2 trivial⟩
 case ttry h1 h2 h3 h4 h5 h6 h7 h8 i1 i2=>intro _;rw[cW,kP];exact⟨Jz h7 ..,i1 trivial,i2 trivial⟩
 case body nm r B h1 h2 h3 h4 ih=>intro _;rw[cW];exact⟨⟨.inl rfl,by have:=h3.gd;show nm.length<=n;omega,h3.gd.2.2⟩,ih trivial⟩
 case bopen h1 h2 h3 h4 h5 h6 i1 i2=>intro _;have:=i1 trivial;rw[cW]at this;exact i2 (Li _ _ _ _ this.1 this.2)
 case tcon h1 h2 h3 h4 h5 ih=>intro _;rw[cW];exact⟨KN (by omega) ..,ih trivial⟩
 case tfn h1 h2 h3 h4 h5 ih=>intro _;rw[cW];exact⟨KN (by omega) ..,ih trivial⟩
 all_goals
  intro a
  simp_all only[cW,kP,Jw,Fo.all,Lg,Jy,bH,Lh,and_self,true_implies,forall_const]
end
def Fo.nms:Fo->Nat
 | .nil=>0
 | .cons N k r=>N.nm.length+k.nms+r.nms
theorem fI:∀(a b:Fo),(a.app b).nms=a.nms+b.nms
 | .nil,b=>by simp[Fo.app,Fo.nms]
 | .cons N k r,b=>by simp only[Fo.app,Fo.nms,fI r b];omega
theorem eO(N:Nd)(k:Fo):(one N k).nms=N.nm.length+k.nms:=by simp[one,Fo.nms]
theorem C8(N:Nd)(ks:Fo)(s:Tk)(e:Int):(dE N ks s e).nms=(one N ks).nms:=by
 unfold dE;split
 ·rw[eO];simp[bH,nd]
 ·rfl
theorem pc(k:Int)(s:Tk)(e b m:Int)(x:ByteArray)(a:List ByteArray):(nd k s e b m x a).nm=a:=rfl
theorem Ia(k:Int)(s:Tk)(e:Int):(gV k s e).nm=[]:=by unfold gV;split;rfl;split<;>rfl
def ss:kW->Nat
 | .more _ _ x=>x.nms
 | .post _ B=>B.nms
 |_=>0
theorem P.nms{tk:Nat->Tk}{n:Nat}{t:kW}{i j:Nat}{R:Fo}(h:P tk n t i R j):R.nms+i<=ss t+j:=by
 induction h
 case tlet0 h1 h2 h3 h4 h5=>have:=h4.gd;simp only[eO,fI,ss,pc,Fo.nms,List.length_cons]at *;omega
 case tlet h1 h2 h3 h4 h5 h6 ih=>have:=h4.gd;simp only[eO,fI,ss,pc,Fo.nms,List.length_cons]at *;omega
 case tfor h1 h2 h3 h4 h5 h6 h7 i1 i2=>have:=h4.gd;simp only[eO,fI,ss,pc,Fo.nms,List.length_cons]at *;omega
 case teach h1 h2 h3 h4 h5 h6 h7 h8 h9 i1 i2=>have:=h4.gd;simp only[eO,fI,ss,pc,Fo.nms,List.length_cons]at *;omega
 case ttry h1 h2 h3 h4 h5 h6 h7 h8 i1 i2=>have:=h7.gd;simp only[eO,fI,ss,pc,Fo.nms,List.length_cons]at *;omega
 case body h1 h2 h3 h4 ih=>have:=h3.gd;simp only[eO,fI,ss,pc,Fo.nms,List.length_cons]at *;omega
 all_goals
  simp only[eO,fI,C8,ss,bH,pc,Ia,Fo.nms,List.length_cons,List.length_nil]at *;omega
theorem pd:∀(R:Fo)(K b:Nat),cnt K (R.flat b)+R.len=K+8*R.sz+R.nms
 | .nil,K,b=>by simp[Fo.flat,cnt,Fo.len,Fo.sz,Fo.nms]
 | .cons N k r,K,b=>by
  have e:=pd k K b;have d:=pd r (vz (cnt K (k.flat b)) {N with ks:=k.tops b}) (b+k.sz+1);have c:=k.tops_len b;rw[Fo.flat,tY,cnt];have a:vz (cnt K (k.flat b)) {N with ks:=k.tops b}=cnt K (k.flat b)+7+N.nm.length+(k.tops b).length:=rfl;simp only[Fo.len,Fo.sz,Fo.nms];omega
theorem JA(s:ByteArray)(p:Nat)(e:p<s.size):(rdI s p).x.size<=s.size:=by
 have a:∀b c,(s.extract b c).size<=s.size:=fun b c=>by rw[ByteArray.size_extract];omega
 unfold rdI;split
 ·show(wf s p).2.size<=_;unfold wf;split
  ·exact Nat.zero_le _
  ·exact a _ _
 split
 ·split
  ·show(kE s p).2.2.size<=_;unfold kE;split
   ·exact Nat.zero_le _
   split
   ·exact Nat.zero_le _
   ·exact a _ _
  ·exact Nat.zero_le _
 split
 ·split
  ·show(kZ _).size<=_;have d:=(ia s (s.size+1) (p+1) [] e).2.2;rw[yU];simp at d;omega
  ·exact Nat.zero_le _
 split
 ·exact Nat.zero_le _
 ·exact Nat.zero_le _
theorem yD(s:ByteArray):∀(f:Nat)(st:List Int)(p:Nat)(l:Int)(a:List Tk),(∀T∈a,T.x.size<=s.size)->∀T∈(kH s f st p l a).1,T.x.size<=s.size
 |0,st,p,l,a,h=>fun T hT=>by cases hT
 |f+1,st,p,l,a,h=>by
  have b:∀(c:Tk),c.x.size<=s.size->∀T∈a++[c],T.x.size<=s.size:=fun c e T hT=>by
   rcases List.mem_append.1 hT with hT|hT
   ·exact h T hT
   ·rw[List.mem_singleton.1 hT];exact e
  rw[kH];split
  ·exact b _ (Nat.zero_le _)
  ·rename_i g;have d:=JA s p (by omega);split
   ·split
    ·exact yD s f _ _ _ _ (b _ d)
    ·exact yD s f _ _ _ _ h
   ·split
    ·split
     ·exact yD s f _ _ _ _ (b _ d)
     ·exact fun T hT=>by cases hT
    ·exact fun T hT=>by cases hT
theorem yE(s:ByteArray):∀(f:Nat)(st:List Int)(p:Nat)(l:Int)(b:List Tk),p<=s.size->(kH s f st p l b).1.length<=b.length+(s.size-p)+1
 |0,st,p,l,b,h=>Nat.zero_le _
 |f+1,st,p,l,b,h=>by
  rw[kH];split
  ·simp
  ·rename_i j;have d:∀q,q<=s.size->q<=blk s (s.size+1) q/\blk s (s.size+1) q<=s.size:=fun q e=>ir s (s.size+1) q e;split
   ·rename_i g;have c:=fD s p (by omega) (ER s p g).1;have:=d _ c.2.1;split
    ·have:=yE s f (feedL st 5).1 (blk s (s.size+1) (rdI s p).a) (l+1) (b++[⟨5,(p:Nat),((rdI s p).a:Nat),l,(rdI s p).n,(rdI s p).x⟩]) (by omega);simp only[List.length_append,List.length_singleton]at this;omega
    ·have:=yE s f st (blk s (s.size+1) (rdI s p).a) (l+1) b (by omega);omega
   ·split
    ·split
     ·rename_i i;have c:=fD s p (by omega) i;have:=d _ c.2.1;have:=yE s f (feedL st (gX s p)).1 (blk s (s.size+1) (rdI s p).a) l (b++[⟨gX s p,(p:Nat),((rdI s p).a:Nat),l,(rdI s p).n,(rdI s p).x⟩]) (by omega);simp only[List.length_append,List.length_singleton]at this;omega
     ·exact Nat.zero_le _
    ·exact Nat.zero_le _
theorem su(p:Nd->Prop)(c:∀(N:Nd) (ks:List Int),p N->p {N with ks:=ks}):∀(R:Fo)(b:Nat),R.all p->∀N∈R.flat b,p N/\N.ks.length<=R.sz
 | .nil,b,h=>fun N hN=>by cases hN
 | .cons e k r,b,h=>fun N hN=>by
  have f:=k.len_le;have g:=k.tops_len b;rw[Fo.flat,List.mem_append,List.mem_cons]at hN;rcases hN with hN|rfl|hN
  ·obtain⟨a,d⟩:=su p c k b h.2.1 N hN;exact⟨a,by rw[Fo.sz];omega⟩
  ·exact⟨c _ _ h.1,by rw[Fo.sz];show(k.tops b).length<=_;omega⟩
  ·obtain⟨a,d⟩:=su p c r _ h.2.2 N hN;exact⟨a,by rw[Fo.sz];omega⟩
def gy(s:ByteArray)(R:Fo):List Nd:=(one ⟨1,0,(s.size:Nat),1,0,0,⟨#[]⟩,[],[]⟩ R).flat 0
structure PF (s:ByteArray) (toks:List Tk) (m:Nat) (R:Fo) (lz:Int):Prop where
 len:toks.length=m+1
 le:m<=s.size
 p:P (jK toks) (m+1) .stats 0 R m
 k78:∀q,(jK toks q).k<=78
 k6:∀q,q<m->(jK toks q).k≠6
 end_:jK toks m=⟨6,(s.size:Nat),(s.size:Nat),lz,0,⟨#[]⟩⟩
 sz:R.sz<=200000
 sm:∀N∈gy s R,dP N
 ct:cnt 1 (gy s R)<=2000000
theorem JB{s:ByteArray}(y:s.size<=65536){toks:List Tk}{st:List Int}(h:du s=(toks,st, -1))(F:(feedL st 6).2=true):∃m R f,PF s toks m R f:=by
 obtain⟨m,R,f,C,z,d,E⟩:=H9 h F;obtain⟨H,G,b,u⟩:=oY s _ _ _ _ _ toks st h;rw[List.nil_append]at b;have K:=ir s (s.size+1) 0 (Nat.zero_le _);have o:=yE s (s.size+1) [100,6] (blk s (s.size+1) 0) 1 [] (by omega);have c:=yD s (s.size+1) [100,6] (blk s (s.size+1) 0) 1 [] (fun e t=>by cases t);have q:kH s (s.size+1) [100,6] (blk s (s.size+1) 0) 1 []=(toks,st, -1):=h;rw[q]at o c;simp only[List.length_nil]at o;have A:=d.pos;simp only[bC,Dw,Dx]at A;have x:=d.nms;have B:=d.gd trivial;have l:(one ⟨1,0,(s.size:Nat),1,0,0,⟨#[]⟩,[],[]⟩ R:Fo).sz=R.sz+1:=ag _ _;have p:∀a,(jK toks a).x.size<=65536:=fun a=>by
  unfold jK;rw[List.getD_eq_getElem?_getD];cases hq:toks[a]? with
  |none=>exact Nat.zero_le _
  |some e=>exact Nat.le_trans (c e (List.mem_of_getElem? hq)) y
 have r:∀a,(jK toks a).k<=78:=fun a=>by
  unfold jK;rw[List.getD_eq_getElem?_getD];cases hq:toks[a]? with
  |none=>show(0:Int)<=78;decide
  |some e=>
   have:=List.mem_of_getElem? hq;rw[b,List.mem_append,List.mem_singleton]at this;rcases this with g|g
   ·have:=F6 u g;show e.k<=78;omega
   ·rw[g];show(6:Int)<=78;decide
 refine⟨m,R,f,C,by omega,d,r,E,z,by omega,fun j w=>?_,?_⟩
 ·obtain⟨g,v⟩:=su (Gd (jK toks) (m+1)) (fun j I h=>h) _ 0 ((cW _ _ R).2 ⟨⟨.inl rfl,Nat.zero_le _,fun i c=>by cases c⟩,B⟩) j w;rw[l]at v;refine⟨by have:=g.2.1;omega,by omega,?_,fun i c=>?_⟩
  ·rcases g.1 with b|⟨a,b⟩
   ·rw[b];exact Nat.zero_le _
   ·rw[b];have:=p a;omega
  ·obtain⟨a,b⟩:=g.2.2 i c;rw[b];have:=p a;omega
 ·have:=pd (one ⟨1,0,(s.size:Nat),1,0,0,⟨#[]⟩,[],[]⟩ R) 1 0;rw[l,eO]at this;simp only[ss]at x;have J:([]:List ByteArray).length=0:=rfl;unfold gy;show cnt 1 (Fo.flat (one ⟨1,0,(s.size:Nat),1,0,0,⟨#[]⟩,[],[]⟩ R) 0)<=_;simp only[List.length_nil]at this;omega
def cO(p:Nat->Bool):Nat->Nat->Option Nat
 |0,_=>none
 |f+1,j=>if p j=true then some j else cO p f (j+1)
structure jL (p:Nat->Bool) (f j:Nat) (R:Option Nat):Prop where
 out:cO p f j=R
def vB(i:Nat):List Int->List Int->List Int
 |[],D=>D
 |k::r,D=>vB i r (D.set k.toNat (D.getD i 0+1))
def DB(ns:List Nd):Nat->List Int->List Int
 |0,D=>D
 |m+1,D=>DB ns m (vB m (ns.getD m za).ks D)
def sw(ns:List Nd):List Int:=DB ns ns.length (List.replicate ns.length 0)
def gN(ns:List Nd):Bool:=decide (ns.length=0\/3000<ns.length\/(ns.getD (ns.length-1) za).k≠1)
def bW(ns:List Nd)(i:Nat):Bool:=!(eZ ns i (ns.getD i za))
def cp(S:List Int)(i:Nat):Bool:=S.getD i 0==0
def cA(D:List Int)(i:Nat):Bool:=decide (100<D.getD i 0)
def tf4:Option Nat->Int×Int
 |some i=>(4,(i:Int))
 |none=>(0,0)
def tf3(S D:List Int)(n:Nat):Option Nat->Int×Int
 |some i=>(3,(i:Int))
 |none=>if S.getD (n-1) 0≠(n:Int) then(3,(n:Int)-1) else tf4 (cO (cA D) n 0)
def Ll(S D:List Int)(n:Nat):Option Nat->Int×Int
 |some i=>(2,(i:Int))
 |none=>tf3 S D n (cO (cp S) n 0)
def bv(ns:List Nd):Int×Int:=if gN ns=true then(1,0) else Ll (dR ns) (sw ns) ns.length (cO (bW ns) ns.length 0)
def zX(n:Nat)(D:List Int):Prop:=D.length=n/\∀(a:Nat) z,D[a]?=some z->0<=z/\z<=(n:Int)-1-a
theorem zX.set{n:Nat}{D:List Int}(h:zX n D)(i q:Nat)(j:i<n)(g:q<i):zX n (D.set q (D.getD i 0+1)):=by
 obtain⟨f,b⟩:=h;refine⟨by simp[f],fun d e a=>?_⟩;by_cases c:q=d
 ·subst c;rw[List.getElem?_set_self (by omega)]at a;obtain rfl:=Option.some.inj a;rw[List.getD_eq_getElem?_getD,List.getElem?_eq_getElem (by omega)];have:=b i D[i] (List.getElem?_eq_getElem (by omega));simp;omega
 ·rw[List.getElem?_set_ne c]at a;exact b d e a
theorem pf{p:Nat->Bool}:∀{f j:Nat},cO p f j=none->∀k,j<=k->k<j+f->p k=false
 |0,j,_,k,a,b=>by omega
 |f+1,j,h,k,a,b=>by
  rw[cO]at h;split at h
  ·cases h
  ·rename_i c;rcases Nat.eq_or_lt_of_le a with rfl|g
   ·simpa using c
   ·exact pf h k g (by omega)
def cX(b:Nat)(W:World)(c n:Int):Prop:=W.heap[b]?=some (.cells #[.int .i64 c,.int .i64 n] 36 (0,0))
theorem cR{b:Nat}{W:World}{c n:Int}(h:cX b W c n):W.cell? ⟨b,0,none⟩=some (.int .i64 c)/\W.cell? ⟨b,1,none⟩=some (.int .i64 n)/\∀j,W.frozen? ⟨b,j,none⟩=false:=by
 unfold cX at h;exact⟨by rw[cell_of_row _ _ _ _ _ _ h];rfl,by rw[cell_of_row _ _ _ _ _ _ h];rfl,fun j=>frozen_of_row _ _ _ _ _ h⟩
theorem fj{b:Nat}{W:World}{c n:Int}(h:cX b W c n)(a n2:Int):cX b ((W.setCell ⟨b,0,none⟩ (.int .i64 a)).setCell ⟨b,1,none⟩ (.int .i64 n2)) a n2:=heap_setCell_same _ b 1 _ _ _ (heap_setCell_same _ b 0 _ _ _ h)
theorem cX.below{b:Nat}{W a:World}{c n:Int}(h:cX b W c n)(d:Below W.heap.size W a):cX b a c n:=(d.block _ (lt_of_block h)).trans h
theorem uS(w:World)(v:Value)(ns:List Nd)(h:bf w v ns)(u:ns.length<=1048576)(l:gN ns=true):
  Calls Tryz.prog 11 #[.agg #[v]] w fun e B=>e= .returned (.agg #[.int .i64 1,.int .i64 0])/\Below w.heap.size w B:=by
 obtain⟨I,K,rfl⟩:=h.form;have g:∀b c,Below w.heap.size w ((w.alloc b).alloc c):=fun b c=>((Below.refl _ w).alloc (Nat.le_refl _) b).alloc (by simp) c;have s:∀b (i:Array Value) (j:TypeId),((w.alloc b).alloc (.cells i j)).heap[w.heap.size+1]?=some (.cells i j (0,0)):=fun b i j=>by
  have:=heap_alloc_new (w.alloc b) (.cells i j);rw[World.size_alloc]at this;exact this
 have q:=of_decide_eq_true l;by_cases d:ns.length=0
 ·rw[d];go_in;go_wp2;exact bodyPost_ret (results_cell_row rfl _ _ (w.heap.size+1) _ _ _ _ rfl (s _ _ _) Tryz.underlying36 rfl (by kernel_rfl)) rfl ⟨rfl,g _ _⟩
 by_cases f:3000<ns.length
 ·have A:(3000:Int)<(ns.length:Int):=by omega
  have C:¬(ns.length:Int)=0:=by omega
  generalize ns.length=n at C A u⊢;clear h l q d f;go_in;go_wp2;exact bodyPost_ret (results_cell_row rfl _ _ (w.heap.size+1) _ _ _ _ rfl (s _ _ _) Tryz.underlying36 rfl (by kernel_rfl)) rfl ⟨rfl,g _ _⟩
 ·have z:(ns.getD (ns.length-1) za).k≠1:=by rcases q with e|e|e;exact absurd e d;exact absurd e f;exact e
  have m:ns.length-1<ns.length:=by omega
  obtain⟨p,o⟩:∃p,ns[ns.length-1]?=some p:=⟨_,List.getElem?_eq_getElem m⟩;rw[List.getD_eq_getElem?_getD,o,Option.getD_some]at z;obtain⟨y,rfl,N,O,x⟩:=h.get o;have r:=x.c0;obtain⟨n,t⟩:=ah ns.length;rw[t]at r d f u m⊢;obtain⟨a,E⟩:∃a:Nat,n=a+1:=⟨n-1,by omega⟩;subst E;rw[Nat.add_sub_cancel]at r;have F:((a+1:Nat):Int)-1=(a:Int):=by omega
  have Q:¬((a+1:Nat):Int)=0:=by omega
  have J:¬(3000:Int)<((a+1:Nat):Int):=by omega
  have R:(a:Int)<((a+1:Nat):Int):=by omega
  have G:(0:Int)<=(a:Int):=by omega
  have S:(((a:Int)+1)==0)=false:=by rw[beq_eq_false_iff_ne];omega
  have M:decide ((3000:Int)<(a:Int)+1)=false:=decide_eq_false (by omega);have L:(a:Int)<(a:Int)+1:=by omega
  have H:∀b c,((w.alloc b).alloc c).cell? (y.add (a*9))=some (.int .i64 p.k):=fun b c=>aa (g b c) r;clear h l q d f o x t m;go_in;go_wp2;exact bodyPost_ret (results_cell_row rfl _ _ (w.heap.size+1) _ _ _ _ rfl (s _ _ _) Tryz.underlying36 rfl (by kernel_rfl)) rfl ⟨rfl,g _ _⟩
structure uT (w:World) (v:Value) (W:World):Prop where
 tb:W.heap[w.heap.size]?=some (.cells #[v] 24 (0,0))
 fb:cX (w.heap.size+1) W 0 0
 bl:Below w.heap.size w W
theorem uT.below{w:World}{v:Value}{W b:World}(h:uT w v W)(a:Below W.heap.size W b):uT w v b:=
 ⟨(a.block _ (lt_of_block h.tb)).trans h.tb,h.fb.below a,h.bl.trans (a.mono h.bl.size)⟩
structure Ib (w:World) (v:Value) (gd n:Nat) (ns:List Nd) (t:Nat) (D:List Int) (W:World):Prop where
 tk:uT w v W
 row:W.ownsRow w.heap.size 3 1 (.slice (some ⟨gd,0,none⟩) n n) n (D.map (Value.int .i64))
 ok:zX n D
 rest:DB ns t D=sw ns
structure Ic (w:World) (v:Value) (gd n t:Nat) (ks D:List Int) (j:Nat) (E:List Int) (W:World):Prop where
 tk:uT w v W
 row:W.ownsRow w.heap.size 3 1 (.slice (some ⟨gd,0,none⟩) n n) n (E.map (Value.int .i64))
 ok:zX n E
 rest:vB t (ks.drop j) E=vB t ks D
theorem aN{b:Nat}{W:World}{v:Value}{t:TypeId}(h:W.heap[b]?=some (.cells #[v] t (0,0))):W.cell? ⟨b,0,none⟩=some v:=by
 rw[cell_of_row _ _ _ _ _ _ h];rfl
theorem uU(w:World)(v:Value)(ns:List Nd)(h:bf w v ns)(d9:ns.length<=1048576)(cs:∀N∈ns,dP N)(bn:gN ns=false):
  Calls Tryz.prog 11 #[.agg #[v]] w fun e es=>e= .returned (.agg #[.int .i64 (bv ns).1,.int .i64 (bv ns).2])/\Below w.heap.size w es:=by
 obtain⟨f3,l,rfl⟩:=h.form;have a7:=of_decide_eq_false bn;have J:=cS h cs bn;have c2:¬ns.length=0:=fun e=>a7 (.inl e);have ek:¬3000<ns.length:=fun e=>a7 (.inr (.inl e));have bd:(ns.getD (ns.length-1) za).k=1:=by
  by_cases ap:(ns.getD (ns.length-1) za).k=1
  ·exact ap
  ·exact absurd (.inr (.inr ap)) a7
 obtain⟨N,C⟩:∃N,ns[ns.length-1]?=some N:=⟨_,List.getElem?_eq_getElem (by omega)⟩;rw[List.getD_eq_getElem?_getD,C,Option.getD_some]at bd;obtain⟨j,rfl,fB,gs,cv⟩:=h.get C;have an:=cv.c0;rw[bd]at an;have b9:∀Q B,Below w.heap.size w ((w.alloc Q).alloc B):=fun Q B=>((Below.refl _ w).alloc (Nat.le_refl _) Q).alloc (by simp) B;obtain⟨n,bh⟩:=ah ns.length;obtain⟨F,hF⟩:=ah (bv ns);have r:=cK bh hF;rw[hF];rw[bh]at J an c2 ek⊢;obtain⟨a,e8⟩:∃a:Nat,n=a+1:=⟨n-1,by omega⟩;have cl:n-1=a:=by omega
 rw[cl]at an;have cn:(0:Int)<=(a:Int):=by omega
 have eh:¬(n:Int)=0:=by omega
 have eq:¬(3000:Int)<(n:Int):=by omega
 have e1:(a:Int)<(n:Int):=by omega
 have ex:(n:Int)-1=(a:Int):=by omega
 have f7:(((a:Int)+1)==0)=false:=by rw[beq_eq_false_iff_ne];omega
 have fA:decide ((3000:Int)<(a:Int)+1)=false:=decide_eq_false (by omega);have f5:(a:Int)<(a:Int)+1:=by omega
 have en:∀Q B,((w.alloc Q).alloc B).cell? (j.add (a*9))=some (.int .i64 1):=fun Q B=>aa (b9 Q B) an;clear h bn a7 c2 bd C cv bh d9 cs hF cl an eh eq e1 ex;subst e8;go_in;go_wp2_with fail;have c9:((w.alloc (.cells #[.slice (some j) (a+1) l] 24)).alloc (.cells #[.int .i64 0,.int .i64 0] 36)).heap[w.heap.size]?=some (.cells #[.slice (some j) (a+1) l] 24 (0,0)):=(Below.heap_alloc _ _ _ (by simp)).trans (heap_alloc_new w _);have cF:cX (w.heap.size+1) ((w.alloc (.cells #[.slice (some j) (a+1) l] 24)).alloc (.cells #[.int .i64 0,.int .i64 0] 36)) 0 0:=by
  have:=heap_alloc_new (w.alloc (.cells #[.slice (some j) (a+1) l] 24)) (.cells #[.int .i64 0,.int .i64 0] 36);rw[World.size_alloc]at this;exact this
 have cw:=b9 (.cells #[.slice (some j) (a+1) l] 24) (.cells #[.int .i64 0,.int .i64 0] 36);have b4:uT w (.slice (some j) (a+1) l) ((w.alloc (.cells #[.slice (some j) (a+1) l] 24)).alloc (.cells #[.int .i64 0,.int .i64 0] 36)):=⟨c9,cF,cw⟩;generalize (w.alloc (.cells #[.slice (some j) (a+1) l] 24)).alloc (.cells #[.int .i64 0,.int .i64 0] 36)=f9 at b4⊢;obtain⟨bE,b7⟩:=ah (cO (bW ns) (a+1) 0);have bt:=ab b7;have cT:jL (bW ns) (a+1-0) 0 bE:=⟨b7⟩;clear b7 c9 cF cw en;go_loopw [39] (fun k wr=>∃b:Nat,b<=a+1/\k= .int .i64 b/\jL (bW ns) (a+1-b) b bE/\uT w (.slice (some j) (a+1) l) wr) (fun k _=>a+1-(intOf k).toNat)
 case atStart=>exact⟨0,Nat.zero_le _,rfl,cT,b4⟩
 case round=>
  obtain⟨b,cN,rfl,o,z⟩:=hrel;clear b4 cT;have c:=o.out;by_cases ec:b<a+1
  ·obtain⟨a8,am⟩:=aF r.out.1 ec;have cb:(b:Int)<(a:Int)+1:=by omega
   have cc:(0:Int)<=(b:Int):=by omega
   have a0:=rZ wr (.slice (some j) (a+1) l) ns b a8 (J.out.1.below z.bl) (by rw[r.out.1];omega) am (J.out.2.1 a8 (List.mem_of_getElem? am));have Z:=aN z.tb;obtain⟨M,O,T⟩:=cR z.fb;rw[show a+1-b=(a+1-(b+1))+1 by omega,cO]at c;have A:bW ns b=!(eZ ns b a8):=by unfold bW;rw[List.getD_eq_getElem?_getD,am];rfl
   rw[A]at c;have a4:=ab z;cases hx:eZ ns b a8 with
   |true=>
    rw[hx]at a0 c;rw[if_neg (by decide)]at c;have ar:jL (bW ns) (a+1-(b+1)) (b+1) bE:=⟨c⟩;clear c hx A am z o M O T;go_wp2_with (go_at_call 25;refine a0.mono ?_;rintro e I ⟨rfl,R⟩);exact⟨⟨b+1,by omega,by go_num,ar,a4.out.below R⟩,by simp[intOf];omega⟩
   |false=>
    rw[hx]at a0 c;rw[if_pos (by decide)]at c;have K:Hid (F=(2,(b:Int))):=by
     show F=(2,(b:Int));rw[<-r.out.2];unfold bv;rw[J.out.2.2,if_neg (by decide),r.out.1,bt.out,<-c];rfl
    clear c hx A am z o M O T;go_wp2_with fail;refine a0.mono ?_;rintro e I ⟨rfl,R⟩;have g:=a4.out.below R;obtain⟨M,O,T⟩:=cR g.fb;have u:=ab g;clear g R;go_wp2_with fail;have g:=u.out;exact bodyPost_ret (results_cell_row rfl _ _ (w.heap.size+1) _ _ _ _ rfl (fj g.fb 2 b) Tryz.underlying36 rfl (by kernel_rfl)) rfl ⟨by rw[K.out],(g.bl.setCell (by simp) _).setCell (by simp) _⟩
  ·obtain rfl:b=a+1:=by omega
   rw[Nat.sub_self,cO]at c;have d7:=ab c.symm;have c5:=pf (show cO (bW ns) (a+1) 0=none by rw[bt.out];exact c.symm);have al:∀(G:Nat) N,ns[G]?=some N->∀i∈N.ks,0<=i/\i<(G:Int):=fun G N C i f=>by
    have bb:G<a+1:=by rw[<-r.out.1];exact(List.getElem?_eq_some_iff.1 C).1
    have H:=c5 G (Nat.zero_le _) (by omega);unfold bW at H;rw[List.getD_eq_getElem?_getD,C,Option.getD_some]at H;have bw:eZ ns G N=true:=by simpa using H
    unfold eZ at bw;have ed:uG N.ks G N.ks.length 0=true:=by
     rw[Bool.and_eq_true,Bool.and_eq_true]at bw;exact bw.2.1
    obtain⟨p,br,rfl⟩:=List.getElem_of_mem f;have:=rX N.ks G N.ks.length 0 ed p (by omega) (by omega);rw[List.getD_eq_getElem?_getD,List.getElem?_eq_getElem br]at this;simpa using this
   have b6:=uL wr (.slice (some j) (a+1) l) ns (J.out.1.below z.bl) (by rw[r.out.1];omega) (fun N C=>(J.out.2.1 N C).l2) al;rw[r.out.1]at b6;have cI:=ab al;have Z:=aN z.tb;have a4:=ab z;have ep:=z.bl.size;have fo:w.heap.size+1<wr.heap.size:=lt_of_block z.fb;clear c c5 al z o;go_wp2_with fail;refine b6.mono ?_;rintro e I ⟨ap,rfl,b8,R⟩;have g:=a4.out.below R;obtain⟨t,hS⟩:=ah (dR ns);have cm:t.length=a+1:=by rw[<-hS,fH,r.out.1]
   rw[hS]at b8;have cx:Hid (dR ns=t/\t.length=a+1/\sj t):=⟨hS,cm,by rw[<-hS];exact sn ns (fun N C i f=>by
    obtain⟨G,bb,e⟩:=List.getElem_of_mem C;exact(cI.out G N (by rw[List.getElem?_eq_getElem bb,e]) i f).1)⟩
   have u:=cK g b8;obtain⟨av,a3⟩:=ah (cO (cp t) (a+1) 0);have gp:=ab a3;have ar:jL (cp t) (a+1-0) 0 av:=⟨a3⟩;have b0:Hid (bv ns=tf3 t (sw ns) (a+1) av):=by
    show bv ns=_;unfold bv;rw[J.out.2.2,if_neg (by decide),r.out.1,bt.out,d7.out,hS];show tf3 t (sw ns) (a+1) (cO (cp t) (a+1) 0)=_;rw[a3]
   clear hS cm a3 g b8 R b6 Z;go_wp2_with fail;go_loop [53] (fun k=>∃b:Nat,b<=a+1/\k= .int .i64 b/\jL (cp t) (a+1-b) b av) (fun k=>a+1-(intOf k).toNat)
   case atStart=>exact⟨0,Nat.zero_le _,rfl,ar⟩
   case round=>
    obtain⟨b,gr,rfl,o⟩:=hrel;clear ar;have c:=o.out;by_cases dn:b<a+1
    ·have cb:(b:Int)<(a:Int)+1:=by omega
     have cc:(0:Int)<=(b:Int):=by omega
     obtain⟨i,f⟩:=aF cx.out.2.1 dn;have bs:I.cell? ⟨ap,b,none⟩=some (.int .i64 i):=by rw[u.out.2.cellAt b (by omega),List.getElem?_map,f];rfl
     rw[show a+1-b=(a+1-(b+1))+1 by omega,cO]at c;have A:cp t b=(i==0):=by unfold cp;rw[List.getD_eq_getElem?_getD,f];rfl
     rw[A]at c;by_cases a5:i=0
     ·subst a5;rw[if_pos (by decide)]at c;have K:Hid (F=(3,(b:Int))):=by
       show F=(3,(b:Int));rw[<-r.out.2,b0.out,<-c];rfl
      obtain⟨M,O,T⟩:=cR u.out.1.fb;clear c A f o;go_wp2_with fail;have g:=u.out.1;exact bodyPost_ret (results_cell_row rfl _ _ (w.heap.size+1) _ _ _ _ rfl (fj g.fb 3 b) Tryz.underlying36 rfl (by kernel_rfl)) rfl ⟨by rw[K.out],(g.bl.setCell (by simp) _).setCell (by simp) _⟩
     ·rw[if_neg (by simpa using a5)]at c;have b2:jL (cp t) (a+1-(b+1)) (b+1) av:=⟨c⟩;clear c A f o;go_wp2_with fail;go_round
      case rel=>exact⟨b+1,by omega,by go_num,b2⟩
      case measure=>simp[intOf];omega
    ·obtain rfl:b=a+1:=by omega
     rw[Nat.sub_self,cO]at c;have d4:=ab c.symm;obtain⟨i,f⟩:=aF cx.out.2.1 (show a<a+1 by omega);have bs:I.cell? ⟨ap,a,none⟩=some (.int .i64 i):=by rw[u.out.2.cellAt a (by omega),List.getElem?_map,f];rfl
     have X:t.getD a 0=i:=by rw[List.getD_eq_getElem?_getD,f];rfl
     have y:=b0.out;rw[d4.out,tf3,Nat.add_sub_cancel,X]at y;by_cases e7:i=(a:Int)+1
     ·rw[if_neg (by omega)]at y;have d0:=ab y;subst e7;have Z:=aN u.out.1.tb;clear c y f X o;obtain⟨cn,bb,a5,d6,e9⟩:=info_parts gD;have ef:=u.out.1.bl.size;go_wp2_with (at_make;refine wpList_make_full _ rfl _ _ 67 rfl w.heap.size 3 cn (.int .i64 0) 1 Tryz.underlying67 bb a5 d6 .i64 .i64 _ _ (a+1) rfl rfl rfl rfl (by rw[e9];omega) (by unfold maxLen;omega) ef ?_;intro ch b5 Y;have bk:Below I.heap.size I ch:=⟨Y.os,Y.tape,Y.output,Y.size,fun b cN=>Y.block b cN (by simp)⟩;have e4:=aa bk Z);rw[show(madeCells (Value.int .i64 0).cells ((a+1)*1)).toList=List.replicate (a+1) (Value.int .i64 0) by rw[Nat.mul_one];exact toList_madeCells_one _ _]at b5;have b1:Ib w (.slice (some j) (a+1) l) I.heap.size (a+1) ns (a+1) (List.replicate (a+1) 0) ch:=by
       refine⟨u.out.1.below bk,?_,⟨by simp,fun x i f=>?_⟩,?_⟩
       ·rw[List.map_replicate];exact b5
       ·rw[List.getElem?_replicate]at f;split at f
        ·obtain rfl:=Option.some.inj f;omega
        ·cases f
       ·unfold sw;rw[r.out.1]
      have ev:w.heap.size+1<I.heap.size:=lt_of_block u.out.1.fb;clear b5 Y bk e4 Z bs;obtain⟨s,X⟩:=ah I.heap.size;rw[X]at b1 ev⊢;have cP:=ab b1;clear b1 X u b0;go_loopw [8] (fun k wr=>∃(d:Nat) (D:List Int),d<=a+1/\k= .int .i64 ((d:Int)-1)/\Hid (Ib w (.slice (some j) (a+1) l) s (a+1) ns d D wr)) (fun k _=>(intOf k+1).toNat)
      case atStart=>exact⟨a+1,_,Nat.le_refl _,by congr 1;omega,cP⟩
      case round=>
       obtain⟨d,D,fF,rfl,q⟩:=hrel;clear cP;cases d with
       |zero=>
        have fk:¬(0:Int)<=((0:Nat):Int)-1:=by omega
        have cg:D=sw ns:=q.out.rest;have af:=cS q.out.tk q.out.row q.out.ok.1;have y:=d0.out;rw[<-cg]at y;obtain⟨bD,bo⟩:=ah (cO (cA D) (a+1) 0);rw[bo,r.out.2]at y;have c7:=ab y;have cB:jL (cA D) (a+1-0) 0 bD:=⟨bo⟩;clear y bo cg q;go_wp2_with fail;go_loop [110] (fun k=>∃b:Nat,b<=a+1/\k= .int .i64 b/\jL (cA D) (a+1-b) b bD) (fun k=>a+1-(intOf k).toNat)
        case atStart=>exact⟨0,Nat.zero_le _,rfl,cB⟩
        case round=>
         obtain⟨b,gb,rfl,o⟩:=hrel;clear cB;have c:=o.out;by_cases ea:b<a+1
         ·have cb:(b:Int)<(a:Int)+1:=by omega
          have cc:(0:Int)<=(b:Int):=by omega
          obtain⟨i,f⟩:=aF af.out.2.2 ea;have bs:wr.cell? ⟨s,b,none⟩=some (.int .i64 i):=by rw[af.out.2.1.cellAt b (by omega),List.getElem?_map,f];rfl
          rw[show a+1-b=(a+1-(b+1))+1 by omega,cO]at c;have A:cA D b=decide (100<i):=by unfold cA;rw[List.getD_eq_getElem?_getD,f];rfl
          rw[A]at c;by_cases c6:100<i
          ·rw[if_pos (decide_eq_true c6)]at c;have K:Hid (F=(4,(b:Int))):=by
            show F=(4,(b:Int));rw[c7.out,<-c];rfl
           obtain⟨M,O,T⟩:=cR af.out.1.fb;clear c A f o;go_wp2_with fail;have g:=af.out.1;exact bodyPost_ret (results_cell_row rfl _ _ (w.heap.size+1) _ _ _ _ rfl (fj g.fb 4 b) Tryz.underlying36 rfl (by kernel_rfl)) rfl ⟨by rw[K.out],(g.bl.setCell (by simp) _).setCell (by simp) _⟩
          ·rw[if_neg (by simpa using c6)]at c;have b2:jL (cA D) (a+1-(b+1)) (b+1) bD:=⟨c⟩;clear c A f o;go_wp2_with fail;go_round
           case rel=>exact⟨b+1,by omega,by go_num,b2⟩
           case measure=>simp[intOf];omega
         ·obtain rfl:b=a+1:=by omega
          rw[Nat.sub_self,cO]at c;have K:Hid (F=(0,0)):=by
           show F=(0,0);rw[c7.out,<-c];rfl
          obtain⟨M,O,T⟩:=cR af.out.1.fb;clear c o;go_wp2_with fail;have g:=af.out.1;exact bodyPost_ret (results_cell_row rfl _ _ (w.heap.size+1) _ _ _ _ rfl (fj g.fb 0 0) Tryz.underlying36 rfl (by kernel_rfl)) rfl ⟨by rw[K.out],(g.bl.setCell (by simp) _).setCell (by simp) _⟩
       |succ d=>
        have ei:(((d+1:Nat)):Int)-1=(d:Int):=by omega
        rw[ei];have f6:(d:Int)<(a:Int)+1:=by omega
        have fd:(0:Int)<=(d:Int):=by omega
        obtain⟨E,W⟩:=aF r.out.1 (show d<a+1 by omega);obtain⟨gf,eN,fn,f8,b3⟩:=J.out.1.get W;obtain rfl:=Option.some.inj eN;have e6:=aa q.out.tk.bl b3.c8;have al:=cI.out d E W;have bA:=b3.hk;obtain⟨fa,ds,rfl⟩:=bA.form;obtain⟨U,a6⟩:=ah E.ks.length;have dk:=(J.out.2.1 E (List.mem_of_getElem? W)).l2;rw[a6]at e6 dk;have d5:q.out.rest=q.out.rest:=rfl;have ao:DB ns d (vB d E.ks D)=sw ns:=by
         have:=q.out.rest;rw[DB,List.getD_eq_getElem?_getD,W,Option.getD_some]at this;exact this
        have a1:=sJ a6 al ao W;have Z:=aN q.out.tk.tb;have e5:Hid (aV w (.slice fa U ds) E.ks):=by rw[<-a6];exact bA
        have cf:Hid (Ic w (.slice (some j) (a+1) l) s (a+1) d E.ks D 0 D wr):=⟨q.out.tk,q.out.row,q.out.ok,rfl⟩;have ep:=q.out.tk.bl.size;clear al bA ao b3 W a6 q d5;go_wp2_with fail;go_loopw [95] (fun k el=>∃(x:Nat) (S:List Int),x<=U/\k= .int .i64 x/\Hid (Ic w (.slice (some j) (a+1) l) s (a+1) d E.ks D x S el)) (fun k _=>U-(intOf k).toNat)
        case atStart=>exact⟨0,D,Nat.zero_le _,rfl,cf⟩
        case round=>
         obtain⟨x,S,fg,rfl,m⟩:=hrel;clear cf;by_cases e2:x<U
         ·have ge:(x:Int)<(U:Int):=by omega
          have f4:(0:Int)<=(x:Int):=by omega
          obtain⟨i,f⟩:=aF a1.out.1 e2;obtain⟨fv,dq,fm⟩:=(e5.out.below m.out.tk.bl).get f;subst dq;obtain⟨e0,fu⟩:=a1.out.2.1 i (List.mem_of_getElem? f);obtain⟨p,rfl⟩:=Int.eq_ofNat_of_zero_le e0;have br:p<d:=by omega
          obtain⟨L,a9⟩:=aF m.out.ok.1 (show d<a+1 by omega);obtain⟨e3,c3⟩:=aF m.out.ok.1 (show p<a+1 by omega);have f2:=m.out.ok.2 d L a9;have V:=m.out.row;have fc:wr.cell? ⟨s,d,none⟩=some (.int .i64 L):=by rw[V.cellAt d (by omega),List.getElem?_map,a9];rfl
          have gm:wr.cell? ⟨s,p,none⟩=some (.int .i64 e3):=by rw[V.cellAt p (by omega),List.getElem?_map,c3];rfl
          have fr:=V.frozenAt p;have d3:=(V.lt s rfl).1;have bx:S.getD d 0=L:=by rw[List.getD_eq_getElem?_getD,a9];rfl
          have B:=(V.stored p (.int .i64 (L+1))).1;rw[<-List.map_set]at B;have bN:=m.out.ok.set d p (by omega) br;rw[bx]at bN;have ao:vB d (E.ks.drop (x+1)) (S.set p (L+1))=vB d E.ks D:=by
           have H:=m.out.rest;have ca:=(List.getElem?_eq_some_iff.1 f);rw[List.drop_eq_getElem_cons ca.1,ca.2,vB,bx]at H;exact H
          have d8:s≠w.heap.size:=by omega
          have eg:s≠w.heap.size+1:=by omega
          have cr:uT w (.slice (some j) (a+1) l) (wr.setCell ⟨s,p,none⟩ (.int .i64 (L+1))):=
           ⟨(heap_setCell_other _ _ _ _ (Ne.symm d8)).trans m.out.tk.tb,(heap_setCell_other _ _ _ _ (Ne.symm eg)).trans m.out.tk.fb,m.out.tk.bl.setCell d3 _⟩
          have df:Hid (Ic w (.slice (some j) (a+1) l) s (a+1) d E.ks D (x+1) (S.set p (L+1)) (wr.setCell ⟨s,p,none⟩ (.int .i64 (L+1)))):=⟨cr,B,bN,ao⟩;have fz:(p:Int)<(a:Int)+1:=by omega
          have gn:(0:Int)<=(p:Int):=by omega
          clear f m B bN ao cr V a9 c3 bx;go_wp2_with fail;exact⟨⟨x+1,_,by omega,by go_num,df⟩,by simp[intOf];omega⟩
         ·obtain rfl:x=U:=by omega
          have ey:Hid (Ib w (.slice (some j) (a+1) l) s (a+1) ns d S wr):=by
           refine⟨m.out.tk,m.out.row,m.out.ok,?_⟩;have H:=m.out.rest;rw[List.drop_of_length_le (by rw[a1.out.1];exact Nat.le_refl _),vB]at H;rw[H];exact a1.out.2.2.1
          clear m;go_wp2_with fail;exact⟨⟨d,S,by omega,rfl,ey⟩,by simp[intOf]⟩
     ·rw[if_pos (by omega)]at y;have K:Hid (F=(3,(a:Int))):=by
       show F=(3,(a:Int));rw[<-r.out.2,y]
       congr 1
       omega
      obtain⟨M,O,T⟩:=cR u.out.1.fb;clear c y f X o;go_wp2_with fail;have g:=u.out.1;exact bodyPost_ret (results_cell_row rfl _ _ (w.heap.size+1) _ _ _ _ rfl (fj g.fb 3 a) Tryz.underlying36 rfl (by kernel_rfl)) rfl ⟨by rw[K.out],(g.bl.setCell (by simp) _).setCell (by simp) _⟩
theorem xj(w:World)(v:Value)(ns:List Nd)(h:bf w v ns)(a:ns.length<=1048576)(c:∀N∈ns,dP N):
  Calls Tryz.prog 11 #[.agg #[v]] w fun e b=>e= .returned (.agg #[.int .i64 (bv ns).1,.int .i64 (bv ns).2])/\Below w.heap.size w b:=by
 cases hb:gN ns with
 |true=>
  have e:bv ns=(1,0):=by unfold bv;rw[if_pos hb]
  rw[e];exact uS w v ns h a hb
 |false=>exact uU w v ns h a c hb
theorem yF:∀(ts:List Tk)(q i:Nat)(T:Tk),ts[q]?=some T->i<6->(mD ts)[q*6+i]?=(Ga T)[i]?
 |[],q,i,T,h,b=>by simp at h
 |a::r,0,i,T,h,b=>by
  simp at h;subst h;show(Ga a++mD r)[0*6+i]?=_;rw[List.getElem?_append_left (by show 0*6+i<6;omega),Nat.zero_mul,Nat.zero_add]
 |a::r,q+1,i,T,h,b=>by
  show(Ga a++mD r)[(q+1)*6+i]?=_;rw[List.getElem?_append_right (by show 6<=_;omega),show(q+1)*6+i-(Ga a).length=q*6+i by show _-6=_;omega];exact yF r q i T (by simpa using h) b
theorem C9{c:Array Value}{ts:List Tk}{tk:Nat->Tk}{n:Nat}(h:c.toList.take (n*6)=mD ts)(m:ts.length=n)(i:∀q T,ts[q]?=some T->{T with l:=(tk q).l}=tk q/\((tk q).k≠6->T.l=(tk q).l)):GL c tk n:=by
 intro q j;have d:=List.getElem?_eq_getElem (show q<ts.length by omega);obtain⟨f,e⟩:=i q _ d;generalize ts[q]=T at d f e;have a:∀b,b<6->c[q*6+b]?=(Ga T)[b]?:=fun b g=>by rw[<-yF ts q b T d g,<-h,List.getElem?_take,if_pos (by omega),Array.getElem?_toList]
 refine⟨T.l,?_,?_,?_,a 3 (by omega),?_,?_,e⟩;all_goals rw[<-f]
 ·exact a 0 (by omega)
 ·exact a 1 (by omega)
 ·exact a 2 (by omega)
 ·exact a 4 (by omega)
 ·exact a 5 (by omega)
def gO(s:ByteArray):List Tk×Int:=if 0<=(du s).2.2 then([],(du s).2.2) else if(feedL (du s).2.1 6).2=true then((du s).1, -1) else([],(s.size:Nat))
def ID(s:ByteArray)(w:World)(e:Ending)(c:World):Prop:=∃b a,e= .returned (.tuple #[.slice b (gO s).1.length a,.int .i64 (gO s).2])/\c.ownsRow w.heap.size 45 6 (.slice b (gO s).1.length a) (gO s).1.length (mD (gO s).1)/\Below w.heap.size w c
theorem kQ(w:World)(s:ByteArray)(U:s.size<=65536):Calls Tryz.prog 9 #[.string s] w (ID s w):=by
 have t:im (w.alloc (.cells #[.slice none 0 0] 58)) w.heap.size w.heap.size []:=⟨⟨_,heap_alloc_new w _,World.ownsRow_nil _ _ _ _⟩,Nat.le_refl _⟩;have b:=wH _ w.heap.size w.heap.size s t (by omega);have l:Hid (Below w.heap.size w (w.alloc (.cells #[.slice none 0 0] 58))):=ax w _;have h:Hid (gO s=if 0<=(du s).2.2 then([],(du s).2.2) else if(feedL (du s).2.1 6).2=true then((du s).1, -1) else([],(s.size:Nat))):=rfl;obtain⟨⟨z,q,O⟩,p⟩:∃N,du s=N:=⟨_,rfl⟩;rw[p]at b h;unfold uo at b;simp only at b h;obtain⟨R,e⟩:=ah z.length;rw[e]at b;clear p t;go_in;go_wp2_with fail;generalize w.alloc (.cells #[.slice none 0 0] 58)=W at b l⊢;refine b.mono ?_;rintro a r ⟨L,E,F,K,rfl,i,f,k,j,H,X,T⟩;have x:Below w.heap.size w r:=l.out.trans (H.mono (Nat.le_refl _));clear b;by_cases o:0<=O
 ·have a:=h.out;rw[if_pos o]at a;have c:=ab a;clear i f k j a e;go_wp2_with fail;go_ret2;exact(show ID _ _ _ _ from⟨none,0,by rw[c.out];rfl,by rw[c.out];exact World.ownsRow_nil _ _ _ _,x⟩)
 ·have a:=h.out;rw[if_neg o]at a;have g:=jY r w.heap.size w.heap.size K q F 6 f k j (by decide) (by decide) (by omega);unfold io at g;obtain⟨S,A,_⟩:=f.ex;have d:=cS i A e;obtain⟨G,u⟩:=ah ((feedL q 6).2);rw[u]at g a;have c:=ab a;clear a i f k j e A u;go_wp2_with fail;refine g.mono ?_;rintro a I ⟨Y,D,rfl,J,B,V,y,C⟩;have v:Below w.heap.size w I:=x.trans (C.mono (Nat.le_refl _));have m:=y.row d.out.2.1 d.out.1 (by decide) (by decide);have M:=ab m;clear g J B y m;cases G with
  |true=>
   go_wp2_with fail;go_ret2;have a:=c.out;rw[if_pos trivial]at a;have Q:(gO s).1=z:=by rw[a]
   exact(show ID _ _ _ _ from⟨L,E,by rw[a];simp only[d.out.2.2];rfl,by rw[Q,d.out.2.2];exact M.out,v⟩)
  |false=>
   go_wp2_with fail;go_ret2;have a:=c.out;rw[if_neg (by simp)]at a;exact(show ID _ _ _ _ from⟨none,0,by rw[a];rfl,by rw[a];exact World.ownsRow_nil _ _ _ _,v⟩)
def uV(c a:Int)(v:Value):Value:= .agg #[.int .i64 c,.int .i64 a,v]
def Fv(w:World)(c a:Int)(ns:List Nd)(e:Ending)(d:World):Prop:=∃b,e= .returned (uV c a b)/\bf d b ns/\Below w.heap.size w d
def F7(ns:List Nd):Int:=if(bv ns).1=0 then 0 else 2
def Fw(ns:List Nd):List Nd:=if(bv ns).1=0 then ns else []
end Go.Proofs.YtcbmoiabehpliaaGreatDoor
namespace Go.Proofs.YtcbmoiabehpliaaGreatDoor
open Go.RowKit
theorem Da{S:List Int}{n:Nat}(hS:sj S)(c:S.length=n)(d:1<=n):S.getD (n-1) 0≠(n:Int)↔S.getD (n-1) 0<(n:Int):=by
 obtain⟨b,a⟩:=aF c (show n-1<n by omega);have e:=hS _ b a;rw[List.getD_eq_getElem?_getD,a,Option.getD_some];omega
end Go.Proofs.YtcbmoiabehpliaaGreatDoor
