import Derived.Test.YtkfgnpcanadjhaaGreatDoorHSk27
set_option linter.all false
set_option maxRecDepth 100000
set_option maxHeartbeats 12800000
namespace Go.Proofs.YtkfgnpcanadjhaaGreatDoor
open Go.ChangeShapes Go.WideShapes Go.ChangeAt Go.WideMaps Go.WideElems Go.RowKit
def ajc(V:Array Value):List (List UInt8):=V.toList.map fun v=>match v with| .string a=>a.data.toList|_=>[]
theorem Dk{W:World}{c:String}{d:DataW Unit}{g:Nat}{t:TypeId}{n:Nat}{V:Array Value}(v:([(c,d)].all fun x=>x.2.handleName?.isNone)=true)
  (s:Tryz.prog.globalNamed c=some g) (l:(Tryz.prog.globals[g]?).map (·.type)=some t) (ht:Tryz.prog.underlying t=some (.array n 9)) (o:Tryz.prog.cellsOf 9=1) (p:Tryz.prog.cellsOf t=n)
  (q:d= .agg ((ajc V).map fun b=> .lit (.string b))) (m:(ajc V).map (fun b=>Value.string ⟨b.toArray⟩)=V.toList) (f:laidMetH Tryz.prog [(c,d)] W):∃e fr,W.heap[g]?=some (.cells V e fr):=by
 rw[MakeChecks.laidMetH_plain _ _ _ v]at f
 obtain⟨C,⟨A,F,i,z,B,E,h,w,a,r,_,_⟩,_,_⟩:=f
 obtain rfl:=bh (s.symm.trans h)
 obtain rfl:=bh (l.symm.trans w)
 subst q
 have j:=zJ ht Tryz.underlying9 o p r
 have k:i=V:=by
  apply Array.toList_inj.1
  rw[j,m]
 simp only[World.var?,h,BA]at a
 split at a
 ·rename_i y e fr u
  cases a
  exact⟨e,fr,by rw[<-k];exact u⟩
 ·cases a
theorem acC{W:World}{a nm:String}{d:DataW Unit}{g:Nat}{t:TypeId}{ms:Array (String×TypeId)}(n:([(a,DataW.iface nm d)].all fun x=>x.2.handleName?.isNone)=true)
  (m:Tryz.prog.globalNamed a=some g) (k:(Tryz.prog.globals[g]?).map (·.type)=some t) (ht:Tryz.prog.underlying t=some (.interface ms)) (b:laidMetH Tryz.prog [(a,.iface nm d)] W):∃r q,W.cell? ⟨g,0,none⟩=some (.iface r q):=by
 rw[MakeChecks.laidMetH_plain _ _ _ n]at b
 obtain⟨y,⟨v,A,h,u,w,z,c,o,p,l,_,_⟩,_,_⟩:=b
 obtain rfl:=bh (m.symm.trans c)
 obtain rfl:=bh (k.symm.trans o)
 obtain⟨s,e,f,i,_,_⟩:=iface_of_trod ht l
 refine⟨e,f,?_⟩
 have:=World.var?_cell c p 0
 rw[this]
 have j:h.toList[0]?=some (.iface e f):=by rw[i];rfl
 simpa using j
def ahy:List Int:=[0,1,56,2,57,49,28,3,61,58,42,50,38,29,17,4,62,47,59,36,45,43,51,22,53,39,33,30,24,18,12,5,63,55,48,27,60,41,37,16,46,35,44,21,52,32,23,11,54,26,40,15,34,20,31,10,25,14,19,9,13,8,7,6]
theorem ajd:Tryz.prog.globalNamed "math/bits.deBruijn64tab" =some 9:=by kernel_rfl
theorem aj1:Tryz.prog.globalNamed "internal/strconv.uint64pow10" =some 4:=by kernel_rfl
theorem aj2:Tryz.prog.globalNamed "strconv.ErrSyntax" =some 10:=by kernel_rfl
theorem aj3:Tryz.prog.globalNamed "strconv.ErrRange" =some 11:=by kernel_rfl
theorem aj4:Tryz.prog.globalNamed "loop.example/warp/impl.wordTexts" =some 0:=by kernel_rfl
theorem aj5:Tryz.prog.globalNamed "loop.example/warp/impl.markTexts" =some 1:=by kernel_rfl
theorem aj6:Tryz.prog.globalNamed "loop.example/warp/impl.binaryTexts" =some 2:=by kernel_rfl
theorem afb{W:World}(c:laidMetH Tryz.prog [("loop.example/warp/impl.wordTexts",Rows.laid_loop_example_warp_impl_wordTexts)] W)(d:laidMetH Tryz.prog [("loop.example/warp/impl.markTexts",Rows.laid_loop_example_warp_impl_markTexts)] W)(e:laidMetH Tryz.prog [("loop.example/warp/impl.binaryTexts",Rows.laid_loop_example_warp_impl_binaryTexts)] W)(f:laidMetH Tryz.prog [("strconv.ErrSyntax",Rows.laid_strconv_ErrSyntax)] W)(g:laidMetH Tryz.prog [("strconv.ErrRange",Rows.laid_strconv_ErrRange)] W)(a:laidMetH Tryz.prog [("internal/strconv.uint64pow10",Rows.laid_internal_strconv_uint64pow10)] W)(b:laidMetH Tryz.prog [("math/bits.deBruijn64tab",Rows.laid_math_bits_deBruijn64tab)] W):Lm W:=by
 refine⟨⟨?_,?_,?_⟩,⟨?_,?_⟩,?_,?_⟩
 ·exact Dk (V:=ej) (by kernel_rfl) aj4 (t:=136) (by kernel_rfl) Tryz.underlying136 (by kernel_rfl) (by kernel_rfl) rfl rfl c
 ·exact Dk (V:=mz) (by kernel_rfl) aj5 (t:=211) (by kernel_rfl) Tryz.underlying211 (by kernel_rfl) (by kernel_rfl) rfl rfl d
 ·exact Dk (V:=ut) (by kernel_rfl) aj6 (t:=212) (by kernel_rfl) Tryz.underlying212 (by kernel_rfl) (by kernel_rfl) rfl rfl e
 ·exact acC (by kernel_rfl) aj2 (t:=77) (by kernel_rfl) Tryz.underlying77 f
 ·exact acC (by kernel_rfl) aj3 (t:=77) (by kernel_rfl) Tryz.underlying77 g
 ·rw[MakeChecks.laidMetH_plain _ _ _ (by kernel_rfl)]at a
  exact Lib.tabIs_of_head aj1 (t:=236) (by kernel_rfl) Tryz.underlying236 Tryz.underlying38 (by kernel_rfl) (by kernel_rfl) a
 ·rw[MakeChecks.laidMetH_plain _ _ _ (by kernel_rfl)]at b
  have h:laidMet Tryz.prog [("math/bits.deBruijn64tab",Lib.tabData .u8 ahy)] W:=b
  exact(Lib.tabIs_of_head ajd (t:=275) (by kernel_rfl) Tryz.underlying275 Tryz.underlying5 (by kernel_rfl) (by kernel_rfl) h).cell ajd 15 (by decide)
theorem ahz{W:World}(b:laidMetH Tryz.prog [("math/bits.deBruijn32tab",Rows.laid_math_bits_deBruijn32tab),("math/bits.deBruijn64tab",Rows.laid_math_bits_deBruijn64tab),("internal/strconv.uint64pow10",Rows.laid_internal_strconv_uint64pow10),("strconv.ErrRange",Rows.laid_strconv_ErrRange),("strconv.ErrSyntax",Rows.laid_strconv_ErrSyntax),("loop.example/warp/impl.wordTexts",Rows.laid_loop_example_warp_impl_wordTexts),("loop.example/warp/impl.markTexts",Rows.laid_loop_example_warp_impl_markTexts),("loop.example/warp/impl.binaryTexts",Rows.laid_loop_example_warp_impl_binaryTexts)] W):Lm W:=
 afb (b.filter fun a=>a.1== "loop.example/warp/impl.wordTexts") (b.filter fun a=>a.1== "loop.example/warp/impl.markTexts") (b.filter fun a=>a.1== "loop.example/warp/impl.binaryTexts") (b.filter fun a=>a.1== "strconv.ErrSyntax") (b.filter fun a=>a.1== "strconv.ErrRange") (b.filter fun a=>a.1== "internal/strconv.uint64pow10") (b.filter fun a=>a.1== "math/bits.deBruijn64tab")
def afc{H:Type}(x:Int×Int×Int):DataW H:= .agg [.lit (.int .i64 x.1),.lit (.int .i64 x.2.1),.lit (.int .i64 x.2.2)]
def acD(x:Int×Int×Int):List Value:=[.int .i64 x.1,.int .i64 x.2.1,.int .i64 x.2.2]
theorem aje(l:List Value)(d:l.length=3):∃a b c,l=[a,b,c]:=by
 match l,d with
 |[a,b,c],_=>exact⟨a,b,c,rfl⟩
theorem afd{H:Type}{enc:TypeId×Value->H}{W:World}{base:Nat}{r:Nat->Bool}{m:Bool}{fuel:Nat}{l:List Value}{x:Int×Int×Int}{p:List MemPlace}(k:DataW.trod enc Tryz.prog W base r m fuel 165 l=some (afc x,p)):l=acD x:=by
 have i:Tryz.prog.cellsOf 3=1:=by kernel_rfl
 have j:Tryz.prog.cellsOf 165=3:=by kernel_rfl
 obtain⟨w,y,z,v,a,e,b,c,d⟩:=Go.Deep.trod_struct3 Tryz.underlying165 k
 rw[j]at e
 obtain⟨s,t,u,rfl⟩:=aje l e
 simp[i]at b c d
 obtain⟨z0,f,n,_⟩:=BJ Tryz.underlying3 b
 obtain⟨A,g,o,_⟩:=BJ Tryz.underlying3 c
 obtain⟨B,h,q,_⟩:=BJ Tryz.underlying3 d
 simp at f g h
 subst f g h
 unfold afc at a
 rw[n,o,q]at a
 simp at a
 unfold acD
 rw[a.1.1,a.1.2.1,a.1.2.2]
theorem Bi:∀(a:List (Int×Int×Int))(cs:List Value),cs.length=3*a.length->(∀i x,a[i]?=some x->(cs.drop (i*3)).take 3=acD x)->cs=a.flatMap acD
 |[],cs,b,_=>by simpa using b
 |x::a,cs,b,c=>by
  have d:=c 0 x rfl
  simp only[Nat.zero_mul,dJ]at d
  have f:=Bi a (cs.drop 3) (by rw[dH,b];simp;omega) (fun i g e=>by
   have:=c (i+1) g (by simpa using e)
   rw[List.drop_drop]
   rw[show(i+1)*3=3+i*3 by omega]at this
   exact this)
  rw[xd,<-f,<-d]
  exact(wK 3 cs).symm
def acE:List (Int×Int×Int):=[(26,1,2),(10,2,3),(73,3,4),(74,3,4),(75,3,4),(76,3,4),(77,3,4),(78,3,4),(72,4,4),(68,5,6),(69,6,7),(67,7,8),(70,8,9),(71,8,9),(61,9,10),(62,9,10),(63,10,11),(64,10,11),(65,10,11),(66,10,11)]
theorem aj7:Tryz.prog.globalNamed "loop.example/warp/impl.powers" =some 3:=by kernel_rfl
theorem afe{W:World}(f:laidMetH Tryz.prog [("loop.example/warp/impl.powers",Rows.laid_loop_example_warp_impl_powers)] W):∃e fr,W.heap[3]?=some (.cells aiA e fr):=by
 rw[MakeChecks.laidMetH_plain _ _ _ (by kernel_rfl)]at f
 obtain⟨F,⟨A,H,c,q,E,G,h,y,b,r,_,_⟩,_,_⟩:=f
 obtain rfl:=bh (aj7.symm.trans h)
 obtain rfl:=bh ((show(Tryz.prog.globals[3]?).map (·.type)=some 234 by kernel_rfl).symm.trans y)
 have l:Tryz.prog.cellsOf 165=3:=by kernel_rfl
 have m:Tryz.prog.cellsOf 234=60:=by kernel_rfl
 have s:DataW.trod _ Tryz.prog W _ _ _ q 234 c.toList=some (.agg (acE.map afc),_):=r
 obtain⟨k,C,_,j,w,B,t⟩:=DataW.trod_array Tryz.underlying234 s
 simp only[ll,DataW.agg.injEq]at j
 have n:c.toList=acE.flatMap acD:=by
  refine Bi acE _ (by rw[w,m];rfl) (fun a x i=>?_)
  have v:a<20:=by have:=(List.getElem?_eq_some_iff.1 i).1;simpa [acE] using this
  have g:=t a v
  rw[l,aF (by omega)]at g
  have d:(k.map (·.1))[a]?=(acE.map afc)[a]?:=by rw[j.1]
  rw[bq,bq,aF (by omega),i]at d
  simp only[qI,fe]at d
  exact afd (x:=x) (p:=k[a].2) (by rw[g,<-d])
 have o:c=aiA:=by
  apply Array.toList_inj.1
  rw[n];rfl
 simp only[World.var?,h,BA]at b
 split at b
 ·rename_i z e fr u
  cases b
  exact⟨e,fr,by rw[<-o];exact u⟩
 ·cases b
end Go.Proofs.YtkfgnpcanadjhaaGreatDoor
namespace Go.Proofs.YtkfgnpcanadjhaaGreatDoor
open Go.RowKit
theorem Fh(n l Bs b cap:Nat)(a:Option Addr)(f:Nat->Value)(J:b<=3000)(H:b<=cap)(c:Nat->World->Prop)(o:World->Prop)
  (q:∀m W,c m W->W.cell? ⟨Bs,0,none⟩=some (.slice a b cap))
  (y:∀m W,c m W->∀j,j<b->∃i,a=some i/\W.cell? (i.add j)=some (f j))
  (x:∀m W,m<b->c (m+1) W->YieldAt Fence.wide (n-1) Tryz.prog l #[.int .i64 (m:Int),f m] W fun e g=>(e= .returned (.bool true)/\c m g)\/(e= .returned (.bool false)/\o g))
  (W:World) (p:c b W):
  CallsIn Fence.wide n Tryz.prog 176 #[.func (.yield l) #[] #[],.pointer (some ⟨Bs,0,none⟩)] W fun e g=>(∃v,e= .returned v)/\(c 0 g\/o g):=by
 have F:=q _ _ p
 refine callsIn_of_wp Tryz.func176 rfl trivial ?_ rfl
 simp only[Tryz.ntmps176,gG,co,dB,Nat.reduceAdd,Nat.reduceSub,je,jf,jg,wI,er,fl]
 gi_wp2
 gi_loopw [3] (fun k wr=>∃d:Nat,d<=b/\k= .int .i64 ((d:Int)-1)/\c d wr) (fun k _=>(intOf k+1).toNat)
 case atStart=>exact⟨b,ah _,rfl,p⟩
 case round=>
  obtain⟨d,I,rfl,h⟩:=hrel
  have E:=q _ _ h
  rcases mJ d with rfl|hp
  ·gi_wp2
   go_end0
   exact⟨⟨_,rfl⟩,.inl h⟩
  ·obtain⟨m,rfl⟩:∃m,d=m+1:=⟨d-1,by omega⟩
   obtain⟨i,rfl,G⟩:=y _ _ h m (by omega)
   obtain⟨C,tmps,A,B,K,w⟩:=x m wr (by omega) h
   have r:((m+1:Nat):Int)-1=(m:Int):=by omega
   rw[r]
   have L:(m:Int)<(b:Int):=by omega
   have ad:(0:Int)<=(m:Int):=by omega
   gi_wp2
   refine⟨fun s=>by simp[Fence.wide]at s,w.mono ?_⟩
   rintro e z (⟨rfl,t⟩|⟨rfl,u⟩)
   ·gi_wp2
    go_roundw
    case rel=>exact⟨m,by omega,by simp,t⟩
    case measure=>simp[intOf]
   ·gi_wp2
    refine aH (gx rfl _ _ _) rfl ?_
    exact⟨⟨_,rfl⟩,.inr u⟩
theorem ui(a:Option Addr)(b cap:Nat)(w:World):
  Calls Tryz.prog 124 #[.slice a b cap] w fun e c=>e= .returned (.func (.func 176) #[] #[.pointer (some ⟨w.heap.size,0,none⟩)])/\c=w.alloc (.cells #[.slice a b cap] 62):=by
 refine calls_of_wp Tryz.func124 rfl ?_
 simp only[Tryz.ntmps124,gG,co,dB,Nat.reduceAdd,Nat.reduceSub,je,jf,jg,wI,er,fl]
 go_wp2
 go_ret
 exact⟨rfl,rfl⟩
attribute [local go_sem] Bl
def Jj:Option Nat->Value
 |some i=> .tuple #[.int .i64 (i:Int),.bool true]
 |none=> .tuple #[.int .i64 0,.bool false]
structure zA (w:World) (B:Nat) (vs:Value) (n:Nat) (D:List Int) (W:World):Prop where
 bl:Below w.heap.size w W
 row:W.ownsRow w.heap.size 3 1 (.slice (some ⟨w.heap.size,0,none⟩) n n) n (D.map (Value.int .i64))
 bx:W.heap[B]?=some (.cells #[.slice (some ⟨w.heap.size,0,none⟩) n n] 31 (0,0))
 bs:W.heap[B+1]?=some (.cells #[vs] 62 (0,0))
 ok:Kx n D
theorem zA.put{w:World}{b:Nat}{c:Value}{n:Nat}{D:List Int}{W:World}(a:zA w b c n D W)(f:w.heap.size<b){r:Loop}{k:Nat}(g:b+1<k)(e:W.heap[k]?=some (.loop r))(o:Obj):zA w b c n D (W.putObj k o):=
 ⟨a.bl.grown (grownBy_putObj' W k o) a.bl.size (fun h d=>by cases d;omega),ownsRow_putObj a.row o e rfl,(World.putObj_heap_other (by omega)).trans a.bx,(World.putObj_heap_other (by omega)).trans a.bs,a.ok⟩
structure ahA (w:World) (B:Nat) (vs:Value) (n t:Nat) (ks D:List Int) (j:Nat) (E:List Int) (W0 W:World):Prop where
 st:zA w B vs n E W
 rest:FA t (ks.drop j) E=FA t ks D
 kf:KeepsFrom (B+2) W0 W
theorem vg{W:World}{base e size n:Nat}{v:Value}{xs:List Value}(b:W.ownsRow base e size v n xs):∃a cap,v= .slice a n cap:=by
 rcases b.2 with⟨rfl,c⟩|⟨f,cap,d,rfl,_⟩
 ·exact⟨none,0,by rw[c]⟩
 ·exact⟨_,_,rfl⟩
theorem Fi{W:World}{base e size n m c:Nat}{a:Option Addr}{xs:List Value}(b:W.ownsRow base e size (.slice a n c) m xs):n=m:=by
 obtain⟨d,f,e⟩:=vg b
 cases e;rfl
theorem jm.at{W:World}{base g n c:Nat}{L:List Im}(a:jm W base (.slice (some ⟨g,0,none⟩) n c) L){i:Nat}{x:Im}(d:L[i]?=some x):W.cell? ⟨g,i,none⟩=some (.iface (jd (dL x.N.k)) (.pointer (some ⟨x.b,0,none⟩))):=by
 have f:i<L.length:=(List.getElem?_eq_some_iff.1 d).1
 have e:=Fi a.row
 subst e
 rw[a.row.cellAt i (by omega),bq,d];rfl
theorem jm.kidAt{W:World}{base:Nat}{p:Value}{L:List Im}(h:jm W base p L){i:Nat}{x:Im}(d:L[i]?=some x){g n c:Nat}(o:x.kv= .slice (some ⟨g,0,none⟩) n c){j:Nat}{z:Int}(e:x.N.ks[j]?=some z):
  ∃q f,z=((q:Nat):Int)/\q<i/\L[q]?=some f/\W.cell? ⟨g,j,none⟩=some (.iface (jd (dL f.N.k)) (.pointer (some ⟨f.b,0,none⟩))):=by
 obtain⟨z0,t⟩:=h.rng i x z d (bJ e)
 obtain⟨q,rfl⟩:=dv z0
 have r:i<L.length:=(List.getElem?_eq_some_iff.1 d).1
 have s:j<x.N.ks.length:=(List.getElem?_eq_some_iff.1 e).1
 have l:q<i:=by omega
 refine⟨q,L[q]'(by omega),rfl,l,aF _,?_⟩
 have a:=h.kid i x d
 rw[o]at a
 have m:=Fi a
 subst m
 rw[a.cellAt j (by omega)]
 unfold lh
 rw[bq,e]
 simp only[qI,mH]
 rw[iE,ab l,aF (by omega)]
 rfl
theorem Al(w:World)(base:Nat)(bF:Value)(L:List Im)(a1:jm w base bF L)(t:List Nd)(cf:L.map Im.N=t)(n:Nat)(bk:L.length=n)(el:1<=n)(r:n<=3000)(ce:∀x∈L,x.N.ks.length<=200):
  Calls Tryz.prog 44 #[bF] w fun e o=>e= .returned (Jj (gj (gy (C8 t)) n 0))/\Below w.heap.size w o:=by
 obtain⟨f,j,rfl⟩:∃f b2,bF= .slice (some ⟨f,0,none⟩) n b2:=by
  rcases bg a1.row with⟨h,_⟩|h
  ·omega
  ·rw[<-bk];exact h
 have c8:n<=j:=by
  rcases a1.row.2 with⟨r,_⟩|⟨ei,ea,ed,r,_,_,em,_⟩
  ·cases r
  ·cases r;omega
 obtain⟨d3,df,d0,d1,d2⟩:=dD rh
 obtain⟨bc,bn⟩:=aE (gj (gy (C8 t)) n 0)
 rw[bn]
 have q:=ac9 a1 cf bk bn ce
 clear a1 cf bk bn ce
 refine Bn (n:=5).1 ?_
 refine callsIn_of_wp_marks Tryz.func44 rfl trivial ?_ rfl
 simp only[Tryz.ntmps44,gG,co,dB,Nat.reduceAdd,Nat.reduceSub,je,jf,jg,wI,er,fl]
 refine wpIn_wide.2 ?_
 go_wp2_with (first|(at_make;refine xh _ rfl _ _ 31 rfl w.heap.size 3 d3 (.int .i64 0) 1 Tryz.underlying31 df d0 d1 .i64 .i64 _ _ n rfl rfl rfl rfl (by rw[d2];omega) (by unfold maxLen;omega) (ah _) ?_;intro F a7 I)|(go_at_call 124;refine(ui (some ⟨f,0,none⟩) n j _).mono ?_;rintro e fb ⟨rfl,rfl⟩))
 rename_i d7 b7
 have b9:Below w.heap.size w F:=⟨I.os,I.tape,I.output,I.size,fun g dk=>I.block g dk (by simp)⟩
 rw[show(madeCells (Value.int .i64 0).cells (n*1)).toList=List.replicate n (Value.int .i64 0) by rw[oL];exact sC _ n]at a7
 have bw:w.heap.size<F.heap.size:=(a7.lt w.heap.size rfl).2
 obtain⟨c,a0⟩:=aE F.heap.size
 have J:zA w c (.slice (some ⟨f,0,none⟩) n j) n (List.replicate n 0) ((F.alloc (.cells #[.slice (some ⟨w.heap.size,0,none⟩) n n] 31)).alloc (.cells #[.slice (some ⟨f,0,none⟩) n j] 62)):=by
  refine⟨(b9.alloc (by omega) _).alloc (by simp;omega) _,?_,?_,?_,?_⟩
  ·rw[List.map_replicate];exact(a7.alloc _).alloc _
  ·exact(eo _ _ _ (by simp;omega)).trans (by rw[<-a0];exact ay F _)
  ·have:=ay (F.alloc (.cells #[.slice (some ⟨w.heap.size,0,none⟩) n n] 31)) (.cells #[.slice (some ⟨f,0,none⟩) n j] 62)
   rw[db,a0]at this;exact this
  ·refine⟨by simp,fun s ap a4=>?_⟩
   obtain⟨r,c2⟩:=List.getElem?_eq_some_iff.1 a4
   simp at r c2
   omega
 have K:((F.alloc (.cells #[.slice (some ⟨w.heap.size,0,none⟩) n n] 31)).alloc (.cells #[.slice (some ⟨f,0,none⟩) n j] 62)).heap.size=c+2:=by simp;omega
 rw[a0]at bw⊢
 generalize (F.alloc (.cells #[.slice (some ⟨w.heap.size,0,none⟩) n n] 31)).alloc (.cells #[.slice (some ⟨f,0,none⟩) n j] 62)=d9 at J K⊢
 clear a7 I b9 a0
 refine(Bw (n:=5)).1 ?_
 refine A4 (P:=Tryz.prog) (gf:=176) (lb:=#[.pointer (some ⟨c+1,0,none⟩)]) rfl (enters_of Tryz.func176 (by kernel_rfl) rfl)
  (fun a=>#[.int .i64 (a:Int),match L[a]? with|some x=> .iface (jd (dL x.N.k)) (.pointer (some ⟨x.b,0,none⟩))|none=> .nilIface]) (fun _=>rfl) n
  (fun a b=>∃D,zA w c (.slice (some ⟨f,0,none⟩) n j) n D b/\dpN t a D=C8 t)
  (fun a ad b=>(∃D,zA w c (.slice (some ⟨f,0,none⟩) n j) n D b/\dpN t (a+1) D=C8 t)/\∃x,L[a]?=some x/\
   ad={tmps:=#[.slice (some ⟨f,0,none⟩) n j,undef,.int .i64 0,.bool false,.pointer (some ⟨c,0,none⟩),.int .i64 (a:Int),.iface (jd (dL x.N.k)) (.pointer (some ⟨x.b,0,none⟩)),undef,undef,undef,undef,
    .slice (some ⟨f,0,none⟩) n j,.int .i64 (n:Int),.slice (some ⟨w.heap.size,0,none⟩) n n,.slice (some ⟨f,0,none⟩) n j,.func (.func 176) #[] #[.pointer (some ⟨c+1,0,none⟩)],.int .i64 (a:Int),.iface (jd (dL x.N.k)) (.pointer (some ⟨x.b,0,none⟩)),
    undef,undef,undef,undef,undef,undef,undef,undef,undef,undef,undef,undef,undef,undef,undef,undef,undef,undef,undef,undef,undef,undef,undef,undef,undef,undef,undef,undef,undef,undef,undef,undef,undef,undef],defers:=[]})
  (fun _=>False)
  ?pZ ?pAx ?pX ?h0 ?assign ?body ?seq ?done ?ret
 case pZ=>
  rintro a b cr a9 ⟨D,h,m⟩ al
  rw[K]at al⊢
  exact⟨D,h.put bw (by omega) al a9,m⟩
 case pAx=>
  rintro a ad b cr a9 ⟨⟨D,h,m⟩,x,p,rfl⟩ al
  rw[K]at al⊢
  exact⟨⟨D,h.put bw (by omega) al a9,m⟩,x,p,rfl⟩
 case pX=>intro b cr a9 h;exact h.elim
 case h0=>
  intro cB a2 e7
  have c7:Below w.heap.size w cB:=J.bl.trans (a2.mono (by omega))
  exact⟨List.replicate n 0,⟨c7,cF J.row a2,(a2.block _ (by omega)).trans J.bx,(a2.block _ (by omega)).trans J.bs,J.ok⟩,by rw[C8,<-q.out.2.1,aI,q.out.2.2.1]⟩
 case assign=>
  rintro a8 a b d8 a5 ⟨D,h,m⟩ b8
  obtain⟨x,p⟩:=bC q.2.2.1 a5
  rw[p]at⊢
  have d6:=fun ad=>b8 ad b
  have i:=jw h m p
  clear h m p
  gi_wp2
  exact b8 _ _ ⟨⟨D,i.1,i.2.1⟩,x,i.2.2,rfl⟩ (KeepsFrom.refl _ _)
 case body=>
  rintro a8 a ad b a5 ⟨⟨D,h,m⟩,x,p,rfl⟩
  rw[K]
  have bo:=ai h.bl (q.1.box a x p).cells.2.2.2.2.1
  have ak:=q.1.kid a x p
  obtain⟨cI,ef,C⟩:=vg ak
  rw[C]at bo
  have dn:=q.2.2.2.2 x (bJ p)
  obtain⟨an,bv⟩:=aE x.N.ks.length
  rw[bv]at bo dn C
  have ck:t[a]?=some x.N:=by rw[<-q.out.2.1,bq,p];rfl
  have ca:dpN t a (FA a x.N.ks D)=C8 t:=by
   rw[dpN,aL,ck,fH]at m
   exact m
  have i:=FC p ca bv C
  have b1:Hid (ahA w c (.slice (some ⟨f,0,none⟩) n j) n a x.N.ks D 0 D b b):=⟨h,rfl,KeepsFrom.refl _ _⟩
  have a6:=fun w=>ou x.N.k x.b w
  have e3:(a:Int)<(n:Int):=by omega
  have e2:(0:Int)<=(a:Int):=by omega
  have cp:=fun (c0:Nat) w=>CallsIn.inRound a8 (Bn (n:=2).2 (de c0 w))
  generalize jd (dL x.N.k)=fa at a6⊢
  clear p m ca ak ck bv C h
  gi_wp2_with (refine⟨trivial,?_⟩;gi_at_call 307;refine(cp _ _).mono ?_;rintro e ao ⟨rfl,cm⟩;subst ao)
  gi_loopw [24] (fun G d5=>∃(s:Nat) (y:List Int),s<=an/\G= .int .i64 s/\Hid (ahA w c (.slice (some ⟨f,0,none⟩) n j) n a x.N.ks D s y b d5)) (fun G _=>an-(intOf G).toNat)
  case atStart=>exact⟨0,D,aJ _,rfl,b1⟩
  case round=>
   obtain⟨s,y,a4,rfl,l⟩:=hrel
   clear b1 bo a6
   by_cases dg:s<an
   ·have ex:(s:Int)<(an:Int):=by omega
    have ev:(0:Int)<=(s:Int):=by omega
    obtain⟨ap,E⟩:=bC i.2.2.1 dg
    have C:=i.2.2.2
    obtain⟨gk,dd⟩:∃gk,cI=some ⟨gk,0,none⟩:=by
     have ak:=q.1.kid a x i.1
     rw[C]at ak
     rcases bg ak with⟨h,_⟩|⟨gk,b2,h⟩
     ·rw[i.out.2.2.1]at h;omega
     ·cases h;exact⟨_,rfl⟩
    subst dd
    obtain⟨d,v,rfl,dz,bA,c9⟩:=(q.1.below (l.st.bl)).kidAt i.1 C E
    have cg:=ai l.st.bl (q.1.box d v bA).cells.2.2.2.1
    obtain⟨k,a3⟩:=bC l.st.ok.1 a5
    obtain⟨c1,cc⟩:=bC l.st.ok.1 (show d<n by omega)
    have es:=l.st.ok.2 a k a3
    have H:zA w c (.slice (some ⟨f,0,none⟩) n j) n y wr.drew:=⟨l.st.bl.drew,l.st.row,l.st.bx,l.st.bs,l.st.ok⟩
    have am:=H.row
    have b3:wr.drew.cell? ⟨w.heap.size,a,none⟩=some (.int .i64 k):=by rw[am.cellAt a (by omega),bq,a3];rfl
    have ec:wr.drew.cell? ⟨w.heap.size,d,none⟩=some (.int .i64 c1):=by rw[am.cellAt d (by omega),bq,cc];rfl
    have eh:=am.frozenAt d
    have bt:y.getD a 0=k:=by rw[aL,a3];rfl
    have bD:=(am.stored d (.int .i64 (k+1))).1
    rw[<-xk]at bD
    have bE:=l.st.ok.set a d a5 dz
    rw[bt]at bE
    have cl:FA a (x.N.ks.drop (s+1)) (y.set d (k+1))=FA a x.N.ks D:=by
     have r:=l.rest
     have cd:=(List.getElem?_eq_some_iff.1 E)
     rw[ju cd.1,cd.2,FA,bt]at r
     exact r
    have bd:wr.drew.cell? ⟨c,0,none⟩=_:=cK H.bx
    have cs:zA w c (.slice (some ⟨f,0,none⟩) n j) n (y.set d (k+1)) (wr.drew.setCell ⟨w.heap.size,d,none⟩ (.int .i64 (k+1))):=
     ⟨H.bl.setCell (ah _) _,bD,(aK _ _ _ _ (by simp;omega)).trans H.bx,(aK _ _ _ _ (by simp;omega)).trans H.bs,bE⟩
    have cu:Hid (ahA w c (.slice (some ⟨f,0,none⟩) n j) n a x.N.ks D (s+1) (y.set d (k+1)) b (wr.drew.setCell ⟨w.heap.size,d,none⟩ (.int .i64 (k+1)))):=⟨cs,cl,l.kf.trans (((KeepsOthers.drew wr).from _).trans ((KeepsOthers.setCell _ _ _).from _))⟩
    have e4:d≠a:=by omega
    have e8:IntKind.i64.wrap (k+1)=k+1:=by rw[bm];omega
    have e9:=aw (q.1.box d v bA)
    have c4:(wr.drew.setCell ⟨w.heap.size,d,none⟩ (.int .i64 (k+1))).cell? ⟨c,0,none⟩=some (.slice (some ⟨w.heap.size,0,none⟩) n n)/\(wr.drew.setCell ⟨w.heap.size,d,none⟩ (.int .i64 (k+1))).cell? ⟨v.b,4,none⟩=some (.int .i64 (d:Int))/\(wr.drew.setCell ⟨w.heap.size,d,none⟩ (.int .i64 (k+1))).cell? ⟨w.heap.size,a,none⟩=some (.int .i64 k):=
     ⟨(World.cell?_setCell_far _ _ _ _ (by simp;omega)).trans bd,(World.cell?_setCell_far _ _ _ _ (by simp;omega)).trans cg,(World.cell?_setCell_other _ _ _ _ (by simp;try omega)).trans b3⟩
    have e6:(d:Int)<(n:Int):=by omega
    have e5:(0:Int)<=(d:Int):=by omega
    have a6:=fun w=>ou v.N.k v.b w
    generalize jd (dL v.N.k)=d4 at a6 c9
    clear E l bD bE cl cs am a3 cc bt C bA H
    gi_wp2_with (refine⟨trivial,?_⟩;gi_at_call 307;refine(cp _ _).mono ?_;rintro e ao ⟨rfl,cm⟩;subst ao)
    have c3:wr.drew.cell? ⟨c,0,none⟩=some (.slice (some ⟨w.heap.size,0,none⟩) n n)/\wr.drew.cell? ⟨v.b,4,none⟩=some (.int .i64 (d:Int))/\wr.drew.cell? ⟨w.heap.size,a,none⟩=some (.int .i64 k):=⟨bd,cg,b3⟩
    refine pt (S:=fun o=>o.cell? ⟨c,0,none⟩=some (.slice (some ⟨w.heap.size,0,none⟩) n n)/\o.cell? ⟨v.b,4,none⟩=some (.int .i64 (d:Int))/\o.cell? ⟨w.heap.size,a,none⟩=some (.int .i64 k)) (by kernel_rfl) (by kernel_rfl) (fun ⟨_,_,h⟩=>h) c3 (fun hS=>?_)
    refine cj 0 (.slice (some ⟨w.heap.size,0,none⟩) n n) rfl rfl (by kernel_rfl) (fun _ _ _=>id) hS (fun o ⟨z,A,B⟩=>by go_simp) ?_
    simp only[List.set]
    refine cj 1 (.iface d4 (.pointer (some ⟨v.b,0,none⟩))) rfl rfl (by kernel_rfl) (fun _ _ _=>id) hS (fun o ⟨z,A,B⟩=>by go_simp) ?_
    simp only[List.set]
    refine cj 6 (.slice (some ⟨w.heap.size,0,none⟩) n n) rfl rfl (by kernel_rfl) (fun _ _ _=>id) hS (fun o ⟨z,A,B⟩=>by go_simp) ?_
    simp only[List.set]
    refine cj 7 (.int .i64 (a:Int)) rfl rfl (by kernel_rfl) (fun _ _ _=>id) hS (fun o ⟨z,A,B⟩=>by go_simp) ?_
    simp only[List.set]
    refine cj 8 (.pointer (some ⟨w.heap.size,a,none⟩)) rfl rfl (by kernel_rfl) (fun _ _ _=>id) hS (fun o ⟨z,A,B⟩=>by go_simp) ?_
    simp only[List.set]
    refine cj 9 (.int .i64 k) rfl rfl (by kernel_rfl) (fun _ _ _=>id) hS (fun o ⟨z,A,B⟩=>by go_simp) ?_
    simp only[List.set]
    refine cj 10 (.int .i64 (k+1)) rfl rfl (by kernel_rfl) (fun _ _ _=>id) hS (fun o ⟨z,A,B⟩=>by go_simp) ?_
    simp only[List.set]
    refine wpAnyH_ready (rs:=[2]) (by kernel_rfl) (by simp) (AllReadyH.cons rfl (fun bb af=>?_) AllReadyH.nil)
    go_simp
    refine dG (de _ _) fun ao cm=>?_
    subst ao
    refine af _ _ hS (fun hS=>?_)
    clear af bb
    try simp only[Act.put,aB,aA,aC]
    refine cj 3 (.pointer (some ⟨v.b,0,none⟩)) rfl rfl (by kernel_rfl) (fun _ _ _=>id) hS (fun o ⟨z,A,B⟩=>by go_simp) ?_
    simp only[List.set]
    refine cj 4 (.pointer (some ⟨v.b,4,none⟩)) rfl rfl (by kernel_rfl) (fun _ _ _=>id) hS (fun o ⟨z,A,B⟩=>by go_simp) ?_
    simp only[List.set]
    refine cj 5 (.int .i64 (d:Int)) rfl rfl (by kernel_rfl) (fun _ _ _=>id) hS (fun o ⟨z,A,B⟩=>by go_simp) ?_
    simp only[List.set]
    refine cj 11 (.pointer (some ⟨w.heap.size,d,none⟩)) rfl rfl (by kernel_rfl) (fun _ _ _=>id) hS (fun o ⟨z,A,B⟩=>by go_simp) ?_
    simp only[List.set]
    refine wpAnyH_ready (rs:=[12]) (by kernel_rfl) (by simp) (AllReadyH.cons rfl (fun bb af=>?_) AllReadyH.nil)
    go_simp
    refine af _ _ c4 (fun hS=>?_)
    clear af bb
    refine wpAnyH_done (by kernel_rfl) ?_ _
    gi_wp2
    exact⟨⟨s+1,_,by omega,by go_num,cu⟩,by simp[intOf];omega⟩
   ·obtain rfl:s=an:=by omega
    have br:Hid (zA w c (.slice (some ⟨f,0,none⟩) n j) n y wr/\dpN t a y=C8 t/\KeepsFrom (c+2) b wr):=by
     refine⟨l.st,?_,l.kf⟩
     have r:=l.rest
     rw[oJ (by rw[i.out.2.2.1];exact ah _),FA]at r
     rw[r]
     exact i.2.1
    clear l
    gi_wp2
    exact⟨br.2.2,y,br.1,br.2.1⟩
 case seq=>
  intro a8 cx cy b6 c6 b c5
  refine Fh 4 a8 (c+1) n j (some ⟨f,0,none⟩) _ r c8 cx cy (fun a b h=>?_) (fun a b h s a4=>?_) c6 b c5
  ·obtain⟨D,m,_⟩:=b6 a b h
   exact cK m.bs
  ·obtain⟨D,m,_⟩:=b6 a b h
   obtain⟨x,p⟩:=bC q.2.2.1 a4
   refine⟨_,rfl,?_⟩
   rw[qy,p]
   exact ai m.bl (q.1.at p)
 case ret=>intro b h;exact h.elim
 case done=>
  rintro b ⟨D,h,m⟩ b4
  have b5:D=C8 t:=m
  refine b7 _ _ ?_
  have bd:=cK h.bx
  have i:Hid (zA w c (.slice (some ⟨f,0,none⟩) n j) n D b/\b.heap[c+2]?=some (.deferred (some []))):=⟨h,by rw[<-K];exact b4⟩
  have b0:sj (gy D) (n-0) 0 bc:=⟨by rw[b5];exact q.2.2.2.1⟩
  have eq:w.heap.size<c+2:=by omega
  rw[K]
  clear h m b4 b5 b7
  go_wp2_with fail
  go_loop [43] (fun G=>∃g:Nat,g<=n/\G= .int .i64 g/\sj (gy D) (n-g) g bc) (fun G=>n-(intOf G).toNat)
  case atStart=>exact⟨0,aJ _,rfl,b0⟩
  case round=>
   obtain⟨g,e0,rfl,ar⟩:=hrel
   clear b0
   have u:=ar.out
   by_cases ds:g<n
   ·have e1:(g:Int)<(n:Int):=by omega
    have eF:(0:Int)<=(g:Int):=by omega
    obtain⟨ap,E⟩:=bC i.1.ok.1 ds
    have eg:b.cell? ⟨w.heap.size,g,none⟩=some (.int .i64 ap):=by rw[i.out.1.row.cellAt g (by omega),bq,E];rfl
    rw[show n-g=(n-(g+1))+1 by omega,gj]at u
    have bf:gy D g=decide (100<ap):=by unfold gy;rw[aL,E];rfl
    rw[bf]at u
    by_cases cn:100<ap
    ·rw[ab (bB cn)]at u
     have ba:=aj u.symm
     clear u bf E ar
     go_wp2_with fail
     refine⟨by simp,.inl ⟨_,_,rfl,run_takeDeferred i.2,?_⟩⟩
     refine⟨_,results_tmp2 rfl _ _ _,by rw[ba.out];rfl,?_⟩
     exact i.1.bl.grown (grownBy_putObj' b (c+2) (.deferred none)) i.1.bl.size (fun g e=>by cases e;omega)
    ·rw[aa (by simpa using cn)]at u
     have cw:sj (gy D) (n-(g+1)) (g+1) bc:=⟨u⟩
     clear u bf E ar
     go_wp2_with fail
     go_round
     case rel=>exact⟨g+1,by omega,by go_num,cw⟩
     case measure=>simp[intOf];omega
   ·obtain rfl:g=n:=by omega
    rw[fw,gj]at u
    have ba:=aj u.symm
    clear u ar
    go_wp2_with fail
    refine⟨by simp,.inl ⟨_,_,rfl,run_takeDeferred i.2,?_⟩⟩
    refine⟨_,results_tmp2 rfl _ _ _,by rw[ba.out];rfl,?_⟩
    exact i.1.bl.grown (grownBy_putObj' b (c+2) (.deferred none)) i.1.bl.size (fun g e=>by cases e;omega)
attribute [local go_sem] Bl
def Dl(S:List Int)(n:Nat):Option Nat->Value
 |some i=> .tuple #[.int .i64 (i:Int),.bool true]
 |none=> .tuple #[.int .i64 ((n:Int)-1),.bool (decide (S.getD (n-1) 0<(n:Int)))]
structure wF (w:World) (B n:Nat) (S:List Int) (c:List Nat) (W:World):Prop where
 bl:Below w.heap.size w W
 r0:W.heap[w.heap.size]?=some (.cells #[.int .i64 0] 3 (0,0))
 r1:W.heap[w.heap.size+1]?=some (.cells #[.bool false] 4 (0,0))
 row:W.ownsRow w.heap.size 3 1 (.slice (some ⟨w.heap.size+1+1,0,none⟩) n n) n (S.map (Value.int .i64)++List.replicate (n-S.length) (.int .i64 0))
 bx:W.heap[B]?=some (.cells #[.slice (some ⟨w.heap.size+1+1,0,none⟩) n n] 31 (0,0))
 mks:oq (w.heap.size+1+1+1) c W
theorem wF.below{w:World}{d n:Nat}{S:List Int}{c:List Nat}{W e:World}(a:wF w d n S c W)(b:Below W.heap.size W e):wF w d n S c e:=
 ⟨a.bl.trans (b.mono a.bl.size),(b.block _ (aw a.r0)).trans a.r0,(b.block _ (aw a.r1)).trans a.r1,cF a.row b,(b.block _ (aw a.bx)).trans a.bx,a.mks.below b⟩
theorem wF.put{w:World}{b n:Nat}{S:List Int}{c:List Nat}{W:World}(a:wF w b n S c W)(h:w.heap.size+1<b){r:Loop}{k:Nat}(i:b<k)(e:W.heap[k]?=some (.loop r))(o:Obj):wF w b n S c (W.putObj k o):=
 ⟨a.bl.grown (grownBy_putObj' W k o) a.bl.size (fun j g=>by cases g;omega),(World.putObj_heap_other (by omega)).trans a.r0,(World.putObj_heap_other (by omega)).trans a.r1,ownsRow_putObj a.row o e rfl,(World.putObj_heap_other (by omega)).trans a.bx,
  ⟨a.mks.nd,a.mks.lo,fun d f=>(World.putObj_heap_other (by rintro rfl;have:=(a.mks.at_ d f).symm.trans e;cases this)).trans (a.mks.at_ d f)⟩⟩
structure Dm (w:World) (B n:Nat) (S:List Int) (c:List Nat) (sz k:Nat) (kv:Value) (a:Int) (W:World):Prop where
 oo:wF w B n S c W
 b5:W.heap[sz]?=some (.cells #[.int .i64 (k:Int)] 3 (0,0))
 b7:W.heap[sz+1]?=some (.cells #[.int .i64 (a-1)] 3 (0,0))
 b8:W.heap[sz+1+1]?=some (.cells #[kv] 62 (0,0))
theorem Dm.put{w:World}{b n:Nat}{S:List Int}{c:List Nat}{e k:Nat}{f:Value}{a:Int}{W:World}(d:Dm w b n S c e k f a W)(g:w.heap.size+1<b)(l:b<e){r:Loop}{j:Nat}(i:e+1+1<j)(h:W.heap[j]?=some (.loop r))(o:Obj):Dm w b n S c e k f a (W.putObj j o):=
 ⟨d.oo.put g (by omega) h o,(World.putObj_heap_other (by omega)).trans d.b5,(World.putObj_heap_other (by omega)).trans d.b7,(World.putObj_heap_other (by omega)).trans d.b8⟩
theorem rJ{c:Func}{p q:Tmp}{t u:TypeId}(e:c.results=#[.cell p t,.cell q u])(tmps:Array Value)(P:Program)(w:World)(a b:Addr)(v d:Value)(h:tmps.getD p undef= .pointer (some a))(j:tmps.getD q undef= .pointer (some b))
  (f:(loadVar t a).run P w= .ok v w) (g:(loadVar u b).run P w= .ok d w):(results c tmps).run P w= .ok (.tuple #[v,d]) w:=by
 have i:tmps[p]?.getD undef= .pointer (some a):=by simpa using h
 have k:tmps[q]?.getD undef= .pointer (some b):=by simpa using j
 simp only[results,e]
 simp[Sem.run_bind,Result.andThen,i,k,asAddr,f,g]
theorem Fj(w:World)(a:Addr)(z:Int)(b:w.cell? a=some (.int .i64 z)):(loadVar 3 a).run Tryz.prog w= .ok (.int .i64 z) w:=by go_simp
theorem Bj(w:World)(a:Addr)(z:Bool)(b:w.cell? a=some (.bool z)):(loadVar 4 a).run Tryz.prog w= .ok (.bool z) w:=by go_simp
theorem aff(a b:List Nd):∃t,gE (a++b)=gE a++t:=by
 refine xu (p:=fun b=>∃t,gE (a++b)=gE a++t) ⟨[],by simp⟩ (fun d e ⟨t,c⟩=>?_) b
 rw[<-cG,pz,c]
 exact⟨t++[_],cG _ _ _⟩
theorem Fk{a:List Nd}{k:Nat}{N:Nd}(b:a[k]?=some N):gE (a.take (k+1))=gE (a.take k)++[py (gE (a.take k)) k N.ks]:=by
 have c:k<a.length:=(List.getElem?_eq_some_iff.1 b).1
 rw[gv,b]
 show gE (a.take k++[N])=_
 rw[pz,ie,dt,pd (by omega)]
theorem ahB{a:List Nd}{k:Nat}{N:Nd}(b:a[k]?=some N):(gE a).getD k 0=py (gE (a.take k)) k N.ks:=by
 have e:k<a.length:=(List.getElem?_eq_some_iff.1 b).1
 obtain⟨f,c⟩:=aff (a.take (k+1)) (a.drop (k+1))
 rw[wK,Fk b]at c
 have d:(gE (a.take k)).length=k:=by rw[ie,dt,pd (by omega)]
 rw[c,aL,cG,gq (by omega),d]
 simp
def acF(L:List Im)(ks:List Int)(m:Nat):Value:=match ks[m]? with
 |some c=>(match L[c.toNat]? with|some a=> .iface (jd (dL a.N.k)) (.pointer (some ⟨a.b,0,none⟩))|none=> .nilIface)
 |none=> .nilIface
theorem Jk{L:List Im}{ks:List Int}{m q:Nat}{a:Im}(c:ks[m]?=some (q:Int))(d:L[q]?=some a):acF L ks m= .iface (jd (dL a.N.k)) (.pointer (some ⟨a.b,0,none⟩)):=by
 unfold acF
 rw[c]
 simp[d]
structure ahC (w:World) (c:List Nat) (k:Nat) (W:World):Prop where
 bl:Below w.heap.size w W
 r0:W.heap[w.heap.size]?=some (.cells #[.int .i64 (k:Int)] 3 (0,0))
 r1:W.heap[w.heap.size+1]?=some (.cells #[.bool true] 4 (0,0))
 mks:oq (w.heap.size+1+1+1) c W
theorem zB(w:World)(base:Nat)(c6:Value)(L:List Im)(a6:jm w base c6 L)(q:List Nd)(eb:L.map Im.N=q)(n:Nat)(b3:L.length=n)(hG:1<=n)(z:n<=3000)(d7:∀x∈L,x.N.ks.length<=200):
  Calls Tryz.prog 43 #[c6] w fun e p=>e= .returned (Dl (gE q) n (gj (fD (gE q)) n 0))/\Below w.heap.size w p:=by
 obtain⟨al,ar,rfl⟩:∃al k,c6= .slice (some ⟨al,0,none⟩) n k:=by
  rcases bg a6.row with⟨h,_⟩|h
  ·omega
  ·rw[<-b3];exact h
 have h3:n<=ar:=by
  rcases a6.row.2 with⟨z,_⟩|⟨f4,fr,fv,z,_,_,f5,_⟩
  ·cases z
  ·cases z;omega
 obtain⟨g7,cc,g4,g5,g6⟩:=dD rh
 obtain⟨a9,b4⟩:=aE (gj (fD (gE q)) n 0)
 rw[b4]
 have i:=ac9 a6 eb b3 b4 d7
 clear a6 eb b3 b4 d7
 refine Bn (n:=5).1 ?_
 refine callsIn_of_wp_marks Tryz.func43 rfl trivial ?_ rfl
 simp only[Tryz.ntmps43,gG,co,dB,Nat.reduceAdd,Nat.reduceSub,je,jf,jg,wI,er,fl]
 refine wpIn_wide.2 ?_
 go_wp2_with (at_make;refine xh _ rfl _ _ 31 rfl w.heap.size 3 g7 (.int .i64 0) 1 Tryz.underlying31 cc g4 g5 .i64 .i64 _ _ n rfl rfl rfl rfl (by rw[g6];omega) (by unfold maxLen;omega) (by simp;omega) ?_;intro ap bf a7)
 rename_i he f8
 have ba:Below ((w.alloc (.cells #[.int .i64 0] 3)).alloc (.cells #[.bool false] 4)).heap.size ((w.alloc (.cells #[.int .i64 0] 3)).alloc (.cells #[.bool false] 4)) ap:=⟨a7.os,a7.tape,a7.output,a7.size,fun a d6=>a7.block a d6 (by simp)⟩
 rw[show(madeCells (Value.int .i64 0).cells (n*1)).toList=List.replicate n (Value.int .i64 0) by rw[oL];exact sC _ n]at bf
 simp only[db]at bf ba
 have g0:w.heap.size+1+1<ap.heap.size:=(bf.lt _ rfl).2
 have bE:wF w ap.heap.size n [] [] (ap.alloc (.cells #[.slice (some ⟨w.heap.size+1+1,0,none⟩) n n] 31)):=by
  refine⟨?_,?_,?_,?_,ay ap _,⟨xi,fun l hb=>by simp at hb,fun l hb=>by simp at hb⟩⟩
  ·exact((((ag _ w).alloc (ah _) _).alloc (by simp) _).trans (ba.mono (by omega))).alloc (by omega) _
  ·exact(eo _ _ _ (by omega)).trans ((ba.block _ (by omega)).trans ((eo _ _ _ (by simp)).trans (ay w _)))
  ·refine(eo _ _ _ (by omega)).trans ((ba.block _ (by omega)).trans ?_)
   have:=ay (w.alloc (.cells #[.int .i64 0] 3)) (.cells #[.bool false] 4)
   rw[db]at this;exact this
  ·exact bf.alloc _
 obtain⟨s,dk⟩:=aE ap.heap.size
 have dn:s<(ap.alloc (.cells #[.slice (some ⟨w.heap.size+1+1,0,none⟩) n n] 31)).heap.size:=by simp;omega
 rw[dk]at bE g0⊢
 generalize ap.alloc (.cells #[.slice (some ⟨w.heap.size+1+1,0,none⟩) n n] 31)=fq at bE dn⊢
 clear bf a7 ba dk
 have c9:Hid (wF w s n (gE (q.take 0)) [] fq/\gj (fD (gE q)) (n-0) 0=a9/\∀(I:Nat) r,(gE (q.take 0))[I]?=some r->1<=r):=⟨bE,i.2.2.2.1,fun I r h=>by simp[gE]at h⟩
 clear bE
 refine(Bw (n:=5)).1 (wpIn_loop (fun am d=>∃(a:Nat) (k:List Nat),a<=n/\s<d.heap.size/\Hid (wF w s n (gE (q.take a)) k d/\gj (fD (gE q)) (n-a) a=a9/\∀(I:Nat) r,(gE (q.take a))[I]?=some r->1<=r)/\
  ∃e8 e9 fa el eq es et ev ex eF e0 e3 e4 e5 e6 cu cw cx cy cI c0 c4:Value,am={tmps:=#[.slice (some ⟨al,0,none⟩) n ar,undef,.pointer (some ⟨w.heap.size,0,none⟩),.pointer (some ⟨w.heap.size+1,0,none⟩),.pointer (some ⟨s,0,none⟩),e8,e9,fa,undef,undef,undef,.slice (some ⟨al,0,none⟩) n ar,.int .i64 (n:Int),.slice (some ⟨w.heap.size+1+1,0,none⟩) n n,.slice (some ⟨al,0,none⟩) n ar,.int .i64 (n:Int),.int .i64 (a:Int),el,eq,es,et,ev,ex,eF,e0,e3,e4,e5,e6,undef,undef,undef,undef,undef,undef,undef,undef,undef,undef,undef,undef,undef,undef,undef,undef,cu,cw,cx,cy,cI,c0,c4,undef,undef,undef,undef,undef,undef,undef,undef,undef,undef,undef],defers:=k.map Cp}) (fun am _=>n-(intOf (am.tmps.getD 16 undef)).toNat) ?start ?round)
 case start=>exact⟨0,[],aJ _,dn,c9,undef,undef,undef,undef,undef,undef,undef,undef,undef,undef,undef,undef,undef,undef,undef,undef,undef,undef,undef,undef,undef,undef,rfl⟩
 case round=>
  rintro am d ⟨a,k,d6,b2,m,e8,e9,fa,el,eq,es,et,ev,ex,eF,e0,e3,e4,e5,e6,cu,cw,cx,cy,cI,c0,c4,rfl⟩
  clear c9
  refine wpIn_wide.2 ?_
  by_cases d8:a<n
  ·have h5:(a:Int)<(n:Int):=by omega
   have gr:(0:Int)<=(a:Int):=by omega
   obtain⟨x,a3⟩:=bC i.2.2.1 d8
   have d4:=ai m.1.bl (i.1.at a3)
   have ca:=ai m.1.bl (i.1.box a x a3).cells.2.2.2.2.1
   have H:=i.1.kid a x a3
   obtain⟨y,E,bA⟩:=vg H
   have gs:=i.2.2.2.2 x (bJ a3)
   obtain⟨B,cd⟩:=aE x.N.ks.length
   rw[bA]at ca
   rw[cd]at ca gs bA
   have t:=jw a3 bA cd
   have bd:=fun w=>ou x.N.k x.b w
   have g3:x.b<d.heap.size:=fi (aw (i.1.box a x a3)) m.1.bl.size
   generalize jd (dL x.N.k)=ct at bd d4
   clear a3 H bA cd
   go_wp2_with (first|(go_at_call 307;refine(de _ _).mono ?_;rintro e bs ⟨rfl,ef⟩;subst bs)|(go_at_call 124;refine(ui y B E _).mono ?_;rintro e hc ⟨rfl,a2⟩;subst hc))
   rename_i hf dz
   obtain⟨S,hS⟩:=aE (gE (q.take a))
   obtain⟨ak,b6⟩:=aE (yA S x.N.ks.reverse (a:Int))
   rw[hS]at m
   obtain⟨g,bn⟩:=aE d.heap.size
   have bk:Dm w s n S k g a (.slice y B E) (a:Int) (((d.alloc (.cells #[.int .i64 (a:Int)] 3)).alloc (.cells #[.int .i64 ((a:Int)-1)] 3)).alloc (.cells #[.slice y B E] 62)):=by
    refine⟨m.1.below ((((ag _ d).alloc (ah _) _).alloc (by simp) _).alloc (by simp;omega) _),?_,?_,?_⟩
    ·exact(eo _ _ _ (by simp;omega)).trans ((eo _ _ _ (by simp;omega)).trans (by rw[<-bn];exact ay d _))
    ·refine(eo _ _ _ (by simp;omega)).trans ?_
     have:=ay (d.alloc (.cells #[.int .i64 (a:Int)] 3)) (.cells #[.int .i64 ((a:Int)-1)] 3)
     rw[db,bn]at this;exact this
    ·have:=ay ((d.alloc (.cells #[.int .i64 (a:Int)] 3)).alloc (.cells #[.int .i64 ((a:Int)-1)] 3)) (.cells #[.slice y B E] 62)
     rw[db,db,bn]at this;exact this
   have a4:(((d.alloc (.cells #[.int .i64 (a:Int)] 3)).alloc (.cells #[.int .i64 ((a:Int)-1)] 3)).alloc (.cells #[.slice y B E] 62)).heap.size=g+1+1+1:=by simp;omega
   rw[bn]at b2 g3⊢
   generalize ((d.alloc (.cells #[.int .i64 (a:Int)] 3)).alloc (.cells #[.int .i64 ((a:Int)-1)] 3)).alloc (.cells #[.slice y B E] 62)=hh at bk a4⊢
   have d3:∀l∈k,l<g:=fun l hb=>by rw[<-bn];exact(Array.getElem?_eq_some_iff.1 (m.1.mks.at_ l hb)).1
   have ec:q[a]?=some x.N:=by rw[<-i.out.2.1,bq,t.out.1];rfl
   have bb:(gE q).getD a 0=py S a x.N.ks:=by rw[ahB ec,hS]
   clear d4 ca bd
   refine(Bw (n:=5)).1 ?_
   refine A4 (P:=Tryz.prog) (gf:=176) (lb:=#[.pointer (some ⟨g+1+1,0,none⟩)]) rfl (enters_of Tryz.func176 (by kernel_rfl) rfl)
    (fun c=>#[.int .i64 (c:Int),acF L x.N.ks c]) (fun _=>rfl) B
    (fun c d=>∃b:Int,Dm w s n S k g a (.slice y B E) b d/\0<=b/\b<=(a:Int)/\yA S (x.N.ks.take c).reverse b=ak)
    (fun c am d=>(∃b:Int,Dm w s n S k g a (.slice y B E) b d/\0<=b/\b<=(a:Int)/\yA S (x.N.ks.take (c+1)).reverse b=ak)/\am={tmps:=#[.slice (some ⟨al,0,none⟩) n ar,undef,.pointer (some ⟨w.heap.size,0,none⟩),.pointer (some ⟨w.heap.size+1,0,none⟩),.pointer (some ⟨s,0,none⟩),.pointer (some ⟨g,0,none⟩),.iface ct (.pointer (some ⟨x.b,0,none⟩)),.pointer (some ⟨g+1,0,none⟩),undef,acF L x.N.ks c,undef,.slice (some ⟨al,0,none⟩) n ar,.int .i64 (n:Int),.slice (some ⟨w.heap.size+1+1,0,none⟩) n n,.slice (some ⟨al,0,none⟩) n ar,.int .i64 (n:Int),.int .i64 (a:Int),.bool true,.int .i64 (a:Int),.pointer (some ⟨al,a,none⟩),.iface ct (.pointer (some ⟨x.b,0,none⟩)),.int .i64 (a:Int),.int .i64 ((a:Int)-1),.iface ct (.pointer (some ⟨x.b,0,none⟩)),.pointer (some ⟨x.b,0,none⟩),.pointer (some ⟨x.b,0,none⟩),.pointer (some ⟨x.b,5,none⟩),.slice y B E,.func (.func 176) #[] #[.pointer (some ⟨g+1+1,0,none⟩)],.int .i64 (c:Int),acF L x.N.ks c,undef,undef,undef,undef,undef,undef,undef,undef,undef,undef,undef,undef,undef,undef,cu,cw,cx,cy,cI,c0,c4,undef,undef,undef,undef,undef,undef,undef,undef,undef,undef,undef],defers:=[]})
    (fun d=>ahC w k a d/\ak=none)
    ?pZ ?pAx ?pX ?h0 ?assign ?body ?seq ?done ?ret
   case pZ=>
    rintro c d eh br ⟨b,h,af⟩ an
    rw[a4]at an⊢
    exact⟨b,h.put (by omega) b2 (by omega) an br,af⟩
   case pAx=>
    rintro c am d eh br ⟨⟨b,h,af⟩,rfl⟩ an
    rw[a4]at an⊢
    exact⟨⟨b,h.put (by omega) b2 (by omega) an br,af⟩,rfl⟩
   case pX=>
    rintro d eh br ⟨h,cg⟩ an
    rw[a4]at an⊢
    exact⟨⟨h.bl.grown (grownBy_putObj' d _ br) h.bl.size (fun I e=>by cases e;omega),(World.putObj_heap_other (by omega)).trans h.r0,(World.putObj_heap_other (by omega)).trans h.r1,
     ⟨h.mks.nd,h.mks.lo,fun l u=>(World.putObj_heap_other (by rintro rfl;have:=(h.mks.at_ _ u).symm.trans an;cases this)).trans (h.mks.at_ l u)⟩⟩,cg⟩
   case h0=>
    intro hg hb ih
    refine⟨(a:Int),⟨bk.oo.below hb,(hb.block _ (by omega)).trans bk.b5,(hb.block _ (by omega)).trans bk.b7,(hb.block _ (by omega)).trans bk.b8⟩,gr,Int.le_refl _,?_⟩
    rw[bH (by rw[t.out.2.2];exact ah _)];exact b6
   case assign=>
    rintro cn c d bv u ⟨b,h,af⟩ a0
    have fb:Hid (∃b:Int,Dm w s n S k g a (.slice y B E) b d/\0<=b/\b<=(a:Int)/\yA S (x.N.ks.take (c+1)).reverse b=ak):=⟨b,h,af⟩
    clear h af
    gi_wp2
    exact a0 _ _ ⟨fb,rfl⟩ (KeepsFrom.refl _ _)
   case seq=>
    intro cn fn fo ds ge d gd
    have gt:B<=E:=by
     have H:=i.1.kid a x t.1
     rw[t.out.2.1,t.out.2.2]at H
     rcases H.2 with⟨z,dg⟩|⟨f4,fr,fv,z,_,_,f5,_⟩
     ·omega
     ·cases z;omega
    refine Fh 4 cn (g+1+1) B E y _ (by omega) gt fn fo (fun c d h=>?_) (fun c d h I a1=>?_) ge d gd
    ·obtain⟨b,af,_⟩:=ds c d h
     exact cK af.b8
    ·obtain⟨b,af,_⟩:=ds c d h
     obtain⟨r,F⟩:=bC t.2.2 a1
     obtain⟨gk,bb⟩:∃gk,y=some ⟨gk,0,none⟩:=by
      have H:=i.1.kid a x t.1
      rw[t.out.2.1]at H
      rcases bg H with⟨h,_⟩|⟨gk,k,h⟩
      ·rw[t.out.2.2]at h;omega
      ·cases h;exact⟨_,rfl⟩
     obtain⟨f,C,rfl,ed,bo,bw⟩:=i.1.kidAt t.1 (by rw[t.out.2.1,bb]) F
     refine⟨_,bb,?_⟩
     rw[qy,Jk F bo]
     exact ai af.oo.bl bw
   case body=>
    rintro cn c am j u ⟨⟨b,h,gg,gm,A⟩,rfl⟩
    rw[a4]
    obtain⟨r,F⟩:=bC t.2.2 u
    obtain⟨gk,gp⟩:∃gk,y=some ⟨gk,0,none⟩:=by
     have H:=i.1.kid a x t.1
     rw[t.out.2.1]at H
     rcases bg H with⟨h,_⟩|⟨gk,k,h⟩
     ·rw[t.out.2.2]at h;omega
     ·cases h;exact⟨_,rfl⟩
    obtain⟨f,C,rfl,ed,bo,bw⟩:=i.1.kidAt t.1 (by rw[t.out.2.1,gp]) F
    rw[Jk F bo]
    have gu:=ai h.oo.bl (i.1.box f C bo).cells.2.2.2.1
    have ir:=aw (i.1.box f C bo)
    have G:S.length=a:=by rw[<-hS,ie,dt,<-i.out.2.1,aI,i.out.2.2.1];omega
    obtain⟨v,a8⟩:=bC G ed
    have ii:=m.2.2 f v a8
    have ik:v<=(f:Int)+1:=by
     have gz:yB S:=by
      rw[<-hS]
      refine uE _ (fun N a6 r F=>?_)
      obtain⟨cm,cc,e⟩:=gh (sG a6)
      have bc:(L.map Im.N)[cm]?=some N:=by rw[i.out.2.1,aF cc,e]
      rw[bq]at bc
      cases hLi:L[cm]? with
      |none=>rw[hLi]at bc;cases bc
      |some ha=>
       rw[hLi]at bc
       obtain rfl:=bh bc
       exact(i.1.rng cm ha r hLi F).1
     exact(gz f v a8).2
    have cb:S.getD f 0=v:=by rw[aL,a8];rfl
    have a2:(if(f:Int)=b-1/\v≠0 then yA S (x.N.ks.take c).reverse (b-v) else none)=ak:=by
     rw[gv,F,BG,List.reverse_append]at A
     show _=ak
     rw[<-A]
     show _=yA S ((f:Int)::(x.N.ks.take c).reverse) b
     rw[yA,mH,cb]
    have ht:=cK h.b5
    have b1:=cK h.b7
    have dd:=cK h.oo.bx
    have ao:=h.oo.row
    have fu:j.cell? ⟨w.heap.size+1+1,f,none⟩=some (.int .i64 v):=by
     rw[ao.cellAt f (by omega),gL (by simp;omega),bq,a8];rfl
    have cr:=cK h.oo.r0
    have cs:=cK h.oo.r1
    have fB:j.frozen? ⟨w.heap.size,0,none⟩=false:=cA _ _ _ _ _ h.oo.r0
    have f2:j.frozen? ⟨w.heap.size+1,0,none⟩=false:=cA _ _ _ _ _ h.oo.r1
    have f3:j.frozen? ⟨g+1,0,none⟩=false:=cA _ _ _ _ _ h.b7
    have bd:=fun w=>ou C.N.k C.b w
    have o:j.drew.cell? ⟨g+1,0,none⟩=some (.int .i64 (b-1))/\j.drew.cell? ⟨C.b,4,none⟩=some (.int .i64 (f:Int)):=⟨b1,gu⟩
    have c8:=aj h
    generalize jd (dL C.N.k)=ei at bd⊢
    by_cases bD:(f:Int)=b-1
    ·rw[ab ⟨bD,by omega⟩]at a2
     have bt:=aj a2
     clear a2 A F bw h a8 cb G ao
     have fA:b=(f:Int)+1:=by omega
     subst fA
     have df:(f:Int)+1-1=(f:Int):=by omega
     rw[df]at b1 o
     clear bD df
     have h9:(f:Int)<(n:Int):=by omega
     have h8:(0:Int)<=(f:Int):=by omega
     gi_wp2
     refine pt (S:=fun p=>p.cell? ⟨g+1,0,none⟩=some (.int .i64 (f:Int))/\p.cell? ⟨C.b,4,none⟩=some (.int .i64 (f:Int))) (by kernel_rfl) (by kernel_rfl) (fun ⟨_,_,h⟩=>h) o (fun o=>?_)
     refine cj 0 (.iface ei (.pointer (some ⟨C.b,0,none⟩))) rfl rfl (by kernel_rfl) (fun _ _ _=>id) o (fun p ⟨J,K⟩=>by go_simp) ?_
     simp only[List.set]
     refine cj 5 (.int .i64 (f:Int)) rfl rfl (by kernel_rfl) (fun _ _ _=>id) o (fun p ⟨J,K⟩=>by go_simp) ?_
     simp only[List.set]
     refine wpAnyH_ready (rs:=[1]) (by kernel_rfl) (by simp) (AllReadyH.cons rfl (fun bv a0=>?_) AllReadyH.nil)
     go_simp
     refine dG (de _ _) fun bs ef=>?_
     subst bs
     refine a0 _ _ o (fun o=>?_)
     clear a0 bv
     try simp only[Act.put,aB,aA,aC]
     refine cj 2 (.pointer (some ⟨C.b,0,none⟩)) rfl rfl (by kernel_rfl) (fun _ _ _=>id) o (fun p ⟨J,K⟩=>by go_simp) ?_
     simp only[List.set]
     refine cj 3 (.pointer (some ⟨C.b,4,none⟩)) rfl rfl (by kernel_rfl) (fun _ _ _=>id) o (fun p ⟨J,K⟩=>by go_simp) ?_
     simp only[List.set]
     refine cj 4 (.int .i64 (f:Int)) rfl rfl (by kernel_rfl) (fun _ _ _=>id) o (fun p ⟨J,K⟩=>by go_simp) ?_
     simp only[List.set]
     refine cj 6 (.bool false) rfl rfl (by kernel_rfl) (fun _ _ _=>id) o (fun p ⟨J,K⟩=>by go_simp) ?_
     simp only[List.set]
     refine wpAnyH_done (by kernel_rfl) ?_ _
     gi_wp2
     have hL:j.drew.cell? ⟨g+1,0,none⟩=some (.int .i64 (f:Int))/\j.drew.cell? ⟨w.heap.size+1+1,f,none⟩=some (.int .i64 v)/\j.drew.cell? ⟨s,0,none⟩=some (.slice (some ⟨w.heap.size+1+1,0,none⟩) n n)/\j.drew.frozen? ⟨g+1,0,none⟩=false:=⟨b1,fu,dd,f3⟩
     have il:IntKind.i64.wrap ((f:Int)-v)=(f:Int)-v:=by rw[bm];omega
     have ad:=c8.out
     have h6:g+1≠w.heap.size+1+1:=by omega
     have d5:Dm w s n S k g a (.slice y B E) ((f:Int)+1-v) (j.setCell ⟨g+1,0,none⟩ (.int .i64 ((f:Int)-v))).drew.drew:=by
      have fz:(f:Int)+1-v-1=(f:Int)-v:=by omega
      refine⟨⟨(ad.oo.bl.setCell (by simp;omega) _).drew.drew,(aK _ _ _ _ (by simp;omega)).trans ad.oo.r0,(aK _ _ _ _ (by simp;omega)).trans ad.oo.r1,?_,(aK _ _ _ _ (by simp;omega)).trans ad.oo.bx,(ad.oo.mks.keeps (KeepsOthers.setCell _ _ _)).keeps ((KeepsOthers.drew _).trans (KeepsOthers.drew _))⟩,(aK _ _ _ _ (by simp)).trans ad.b5,?_,(aK _ _ _ _ (by simp)).trans ad.b8⟩
      ·exact(show(j.setCell ⟨g+1,0,none⟩ (.int .i64 ((f:Int)-v))).ownsRow _ _ _ _ _ _ from ad.oo.row.kept (grownBy_setCell' j (g+1) _) (.inr (by simp[Value.ownBlock];omega)))
      ·rw[fz];exact bI _ _ 0 _ _ _ ad.b7
     have fg:Hid (aa0 (g+1+1+1) j (fun d=>∃b:Int,Dm w s n S k g a (.slice y B E) b d/\0<=b/\b<=(a:Int)/\yA S (x.N.ks.take c).reverse b=ak) (fun d=>ahC w k a d/\ak=none) .normal {tmps:=#[],defers:=[]} (j.setCell ⟨g+1,0,none⟩ (.int .i64 ((f:Int)-v))).drew.drew):=
      ⟨(((KeepsOthers.setCell _ _ _).trans (KeepsOthers.drew _)).trans (KeepsOthers.drew _)).from _,_,d5,by omega,by omega,bt⟩
     clear c8 bt t i m bd o ad d5
     gi_region
     all_goals exact fg
    ·rw[aa (fun e=>bD e.1)]at a2
     have bt:=aj a2
     have d2:ahC w k a ((j.drew.setCell ⟨w.heap.size,0,none⟩ (.int .i64 (a:Int))).setCell ⟨w.heap.size+1,0,none⟩ (.bool true)):=
      ⟨((h.oo.bl.drew.setCell (by simp) _).setCell (by simp) _),(aK _ _ _ _ (by simp)).trans (bI _ _ 0 _ _ _ h.oo.r0),bI _ _ 0 _ _ _ ((aK _ _ _ _ (by simp)).trans h.oo.r1),
       ((h.oo.mks.keeps (KeepsOthers.drew j)).keeps (KeepsOthers.setCell _ _ _)).keeps (KeepsOthers.setCell _ _ _)⟩
     have ff:=aj d2
     have hA:((f:Int)==b-1)=false:=by rw[cJ];exact bD
     clear a2 A F bw h a8 cb G ao d2
     gi_wp2
     refine pt (S:=fun p=>p.cell? ⟨g+1,0,none⟩=some (.int .i64 (b-1))/\p.cell? ⟨C.b,4,none⟩=some (.int .i64 (f:Int))) (by kernel_rfl) (by kernel_rfl) (fun ⟨_,_,h⟩=>h) o (fun o=>?_)
     refine cj 0 (.iface ei (.pointer (some ⟨C.b,0,none⟩))) rfl rfl (by kernel_rfl) (fun _ _ _=>id) o (fun p ⟨J,K⟩=>by go_simp) ?_
     simp only[List.set]
     refine cj 5 (.int .i64 (b-1)) rfl rfl (by kernel_rfl) (fun _ _ _=>id) o (fun p ⟨J,K⟩=>by go_simp) ?_
     simp only[List.set]
     refine wpAnyH_ready (rs:=[1]) (by kernel_rfl) (by simp) (AllReadyH.cons rfl (fun bv a0=>?_) AllReadyH.nil)
     go_simp
     refine dG (de _ _) fun bs ef=>?_
     subst bs
     refine a0 _ _ o (fun o=>?_)
     clear a0 bv
     try simp only[Act.put,aB,aA,aC]
     refine cj 2 (.pointer (some ⟨C.b,0,none⟩)) rfl rfl (by kernel_rfl) (fun _ _ _=>id) o (fun p ⟨J,K⟩=>by go_simp) ?_
     simp only[List.set]
     refine cj 3 (.pointer (some ⟨C.b,4,none⟩)) rfl rfl (by kernel_rfl) (fun _ _ _=>id) o (fun p ⟨J,K⟩=>by go_simp) ?_
     simp only[List.set]
     refine cj 4 (.int .i64 (f:Int)) rfl rfl (by kernel_rfl) (fun _ _ _=>id) o (fun p ⟨J,K⟩=>by go_simp) ?_
     simp only[List.set]
     refine cj 6 (.bool true) rfl rfl (by kernel_rfl) (fun _ _ _=>id) o (fun p ⟨J,K⟩=>by go_simp) ?_
     simp only[List.set]
     refine wpAnyH_done (by kernel_rfl) ?_ _
     gi_wp2
     exact⟨(((KeepsOthers.drew j).from _).trans ((KeepsOthers.setCell _ _ _).from _)).trans ((KeepsOthers.setCell _ _ _).from _),ff,bt.out.symm⟩
   case ret=>
    rintro j ⟨h,cg⟩ a5
    rw[a4]at a5⊢
    have f9:a9=some a:=by
     have z:=m.2.1
     rw[show n-a=(n-(a+1))+1 by omega,gj,ab]at z
     ·exact z.symm
     ·unfold fD
      rw[bb]
      unfold py
      rw[b6,cg]
      rfl
    show LeavesInM _ _ _ _ _ _ (((g+1+1+1)::k).map Cp) .returning j
    refine pv (w.heap.size+1+1+1) _ j ⟨List.nodup_cons.2 ⟨fun u=>by have:=d3 _ u;omega,h.mks.nd⟩,fun l hb=>?_,fun l hb=>?_⟩ (fun b0 A=>?_)
    ·rcases List.mem_cons.1 hb with rfl|hb
     ·omega
     ·exact h.mks.lo l hb
    ·rcases List.mem_cons.1 hb with rfl|hb
     ·exact a5
     ·exact h.mks.at_ l hb
    ·have ce:∀l∈(g+1+1+1)::k,w.heap.size+1+1+1<=l:=fun l hb=>by
      rcases List.mem_cons.1 hb with rfl|hb
      ·omega
      ·exact h.mks.lo l hb
     have cr:=(A.same w.heap.size (fun u=>by have:=ce _ u;omega)).trans h.r0
     have cs:=(A.same (w.heap.size+1) (fun u=>by have:=ce _ u;omega)).trans h.r1
     refine⟨_,rJ rfl _ _ _ ⟨w.heap.size,0,none⟩ ⟨w.heap.size+1,0,none⟩ _ _ rfl rfl (Fj _ _ _ (cK cr)) (Bj _ _ _ (cK cs)),?_,A.below h.bl (fun l hb=>by have:=ce l hb;omega) (ah _)⟩
     rw[f9]
     rfl
   case done=>
    rintro j ⟨b,h,gg,gm,A⟩ a5
    rw[a4]at a5⊢
    have d0:ak=some b:=by rw[<-A];rfl
    have cl:py S a x.N.ks=(a:Int)-(b-1):=by unfold py;rw[b6,d0];show(a:Int)-b+1=_;omega
    have G:S.length=a:=by rw[<-hS,ie,dt,<-i.out.2.1,aI,i.out.2.2.1];omega
    have ao:=h.oo.row
    have hu:j.cell? ⟨w.heap.size+1+1,a,none⟩=some (.int .i64 0):=by
     rw[ao.cellAt a (by omega),gq (by simp;omega),aI,G,fw,By,ab (by omega)]
    have hE:=ao.frozenAt a
    have cp:=(ao.stored a (.int .i64 ((a:Int)-(b-1)))).1
    rw[G,A8 S n a ((a:Int)-(b-1)) G d8]at cp
    have b9:gE (q.take (a+1))=S++[(a:Int)-(b-1)]:=by rw[Fk ec,hS,cl]
    have d9:oq (w.heap.size+1+1+1) ((g+1+1+1)::k) j:=⟨List.nodup_cons.2 ⟨fun u=>by have:=d3 _ u;omega,h.oo.mks.nd⟩,fun l hb=>by
      rcases List.mem_cons.1 hb with rfl|hb
      ·omega
      ·exact h.oo.mks.lo l hb,fun l hb=>by
      rcases List.mem_cons.1 hb with rfl|hb
      ·exact a5
      ·exact h.oo.mks.at_ l hb⟩
    have cf:wF w s n (S++[(a:Int)-(b-1)]) ((g+1+1+1)::k) (j.setCell ⟨w.heap.size+1+1,a,none⟩ (.int .i64 ((a:Int)-(b-1)))):=
     ⟨h.oo.bl.setCell (by simp;omega) _,(aK _ _ _ _ (by simp;omega)).trans h.oo.r0,(aK _ _ _ _ (by simp)).trans h.oo.r1,by rw[aD,G];exact cp,(aK _ _ _ _ (by simp;omega)).trans h.oo.bx,d9.keeps (KeepsOthers.setCell _ _ _)⟩
    have fc:Hid (wF w s n (gE (q.take (a+1))) ((g+1+1+1)::k) (j.setCell ⟨w.heap.size+1+1,a,none⟩ (.int .i64 ((a:Int)-(b-1))))/\gj (fD (gE q)) (n-(a+1)) (a+1)=a9/\∀(I:Nat) r,(gE (q.take (a+1)))[I]?=some r->1<=r):=by
     refine⟨by rw[b9];exact cf,?_,fun I r a1=>?_⟩
     ·have z:=m.2.1
      rw[show n-a=(n-(a+1))+1 by omega,gj,aa]at z
      ·exact z
      ·unfold fD
       rw[bb,cl]
       simp
       omega
     ·rw[b9]at a1
      rcases ci I a with g1|g1
      ·rw[gL (by omega)]at a1
       exact m.2.2 I r a1
      ·rw[gq (by omega)]at a1
       obtain⟨z,dg⟩:=List.getElem?_eq_some_iff.1 a1
       simp at z dg
       omega
    have hn:=cK h.oo.bx
    have ho:=cK h.b5
    have hp:=cK h.b7
    have f6:s<(j.setCell ⟨w.heap.size+1+1,a,none⟩ (.int .i64 ((a:Int)-(b-1)))).heap.size:=aw cf.bx
    have hH:((a:Int)-(b-1))<=3001/\1<=((a:Int)-(b-1)):=by omega
    refine dz _ _ ?_
    clear d0 cl G ao cp b9 d9 cf h A a5 dz f8 m
    go_wp2_with fail
    exact⟨⟨a+1,(g+1+1+1)::k,by omega,f6,fc,_,_,_,_,_,_,_,_,_,_,_,_,_,_,_,_,_,_,_,_,_,_,rfl⟩,by simp[intOf];omega⟩
  ·obtain rfl:a=n:=by omega
   have h7:¬(a:Int)<(a:Int):=by omega
   obtain⟨c,rfl⟩:∃c,a=c+1:=⟨a-1,by omega⟩
   have hS:gE (q.take (c+1))=gE q:=by rw[bH (by rw[<-i.out.2.1,aI,i.out.2.2.1];exact ah _)]
   rw[hS]at m
   have G:(gE q).length=c+1:=by rw[ie,<-i.out.2.1,aI,i.out.2.2.1]
   obtain⟨r,F⟩:=bC G (show c<c+1 by omega)
   have d1:a9=none:=by have:=m.2.1;rw[fw,gj]at this;exact this.symm
   have eg:(gE q).getD c 0=r:=by rw[aL,F];rfl
   have bF:=jw m.1 d1 eg
   have hv:d.cell? ⟨w.heap.size+1+1,c,none⟩=some (.int .i64 r):=by
    rw[m.out.1.row.cellAt c (by omega),gL (by simp;omega),bq,F];rfl
   have dd:=cK m.1.bx
   have cr:=cK m.1.r0
   have cs:=cK m.1.r1
   have fB:d.frozen? ⟨w.heap.size,0,none⟩=false:=cA _ _ _ _ _ m.1.r0
   have f2:d.frozen? ⟨w.heap.size+1,0,none⟩=false:=cA _ _ _ _ _ m.1.r1
   have hC:(c:Int)+1-1=(c:Int):=by omega
   have i1:(0:Int)<=(c:Int):=by omega
   have i2:(c:Int)<(c:Int)+1:=by omega
   clear F eg d1 hS m i
   go_wp2_with fail
   have i3:w.heap.size≠s:=by omega
   have i4:w.heap.size+1≠s:=by omega
   have i5:w.heap.size≠w.heap.size+1+1:=by omega
   have i6:w.heap.size+1≠w.heap.size+1+1:=by omega
   go_region_held3 (fun p=>p.cell? ⟨s,0,none⟩=some (.slice (some ⟨w.heap.size+1+1,0,none⟩) (c+1) (c+1))/\p.cell? ⟨w.heap.size+1+1,c,none⟩=some (.int .i64 r)) (go_keep) (fail)
   all_goals go_wp2_with fail
   have h:=bF.1
   show LeavesInM _ _ _ _ _ _ (k.map Cp) .returning _
   refine pv (w.heap.size+1+1+1) k _ (((h.mks.keeps (KeepsOthers.setCell _ _ _)).keeps (KeepsOthers.setCell _ _ _)).keeps (KeepsOthers.drew _)) (fun b0 A=>?_)
   have g8:b0.heap[w.heap.size]?=some (.cells #[.int .i64 (c:Int)] 3 (0,0)):=(A.same _ (fun u=>by have:=h.mks.lo _ u;omega)).trans ((aK _ _ _ _ (by simp)).trans (bI _ _ 0 _ _ _ h.r0))
   have g9:b0.heap[w.heap.size+1]?=some (.cells #[.bool (decide (r<(c:Int)+1))] 4 (0,0)):=(A.same _ (fun u=>by have:=h.mks.lo _ u;omega)).trans (bI _ _ 0 _ _ _ ((aK _ _ _ _ (by simp)).trans h.r1))
   refine⟨_,rJ rfl _ _ _ ⟨w.heap.size,0,none⟩ ⟨w.heap.size+1,0,none⟩ _ _ rfl rfl (Fj _ _ _ (cK g8)) (Bj _ _ _ (cK g9)),?_,A.below (((h.bl.setCell (by simp) _).setCell (by simp) _).drew) (fun l hb=>by have:=h.mks.lo l hb;omega) (ah _)⟩
   have fx:((c+1:Nat):Int)=(c:Int)+1:=by omega
   rw[bF.out.2.1]
   simp only[Dl,lm,bF.out.2.2,fx,Int.add_sub_cancel]
open Go.Maps Go.WideMaps
theorem iz{b:Func}{p q:Tmp}{u:TypeId}(d:b.results=#[.tmp p,.cell q u])(tmps:Array Value)(P:Program)(w:World)(a:Addr)(v c:Value)(f:tmps.getD p undef=v)(h:tmps.getD q undef= .pointer (some a))
  (e:(loadVar u a).run P w= .ok c w):(results b tmps).run P w= .ok (.tuple #[v,c]) w:=by
 have g:tmps[p]?.getD undef=v:=by simpa using f
 have i:tmps[q]?.getD undef= .pointer (some a):=by simpa using h
 simp only[results,d]
 simp[Result.andThen,g,i,asAddr,e]
theorem nD(w:World)(b:Nat)(c n:Int)(a:ix b w c n):(loadVar 28 ⟨b,0,none⟩).run Tryz.prog w= .ok (.agg #[.int .i64 c,.int .i64 n]) w:=
 Hu w b 28 28 _ _ _ a Tryz.underlying28 rfl (by kernel_rfl)
def uj(w:World)(a:List Nd)(e:Ending)(d:World):Prop:=
 Below w.heap.size w d/\
 (((bu a).1≠0/\e= .returned (.tuple #[.nilIface,.agg #[.int .i64 (bu a).1,.int .i64 (bu a).2]]))\/
  (bu a=(0,0)/\∃f g c b,e= .returned (.tuple #[nV b,.agg #[.int .i64 0,.int .i64 0]])/\c[a.length-1]?=some b/\c.map Im.N=a/\jm d f g c/\∀b∈c,bp w b.vn b.N.nm))
theorem Fl(w:World)(v:Value)(b:List Nd)(i:dK w v b)(x:b.length<=1048576)(q:iI b=true):
  Calls Tryz.prog 17 #[.agg #[v]] w fun e G=>e= .returned (.tuple #[.nilIface,.agg #[.int .i64 1,.int .i64 0]])/\Below w.heap.size w G:=by
 obtain⟨H,I,rfl⟩:=i.form
 have j:∀c d,Below w.heap.size w ((w.alloc c).alloc d):=fun c d=>((ag _ w).alloc (ah _) c).alloc (by simp) d
 have t:∀c (h:Array Value) (m:TypeId),((w.alloc c).alloc (.cells h m)).heap[w.heap.size+1]?=some (.cells h m (0,0)):=fun c h m=>by
  have:=ay (w.alloc c) (.cells h m)
  rw[db]at this
  exact this
 have r:=bi q
 by_cases f:b.length=0
 ·rw[f]
  go_in
  go_wp2
  exact aH (iz rfl _ _ _ ⟨w.heap.size+1,0,none⟩ _ _ rfl rfl (nD _ _ 1 0 (t _ _ _))) rfl ⟨rfl,j _ _⟩
 by_cases g:3000<b.length
 ·obtain⟨a,l⟩:∃a:Nat,b.length=a+1:=⟨b.length-1,by omega⟩
  rw[l]at g x⊢
  have B:decide ((a:Int)<0)=false:=az (by omega)
  have C:(3000:Int)<=(a:Int):=by omega
  have F:(0:Int)<=(a:Int):=by omega
  clear i q r f g l
  go_in
  go_wp2
  exact aH (iz rfl _ _ _ ⟨w.heap.size+1,0,none⟩ _ _ rfl rfl (nD _ _ 1 0 (t _ _ _))) rfl ⟨rfl,j _ _⟩
 ·have E:(b.getD (b.length-1) Hy).k≠1:=by rcases r with e|e|e;exact absurd e f;exact absurd e g;exact e
  have s:b.length-1<b.length:=by omega
  obtain⟨n,p⟩:∃n,b[b.length-1]?=some n:=⟨_,aF s⟩
  rw[aL,p,fH]at E
  obtain⟨A,rfl,af,ad,u⟩:=i.get p
  have o:=u.c0
  obtain⟨z,y⟩:=aE b.length
  rw[y]at o f g x s⊢
  obtain⟨a,l⟩:∃a:Nat,z=a+1:=⟨z-1,by omega⟩
  subst l
  rw[lm]at o
  have J:((a+1:Nat):Int)-1=(a:Int):=by omega
  have F:(0:Int)<=(a:Int):=by omega
  have B:decide ((a:Int)<0)=false:=az (by omega)
  have C:decide ((3000:Int)<=(a:Int))=false:=az (by omega)
  have L:(a:Int)<(a:Int)+1:=by omega
  have K:∀c d,((w.alloc c).alloc d).cell? (A.add (a*9))=some (.int .i64 n.k):=fun c d=>ai (j c d) o
  clear i q r f g p u y s
  go_in
  go_wp2
  exact aH (iz rfl _ _ _ ⟨w.heap.size+1,0,none⟩ _ _ rfl rfl (nD _ _ 1 0 (t _ _ _))) rfl ⟨rfl,j _ _⟩
structure Fm (w0:World) (lb mb:Nat) (vs:Value) (L:List Im) (W:World):Prop where
 bl:Below w0.heap.size w0 W
 lk:Lk W lb mb vs
 ns:jm W w0.heap.size vs L
theorem Fm.below{e:World}{lb mb:Nat}{d:Value}{L:List Im}{W c:World}(a:Fm e lb mb d L W)(b:Below W.heap.size W c):Fm e lb mb d L c:=
 ⟨a.bl.trans (b.mono a.bl.size),a.lk.below b,a.ns.below b⟩
theorem ix.keep{b a:Nat}{W d:World}{c n:Int}(e:ix b W c n)(f:Below a W d)(g:b<a):ix b d c n:=(f.block _ g).trans e
theorem ahD(c:Nat):stT c≠28:=by
 unfold stT
 split<;>decide
theorem jm.setFt{W:World}{base:Nat}{h:Value}{L:List Im}(a:jm W base h L){b:Nat}{c n:Int}(i:ix b W c n)(g:b<base)(j:Nat)(v:Value):jm (W.setCell ⟨b,j,none⟩ v) base h L:=
 ⟨Bm a.row g _,fun f d e=>(aK W ⟨b,j,none⟩ d.b v (nJ (a.box f d e) (show W.heap[b]?=some (.cells #[.int .i64 c,.int .i64 n] 28 (0,0)) from i) (ahD _))).trans (a.box f d e),fun f d e=>Bm (a.kid f d e) g _,a.far,a.rng⟩
theorem jm.putFt{W:World}{base:Nat}{f:Value}{L:List Im}(g:jm W base f L){b:Nat}{c n:Int}(e:ix b W c n)(d:b<base)(a h:Int):jm ((W.setCell ⟨b,0,none⟩ (.int .i64 a)).setCell ⟨b,1,none⟩ (.int .i64 h)) base f L:=
 (g.setFt e d 0 _).setFt (c:=a) (n:=n) (bI _ b 0 _ _ _ e) d 1 _
structure aj8 (w:World) (v:Value) (w0:World):Prop where
 tb:w0.heap[w.heap.size]?=some (.cells #[v] 25 (0,0))
 fb:ix (w.heap.size+1) w0 0 0
 bl:Below w.heap.size w w0
 sz:w0.heap.size=w.heap.size+1+1
def Hj(f:Value->Prop)(w:World)(a:List Nd)(e:Ending)(d:World):Prop:=
 Below w.heap.size w d/\
 (((bu a).1≠0/\e= .returned (.tuple #[.nilIface,.agg #[.int .i64 (bu a).1,.int .i64 (bu a).2]]))\/
  (bu a=(0,0)/\∃g h c b,e= .returned (.tuple #[nV b,.agg #[.int .i64 0,.int .i64 0]])/\c[a.length-1]?=some b/\c.map Im.N=a/\jm d g h c/\∀b∈c,bp w b.vn b.N.nm/\f b.vn))
theorem Dn(al:Value->Prop)(w:World)(v:Value)(a:List Nd)(fk:∀(cb:Addr) (n c i:Nat) (N:Nd) (vn:Value),v= .slice (some cb) n c->a[i]?=some N->w.cell? ⟨(cb.add (i*9)).block,(cb.add (i*9)).off+7,none⟩=some vn->al vn)(h:dK w v a)(hp:a.length<=1048576)(gd:∀N∈a,fm N)(fA:mC w)(cI:TypeId)(fr:Nat×Nat)(fg:w.heap[0]?=some (.cells ej cI fr))
  (f4:∀W,Below w.heap.size w W->Lib.TabIs Tryz.prog W "strings.asciiSpace" .u8 Lib.asciiSpaceTab) (cr:iI a=false):
  Calls Tryz.prog 17 #[.agg #[v]] w (Hj al w a):=by
 have gg:=aj fk
 clear fk
 obtain⟨hH,c,rfl⟩:=h.form
 have bD:=iA cr
 have ba:=jw h gd cr
 have br:=jw fA fg f4
 have fa:¬a.length=0:=fun j=>bD (.inl j)
 have fc:¬3000<a.length:=fun j=>bD (.inr (.inl j))
 have cf:(a.getD (a.length-1) Hy).k=1:=by
  by_cases E:(a.getD (a.length-1) Hy).k=1
  ·exact E
  ·exact absurd (.inr (.inr E)) bD
 obtain⟨N,F⟩:∃N,a[a.length-1]?=some N:=⟨_,aF (by omega)⟩
 rw[aL,F,fH]at cf
 obtain⟨ca,rfl,vn,ik,fz⟩:=h.get F
 have bf:=fz.c0
 rw[cf]at bf
 have ha:∀a0 a1,Below w.heap.size w ((w.alloc a0).alloc a1):=fun a0 a1=>((ag _ w).alloc (ah _) a0).alloc (by simp) a1
 obtain⟨n,cz⟩:=aE a.length
 have J:Hid (a.length=n):=cz
 rw[cz]at ba bf fa fc⊢
 obtain⟨d,hq⟩:∃d:Nat,n=d+1:=⟨n-1,by omega⟩
 have f2:n-1=d:=by omega
 rw[f2]at bf
 have h9:d<3000:=by omega
 have h4:((d+1:Nat):Int)-1=(d:Int):=by omega
 have ih:(0:Int)<=(d:Int):=by omega
 have h0:decide ((d:Int)<0)=false:=az (by omega)
 have h3:decide ((3000:Int)<=(d:Int))=false:=az (by omega)
 have ii:(d:Int)<(d:Int)+1:=by omega
 have hc:∀a0 a1,((w.alloc a0).alloc a1).cell? (ca.add (d*9))=some (.int .i64 1):=fun a0 a1=>ai (ha a0 a1) bf
 clear h cr bD fa fc cf F fz cz hp gd fA fg f4 f2 bf
 subst hq
 go_in
 go_wp2_with fail
 generalize fu:(w.alloc _).alloc _=p
 obtain⟨dg,c6,c4,s0⟩:=Dy fu
 have o:Hid (aj8 w (.slice (some ca) (d+1) c) p):=⟨dg,c6,c4,by omega⟩
 clear dg c6 c4 s0 fu hc
 have b0:=aw br.2.1
 have bs:Hid (mC p/\p.heap[0]?=some (.cells ej cI fr)/\(∀W,Below p.heap.size p W->Lib.TabIs Tryz.prog W "strings.asciiSpace" .u8 Lib.asciiSpaceTab)):=
  ⟨br.1.below o.bl (ah _),(o.bl.block _ b0).trans br.2.1,fun W g8=>br.2.2 W (o.bl.trans (g8.mono o.bl.size))⟩
 refine(zI (H:=Unit) p fr cI bs.2.1).mono ?_
 rintro j t ⟨rfl,cw,bE⟩
 obtain⟨C,cy⟩:=aE p.heap.size
 have ht:=o.sz
 have g4:t.cell? ⟨w.heap.size,0,none⟩=some (.slice (some ca) (d+1) c):=cK ((bE.block _ (by omega)).trans o.tb)
 have hu:=bE.size
 have hv:w.heap.size<t.heap.size:=by omega
 have hw:w.heap.size≠t.heap.size:=by omega
 rw[cy]at cw⊢
 have a4:=jw cw bE cy
 clear cw bE cy b0 ht hu
 go_wp2_with fail
 have c5:=ay t (.cells #[.map (some C),.slice none 0 0] 98)
 have cs:Below t.heap.size t (t.alloc (.cells #[.map (some C),.slice none 0 0] 98)):=(ag _ t).alloc (ah _) _
 have b3:Fm p t.heap.size C (.slice none 0 0) [] (t.alloc (.cells #[.map (some C),.slice none 0 0] 98)):=by
  have dk:=a4.2.1.trans (cs.mono a4.2.1.size)
  have hs:C<t.heap.size:=by
   obtain⟨h5,hL,ho,_⟩:=a4.1
   exact aw ho
  exact⟨dk,⟨c5,pA a4.1 (cs.block _ hs),bs.1.below dk (ah _)⟩,⟨dy _ _ _ _,fun i e l=>by simp at l,fun i e l=>by simp at l,fun e l=>by simp at l,fun i e ge l=>by simp at l⟩⟩
 have cv:p.heap.size<=t.heap.size:=a4.2.1.size
 generalize t.alloc (.cells #[.map (some C),.slice none 0 0] 98)=g0 at b3⊢
 obtain⟨av,fB⟩:=aE t.heap.size
 rw[fB]at b3 cv⊢
 have gp:Hid (p.heap.size<=av):=cv
 obtain⟨bc,cp⟩:=aE (gj (eG a) (d+1) 0)
 have b9:Hid (gj (eG a) (d+1) 0=bc):=cp
 have c7:sj (eG a) (d+1-0) 0 bc:=⟨cp⟩
 have c9:Hid (Fm p av C (.slice none 0 0) [] g0):=b3
 clear cp g4 hv hw a4 c5 cs b3 fB cv
 go_loopw [37] (fun c1 wr=>∃(g:Nat) (k:List Im) (b4:Value),g<=d+1/\c1= .int .i64 g/\sj (eG a) (d+1-g) g bc/\Hid (Fm p av C b4 k wr/\k.length=g/\k.map Im.N=a.take g/\∀e∈k,bp w e.vn e.N.nm/\al e.vn)) (fun c1 _=>d+1-(intOf c1).toNat)
 case atStart=>exact⟨0,[],_,aJ _,rfl,c7,c9,rfl,rfl,fun e l=>by simp at l⟩
 case round=>
  obtain⟨g,k,b4,h6,rfl,b7,f⟩:=hrel
  clear c9 c7
  have s:=b7.out
  by_cases b0:g<d+1
  ·obtain⟨r,ap⟩:=bC J.out b0
   have h8:(g:Int)<(d:Int)+1:=by omega
   have h7:(0:Int)<=(g:Int):=by omega
   obtain⟨hI,g9,ir,il,hg⟩:=ba.1.get ap
   obtain rfl:=bh g9
   have B:Below w.heap.size w wr:=o.bl.trans (f.1.bl.mono o.bl.size)
   obtain⟨dn,ds,dz,d9,ec,ed,ef,cc,eg,b1,ct⟩:=hg
   obtain⟨bt,bw,rfl⟩:=b1.form
   obtain⟨hJ,hK,rfl⟩:=ct.form
   have eh:=ai B dn
   have ei:=ai B ds
   have el:=ai B dz
   have eq:=ai B d9
   have et:=ai B ec
   have ev:=ai B ed
   have ex:=ai B ef
   have cd:=ai B cc
   have ce:=ai B eg
   have bd:∀af,Below wr.heap.size wr (wr.alloc af):=fun af=>(ag _ wr).alloc (ah _) af
   have ar:=fun af=>abJ p (wr.alloc af) bs.1 (f.1.bl.trans ((bd af).mono f.1.bl.size)) av C gp b4 k (f.1.lk.below (bd af)) (f.1.ns.below (bd af)) r _ _ (b1.below o.bl) (ct.below o.bl) (ba.2.1 r (bJ ap)) (by rw[f.out.2.1];omega) a (by rw[f.out.2.1];exact f.2.2.1) (by rw[f.out.2.1];exact ap) bs.2.2
   rw[show d+1-g=(d+1-(g+1))+1 by omega,gj]at s
   have e9:eG a g=!(gJ a g r):=by unfold eG;rw[aL,ap];rfl
   have eF:Aj a k.length r=gJ a g r:=by rw[afa,f.out.2.1]
   rw[e9]at s
   unfold gF at ar
   have bb:Hid (Aj a k.length r=gJ a g r):=eF
   have gm:Hid (a[g]?=some r):=ap
   obtain⟨dd,cm⟩:=aE r.nm.length
   obtain⟨hE,fn⟩:=aE r.ks.length
   have b8:Hid (bp w (.slice bt r.nm.length bw) r.nm/\al (.slice bt r.nm.length bw)):=⟨b1,gg.out _ _ _ g r _ rfl ap cc⟩
   rw[cm]at ar cd
   replace b8:Hid (bp w (.slice bt dd bw) r.nm/\al (.slice bt dd bw)):=by rw[<-cm];exact b8
   rw[fn]at ar ce
   clear dn ds dz d9 ec ed ef cc eg b1 ct ap eF e9 cm fn b7
   cases l:gJ a g r with
   |true=>
    rw[l]at s bb
    rw[aa (by decide)]at s
    have gf:sj (eG a) (d+1-(g+1)) (g+1) bc:=⟨s⟩
    clear s l
    go_wp2_with fail
    refine(ar _).mono ?_
    rintro j u ⟨rfl,m,b2⟩
    rw[bb.out]
    obtain⟨hA,e,f7,bk,f8,f9⟩:=b2 bb.out
    have gt:Hid (Fm p av C hA (k++[e]) u/\(k++[e]).length=g+1/\(k++[e]).map Im.N=a.take (g+1)/\∀bn∈k++[e],bp w bn.vn bn.N.nm/\al bn.vn):=
     ⟨⟨m,f8,f9⟩,by rw[aD,f.out.2.1];rfl,by rw[dm,f.out.2.2.1,gv,gm.out];simp[f7],fun bn hy=>by
      rcases List.mem_append.1 hy with hy|hy
      ·exact f.2.2.2 bn hy
      ·obtain rfl:=List.mem_singleton.1 hy
       rw[f7,bk];exact b8⟩
    clear ar b2 m f8 f9 f eh ei el eq et ev ex cd ce B bd
    go_wp2_with fail
    exact⟨⟨g+1,_,_,by omega,by go_num,gf,gt⟩,by simp[intOf];omega⟩
   |false=>
    rw[l]at s bb
    rw[ab (by decide)]at s
    have x:Hid (bu a=(2,(g:Int))):=by
     show bu a=(2,(g:Int))
     unfold bu
     rw[ba.out.2.2,aa (by decide),J.out,b9.out,<-s]
     rfl
    clear s l
    go_wp2_with fail
    refine(ar _).mono ?_
    rintro j u ⟨rfl,m,b2⟩
    rw[bb.out]
    have A:=o.fb.keep m (by rw[o.out.sz];omega)
    obtain⟨am,bx,bA⟩:=gD A
    have G:Hid (ix (w.heap.size+1) u 0 0/\Below w.heap.size w u):=⟨A,o.bl.trans (m.mono o.bl.size)⟩
    clear ar b2 m A f eh ei el eq et ev ex cd ce B bd
    go_wp2_with fail
    exact aH (iz rfl _ _ _ ⟨w.heap.size+1,0,none⟩ _ _ rfl rfl (nD _ _ 2 g (mu G.1 2 g))) rfl ⟨(G.2.setCell (by simp) _).setCell (by simp) _,.inl ⟨(by rw[x.out];intro j;simp at j),(by rw[x.out];rfl)⟩⟩
  ·obtain rfl:g=d+1:=by omega
   rw[fw,gj]at s
   have gs:Hid (bc=none):=s.symm
   have fv:=oA (show gj (eG a) (d+1) 0=none by rw[b9.out];exact s.symm)
   have a5:k.map Im.N=a:=by rw[f.out.2.2.1];exact bH (by rw[J.out];exact ah _)
   have fx:∀(i:Nat) e,k[i]?=some e->a[i]?=some e.N:=fun i e l=>by rw[<-a5,bq,l];rfl
   have cu:∀e∈k,e.N.ks.length<=200:=fun e l=>by
    obtain⟨i,bF,j⟩:=gh l
    have F:a[i]?=some e.N:=fx i e (by rw[aF bF,j])
    have bF:i<d+1:=by rw[<-J.out];exact(List.getElem?_eq_some_iff.1 F).1
    have cg:=fv i (aJ _) (by omega)
    unfold eG at cg
    rw[aL,F,fH]at cg
    have cl:gJ a i e.N=true:=by simpa using cg
    unfold gJ GD at cl
    rw[dr]at cl
    exact(bi cl.1).2.2.2
   have fq:yB (gE a):=uE a (fun N F ge L=>by
    rw[<-a5]at F
    obtain⟨e,l,rfl⟩:=List.mem_map.1 F
    obtain⟨i,bF,j⟩:=gh l
    exact(f.1.ns.rng i e ge (by rw[aF bF,j]) L).1)
   obtain⟨E,bv,rfl⟩:∃E c,b4= .slice (some ⟨E,0,none⟩) (d+1) c:=by
    rcases bg f.1.ns.row with⟨h,_⟩|h
    ·rw[f.out.2.1]at h;omega
    ·rw[f.out.2.1]at h;exact h
   have b5:wr.cell? ⟨av,1,none⟩=some (.slice (some ⟨E,0,none⟩) (d+1) bv):=by rw[au _ _ _ _ _ _ f.out.1.lk.b];rfl
   have z:=zB wr p.heap.size _ k f.1.ns a a5 (d+1) f.2.1 (by omega) (by omega) cu
   have c8:Hid (∀W,Below wr.heap.size wr W->Calls Tryz.prog 44 #[.slice (some ⟨E,0,none⟩) (d+1) bv] W fun j hC=>j= .returned (Jj (gj (gy (C8 a)) (d+1) 0))/\Below W.heap.size W hC):=
    fun W g7=>Al W p.heap.size _ k (f.1.ns.below g7) a a5 (d+1) f.2.1 (by omega) (by omega) cu
   obtain⟨df,cq⟩:=aE (gj (fD (gE a)) (d+1) 0)
   have y:bu a=tf3 (gE a) (C8 a) (d+1) df:=by
    unfold bu
    rw[ba.out.2.2,aa (by decide),J.out,b9.out,gs.out]
    show tf3 (gE a) (C8 a) (d+1) (gj (fD (gE a)) (d+1) 0)=_
    rw[cq]
   rw[cq]at z
   have hj:=o.sz
   have am:=o.fb.keep f.1.bl (by rw[o.out.sz];omega)
   have q:Hid (Fm p av C (.slice (some ⟨E,0,none⟩) (d+1) bv) k wr/\ix (w.heap.size+1) wr 0 0/\k.map Im.N=a/\k.length=d+1/\Below w.heap.size w wr):=⟨f.1,am,a5,f.2.1,o.bl.trans (f.1.bl.mono o.bl.size)⟩
   have gr:Hid (∀e∈k,bp w e.vn e.N.nm/\al e.vn):=f.2.2.2
   have a7:=acr fq (ie a) (by rw[J.out];omega)
   rw[J.out,lm]at a7
   clear s fv fx cu fq b7 f am cq a5 hj
   cases df with
   |some i=>
    have x:Hid (bu a=(3,(i:Int))):=y
    unfold Dl at z
    clear y a7
    go_wp2_with fail
    refine z.mono ?_
    rintro j u ⟨rfl,m⟩
    have A:=q.2.1.below m
    obtain⟨am,bx,bA⟩:=gD A
    have G:Hid (ix (w.heap.size+1) u 0 0/\Below w.heap.size w u):=⟨A,q.2.2.2.2.trans (m.mono q.2.2.2.2.size)⟩
    clear m A z b5
    go_wp2_with fail
    exact aH (iz rfl _ _ _ ⟨w.heap.size+1,0,none⟩ _ _ rfl rfl (nD _ _ 3 i (mu G.1 3 i))) rfl ⟨(G.2.setCell (by simp) _).setCell (by simp) _,.inl ⟨(by rw[x.out];intro j;simp at j),(by rw[x.out];rfl)⟩⟩
   |none=>
    rw[tf3,lm]at y
    unfold Dl at z
    rw[lm]at z
    have g6:((d+1:Nat):Int)-1=(d:Int):=by omega
    rw[g6]at z y
    by_cases L:(gE a).getD d 0<((d+1:Nat):Int)
    ·rw[ab (a7.2 L)]at y
     rw[bB L]at z
     have x:Hid (bu a=(3,(d:Int))):=y
     clear y a7 L
     go_wp2_with fail
     refine z.mono ?_
     rintro j u ⟨rfl,m⟩
     have A:=q.2.1.below m
     obtain⟨am,bx,bA⟩:=gD A
     have G:Hid (ix (w.heap.size+1) u 0 0/\Below w.heap.size w u):=⟨A,q.2.2.2.2.trans (m.mono q.2.2.2.2.size)⟩
     clear m A z b5
     go_wp2_with fail
     exact aH (iz rfl _ _ _ ⟨w.heap.size+1,0,none⟩ _ _ rfl rfl (nD _ _ 3 d (mu G.1 3 d))) rfl ⟨(G.2.setCell (by simp) _).setCell (by simp) _,.inl ⟨(by rw[x.out];intro j;simp at j),(by rw[x.out];rfl)⟩⟩
    ·rw[aa (fun h=>L (a7.1 h))]at y
     rw[az L]at z
     obtain⟨gz,fo⟩:=aE (gj (gy (C8 a)) (d+1) 0)
     rw[fo]at y c8
     clear a7 L fo
     go_wp2_with fail
     refine z.mono ?_
     rintro j u ⟨rfl,m⟩
     have a8:=c8.out u m
     have c2:=ai m b5
     clear z b5
     cases gz with
     |some i=>
      have x:Hid (bu a=(4,(i:Int))):=y
      unfold Jj at a8
      clear y
      have a9:Hid (Below wr.heap.size wr u):=m
      clear m
      go_wp2_with fail
      refine a8.mono ?_
      rintro j a3 ⟨rfl,a6⟩
      have K:=a9.out.trans (a6.mono a9.size)
      have ao:=q.2.1.below K
      obtain⟨am,bx,bA⟩:=gD ao
      have I:Hid (ix (w.heap.size+1) a3 0 0/\Below w.heap.size w a3):=⟨ao,q.2.2.2.2.trans (K.mono q.2.2.2.2.size)⟩
      clear a6 K ao a8 c2
      go_wp2_with fail
      exact aH (iz rfl _ _ _ ⟨w.heap.size+1,0,none⟩ _ _ rfl rfl (nD _ _ 4 i (mu I.1 4 i))) rfl ⟨(I.2.setCell (by simp) _).setCell (by simp) _,.inl ⟨(by rw[x.out];intro j;simp at j),(by rw[x.out];rfl)⟩⟩
     |none=>
      have x:Hid (bu a=(0,0)):=y
      unfold Jj at a8
      clear y
      have a9:Hid (Below wr.heap.size wr u):=m
      clear m
      go_wp2_with fail
      refine a8.mono ?_
      rintro j a3 ⟨rfl,a6⟩
      have K:=a9.out.trans (a6.mono a9.size)
      have i1:=ai a6 c2
      have ao:=q.2.1.below K
      have cB:=q.1.ns.below K
      obtain⟨e,l⟩:=bC q.2.2.2.1 (show d<d+1 by omega)
      have g5:a3.cell? ⟨E,d,none⟩=some (nV e):=by have f3:=cB.row;rw[q.out.2.2.2.1]at f3;rw[f3.cellAt d (by omega),bq,l];rfl
      obtain⟨am,bx,bA⟩:=gD ao
      have I:Hid (ix (w.heap.size+1) a3 0 0/\Below w.heap.size w a3/\jm a3 p.heap.size (.slice (some ⟨E,0,none⟩) (d+1) bv) k/\k[d]?=some e):=⟨ao,q.2.2.2.2.trans (K.mono q.2.2.2.2.size),cB,l⟩
      obtain⟨hD,bk⟩:=aE (nV e)
      rw[bk]at g5
      have gu:Hid (nV e=hD):=bk
      clear a6 K ao a8 c2 cB l bk
      go_wp2_with fail
      exact aH (iz rfl _ _ _ ⟨w.heap.size+1,0,none⟩ _ _ rfl rfl (nD _ _ 0 0 (mu I.1 0 0))) rfl ⟨(I.2.1.setCell (by simp) _).setCell (by simp) _,.inr ⟨x,p.heap.size,_,k,e,by rw[gu.out];rfl,by rw[J.out,lm];exact I.2.2.2,q.2.2.1,I.2.2.1.putFt I.1 (by rw[o.out.sz];omega) 0 0,gr⟩⟩
theorem wd(b:Value->Prop)(w:World)(v:Value)(a:List Nd)(k:∀(d:Addr) (n c i:Nat) (N:Nd) (vn:Value),v= .slice (some d) n c->a[i]?=some N->w.cell? ⟨(d.add (i*9)).block,(d.add (i*9)).off+7,none⟩=some vn->b vn)(f:dK w v a)(g:a.length<=1048576)(p:∀N∈a,fm N)(m:mC w)(h:TypeId)(fr:Nat×Nat)(j:w.heap[0]?=some (.cells ej h fr))
  (o:∀W,Below w.heap.size w W->Lib.TabIs Tryz.prog W "strings.asciiSpace" .u8 Lib.asciiSpaceTab):
  Calls Tryz.prog 17 #[.agg #[v]] w (Hj b w a):=by
 cases hb:iI a with
 |true=>
  have e:bu a=(1,0):=by unfold bu;rw[ab hb]
  refine(Fl w v a f g hb).mono ?_
  rintro q r ⟨rfl,l⟩
  exact⟨l,.inl ⟨by rw[e];decide,by rw[e]⟩⟩
 |false=>exact Dn b w v a k f g p m h fr j o hb
theorem zC(w:World)(v:Value)(a:List Nd)(b:dK w v a)(o:a.length<=1048576)(r:∀N∈a,fm N)(n:mC w)(c:TypeId)(fr:Nat×Nat)(m:w.heap[0]?=some (.cells ej c fr))
  (p:∀W,Below w.heap.size w W->Lib.TabIs Tryz.prog W "strings.asciiSpace" .u8 Lib.asciiSpaceTab):
  Calls Tryz.prog 17 #[.agg #[v]] w (uj w a):=
 (wd (fun _=>True) w v a (fun _ _ _ _ _ _ _ _ _=>trivial) b o r n c fr m p).mono fun u x b=>⟨b.1,b.2.imp id fun ⟨d,e,f,g,s,h,i,j,k,l⟩=>⟨d,e,f,g,s,h,i,j,k,fun t q=>(l t q).1⟩⟩
theorem Fp(w:World)(v:Value)(a:List Nd)(q:dK w v a)(F:a.length<=1048576)(J:∀N∈a,fm N)(b:mC w)(K:TypeId)(fr:Nat×Nat)(t:w.heap[0]?=some (.cells ej K fr))
  (H:∀W,Below w.heap.size w W->Lib.TabIs Tryz.prog W "strings.asciiSpace" .u8 Lib.asciiSpaceTab):
  Calls Tryz.prog 5 #[.agg #[v]] w fun e ak=>e= .returned (.agg #[.int .i64 (bu a).1,.int .i64 (bu a).2])/\Below w.heap.size w ak:=by
 have B:∀x y,Below w.heap.size w ((w.alloc x).alloc y):=fun x y=>((ag _ w).alloc (ah _) x).alloc (by simp) y
 have o:Hid (∀W,Below w.heap.size w W->Calls Tryz.prog 17 #[.agg #[v]] W (uj W a)):=fun W g=>
  zC W v a (q.below g) F J (b.below g (ah _)) K fr ((g.block _ (aw t)).trans t) (fun p af=>H p (g.trans (af.mono g.size)))
 obtain⟨j,k,rfl⟩:=q.form
 obtain⟨m,G⟩:=aE a.length
 rw[G]at o⊢
 obtain⟨d,r⟩:=aE ((bu a).1)
 obtain⟨f,s⟩:=aE ((bu a).2)
 have i:=eJ r s
 rw[r,s]
 clear q F J b t H G r s
 go_in
 go_wp2_with fail
 have n:ix (w.heap.size+1) ((w.alloc (.cells #[.slice j m k] 25)).alloc (.cells #[.int .i64 0,.int .i64 0] 28)) 0 0:=by
  have:=ay (w.alloc (.cells #[.slice j m k] 25)) (.cells #[.int .i64 0,.int .i64 0] 28)
  rw[db]at this
  exact this
 have c:=B (.cells #[.slice j m k] 25) (.cells #[.int .i64 0,.int .i64 0] 28)
 generalize (w.alloc (.cells #[.slice j m k] 25)).alloc (.cells #[.int .i64 0,.int .i64 0] 28)=p at n c⊢
 refine(o p c).mono ?_
 rintro e h ⟨u,E⟩
 obtain⟨I,rfl⟩:∃I,e= .returned (.tuple #[I,.agg #[.int .i64 d,.int .i64 f]]):=by
  rcases E with⟨_,b⟩|⟨ad,_,_,_,al,b,_⟩
  ·exact⟨_,by rw[b,i.out.1,i.out.2]⟩
  ·refine⟨nV al,?_⟩
   rw[b,<-i.out.1,<-i.out.2,ad]
 have l:=n.below u
 obtain⟨am,an,ao⟩:=gD l
 have ap:w.heap.size+1<h.heap.size:=aw l
 have ar:w.heap.size+1≠h.heap.size:=by omega
 have C:Below w.heap.size w h:=c.trans (u.mono c.size)
 have z:=eJ C l
 clear E u n c o C l B
 go_wp2_with fail
 have L:=(mu z.2 d f).below ((ag _ ((h.setCell ⟨w.heap.size+1,0,none⟩ (.int .i64 d)).setCell ⟨w.heap.size+1,1,none⟩ (.int .i64 f))).alloc (ah _) (.cells #[.int .i64 d,.int .i64 f] 28))
 have A:Below w.heap.size w ((h.setCell ⟨w.heap.size+1,0,none⟩ (.int .i64 d)).setCell ⟨w.heap.size+1,1,none⟩ (.int .i64 f)):=(z.1.setCell (by simp) _).setCell (by simp) _
 exact aH (du rfl _ _ (w.heap.size+1) _ _ _ _ rfl L Tryz.underlying28 rfl (by kernel_rfl)) rfl ⟨rfl,A.alloc A.size _⟩
structure Bt (w:World) (v:Value) (ns:List Nd):Prop where
 h:dK w v ns
 hl:ns.length<=1048576
 sm:∀N∈ns,fm N
 he:mC w
 g:∃tt fr,w.heap[0]?=some (.cells ej tt fr)
 t:∀W,Below w.heap.size w W->Lib.TabIs Tryz.prog W "strings.asciiSpace" .u8 Lib.asciiSpaceTab
theorem Bt.below{w W:World}{v:Value}{d:List Nd}(a:Bt w v d)(b:Below w.heap.size w W):Bt W v d:=by
 obtain⟨j,f,c⟩:=a.g
 exact⟨a.h.below b,a.hl,a.sm,a.he.below b (ah _),⟨j,f,(b.block _ (aw c)).trans c⟩,fun e i=>a.t e (b.trans (i.mono b.size))⟩
theorem Bt.link{w:World}{v:Value}{b:List Nd}(a:Bt w v b):Calls Tryz.prog 17 #[.agg #[v]] w (uj w b):=by
 obtain⟨e,c,d⟩:=a.g
 exact zC w v b a.h a.hl a.sm a.he e c d a.t
theorem Bt.tok{w:World}{v:Value}{b:List Nd}(a:Bt w v b):Calls Tryz.prog 5 #[.agg #[v]] w fun e i=>e= .returned (.agg #[.int .i64 (bu b).1,.int .i64 (bu b).2])/\Below w.heap.size w i:=by
 obtain⟨f,c,d⟩:=a.g
 exact Fp w v b a.h a.hl a.sm a.he f c d a.t
theorem Fq{W w1:World}{a:List Nd}{e:Ending}(d:(bu a).1≠0)(c:uj W a e w1):Below W.heap.size W w1/\∃i,e= .returned (.tuple #[i,.agg #[.int .i64 (bu a).1,.int .i64 (bu a).2]]):=by
 obtain⟨g,h⟩:=c
 rcases h with⟨_,b⟩|⟨f,_,_,_,j,b,_⟩
 ·exact⟨g,_,b⟩
 ·exact absurd (by rw[f]) d
section
variable {w : World} {v : Value} {ns : List Nd}
theorem acG(a:Bt w v ns)(f:(bu ns).1≠0):Calls Tryz.prog 8 #[.agg #[v],.int .i64 0] w fun e q=>e= .returned (.slice none 0 0)/\Below w.heap.size w q:=by
 obtain⟨m,n,rfl⟩:=a.h.form
 obtain⟨p,k⟩:=aE ns.length
 rw[k]at a⊢
 have d:=dh w (.cells #[.slice m p n] 25)
 have l:=(a.below d).link
 have o:((bu ns).1 !=0)=true:=by rw[lq];exact f
 have b:=eJ d f
 clear a d k f
 go_in
 go_wp2_with (go_at_call 17;fail)
 refine l.mono ?_
 rintro e w1 i
 obtain⟨j,t,rfl⟩:=Fq b.out.2 i
 have g:=b.out.1.trans (j.mono b.out.1.size)
 have c:=aj (g.trans ((dh w1 (.cells #[.int .i64 (bu ns).1,.int .i64 (bu ns).2] 28)).mono g.size))
 generalize (bu ns).1=r at o c⊢
 generalize (bu ns).2=s at c⊢
 clear l i b j g
 go_wp2_with fail
 go_ret
 exact⟨rfl,c.out⟩
theorem Fr(a:Bt w v ns)(f:(bu ns).1≠0):Calls Tryz.prog 9 #[.agg #[v]] w fun e q=>e= .returned (.slice none 0 0)/\Below w.heap.size w q:=by
 obtain⟨m,n,rfl⟩:=a.h.form
 obtain⟨p,k⟩:=aE ns.length
 rw[k]at a⊢
 have d:=dh w (.cells #[.slice m p n] 25)
 have l:=(a.below d).link
 have o:((bu ns).1 !=0)=true:=by rw[lq];exact f
 have b:=eJ d f
 clear a d k f
 go_in
 go_wp2_with (go_at_call 17;fail)
 refine l.mono ?_
 rintro e w1 i
 obtain⟨j,t,rfl⟩:=Fq b.out.2 i
 have g:=b.out.1.trans (j.mono b.out.1.size)
 have c:=aj (g.trans ((dh w1 (.cells #[.int .i64 (bu ns).1,.int .i64 (bu ns).2] 28)).mono g.size))
 generalize (bu ns).1=r at o c⊢
 generalize (bu ns).2=s at c⊢
 clear l i b j g
 go_wp2_with fail
 go_ret
 exact⟨rfl,c.out⟩
theorem acH(a:Bt w v ns)(d:(bu ns).1≠0):Calls Tryz.prog 10 #[.agg #[v]] w fun e q=>e= .returned (.string ⟨#[]⟩)/\Below w.heap.size w q:=by
 obtain⟨l,m,rfl⟩:=a.h.form
 obtain⟨o,g⟩:=aE ns.length
 rw[g]at a⊢
 have c:=dh w (.cells #[.slice l o m] 25)
 have i:=(a.below c).tok
 have n:((bu ns).1 !=0)=true:=by rw[lq];exact d
 have b:=aj c
 clear a c g d
 go_in
 go_wp2_with (go_at_call 5;fail)
 refine i.mono ?_
 rintro e w1 ⟨rfl,f⟩
 have k:=aj (b.out.trans (f.mono b.out.size))
 generalize (bu ns).1=r at n⊢
 generalize (bu ns).2=s
 clear i b f
 have t:∀(j p:Value)(w:World),(Instr.field 28 (.agg #[j,p]) 0).run Tryz.prog w= .ok j w:=fun _ _ _=>by kernel_rfl
 go_wp2_with fail
 go_ret
 exact⟨rfl,k.out⟩
end
