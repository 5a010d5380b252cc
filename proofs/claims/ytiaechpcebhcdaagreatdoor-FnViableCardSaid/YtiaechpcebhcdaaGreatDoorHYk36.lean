import Derived.Test.YtiaechpcebhcdaaGreatDoorHYk33
import Derived.Test.YtiaechpcebhcdaaGreatDoorHYk34
import Derived.Test.YtiaechpcebhcdaaGreatDoorHYk35
set_option linter.all false
set_option maxRecDepth 100000
set_option maxHeartbeats 12800000
open Go.Proofs.Tryz
open List renaming length->M,range->B5,replicate->D4,set->Fs,mem_range->G3
open Go.Value renaming int->X,slice->Ax,string->A0,agg->Ed,pointer->E0,tuple->E2,bool->G2,ownBlock->H0,nilIface->H1,string->H2,slice->H3
open Go.IntKind renaming i64->Y,u8->G0
open Go.Proofs.Tryz renaming prog->A2
open Go.Obj renaming cells->A3
open Option renaming some->A5,none->A6
open Go.RowKit renaming Below->A9,Hid->Ce,intOf->C2
open Go renaming Value->Br,World->B0,Calls->B7,TypeId->F0,wpAnyH_ready->F1,undef->H4
open Go.Ending renaming returned->B1
open Bool renaming false->B2,true->B3
open Go.MakeChecks renaming laidMetH_plain->B4
open ByteArray renaming empty->B6
open Go.Lib renaming asciiSpaceTab->Ck,TabIs->F2
open Go.AllReadyH renaming cons->D3,nil->E1
namespace Go.Proofs.YtiaechpcebhcdaaGreatDoor
open Go.ChangeShapes Go.WideShapes Go.ChangeAt Go.WideMaps Go.WideElems Go.RowKit
variable{C:Cd}{L:List Mb}{N:Nd}{W W' w:World}{a c m z:Int}{b base g n p:Nat}{ns:List Nd}{s t:Bz}{st:List Int}{vs:Value}
def as0(V:Array Br):List (List UInt8):=V.toList.map λv=>match v with| .string s=>s.data.toList|_=>[]
def Kn{c:String}{d:DataW Unit}{t:F0}{V:Array Br}(v:([(c,d)].all λx=>x.2.handleName?.isNone)=B3)
  (s:Tryz.prog.globalNamed c=A5 g) (l:(Tryz.prog.globals[g]?).map (·.type)=A5 t) (ht:Tryz.prog.underlying t=A5 (.array n 9)) (o:Tryz.prog.cellsOf 9=1) (p:Tryz.prog.cellsOf t=n)
  (q:d= .agg ((as0 V).map λb=> .lit (.string b))) (m:(as0 V).map (λb=>H2 ⟨b.toArray⟩)=V.toList) (h:laidMetH A2 [(c,d)] W):∃e fr,W.heap[g]?=A5 (.cells V e fr):=by
 rw[B4 _ _ _ v]at h;obtain⟨C,⟨A,F,i,z,B,E,f,w,a,r,_,_⟩,_,_⟩:=h;obtain rfl:=cC (s.symm.trans f);obtain rfl:=cC (l.symm.trans w);subst q;have j:=Gc ht underlying9 o p r;have k:i=V:=by
  apply Array.toList_inj.1;rw[j,m]
 simp only[World.var?,f,Ih]at a;split at a
 .rename_i y e fr u;cases a;exact⟨e,fr,by rw[<-k];exact u⟩
 .cases a
def akt{a nm:String}{d:DataW Unit}{t:F0}{ms:Array (String×F0)}(n:([(a,DataW.iface nm d)].all λx=>x.2.handleName?.isNone)=B3)
  (m:Tryz.prog.globalNamed a=A5 g) (k:(Tryz.prog.globals[g]?).map (·.type)=A5 t) (ht:Tryz.prog.underlying t=A5 (.interface ms)) (h:laidMetH A2 [(a,.iface nm d)] W):∃r q,W.cell? ⟨g,0,A6⟩=A5 (.iface r q):=by
 rw[B4 _ _ _ n]at h;obtain⟨y,⟨v,A,f,u,w,z,b,o,p,l,_,_⟩,_,_⟩:=h;obtain rfl:=cC (m.symm.trans b);obtain rfl:=cC (k.symm.trans o);have⟨s,c,e,i,_,_⟩:=iface_of_trod ht l;refine⟨c,e,?_⟩;have:=World.var?_cell b p 0;rw[this];have j:f.toList[0]?=A5 (.iface c e):=by rw[i];rfl
 simpa using j
def aqJ:List Int:=[0,1,56,2,57,49,28,3,61,58,42,50,38,29,17,4,62,47,59,36,45,43,51,22,53,39,33,30,24,18,12,5,63,55,48,27,60,41,37,16,46,35,44,21,52,32,23,11,54,26,40,15,34,20,31,10,25,14,19,9,13,8,7,6]
def as1:Tryz.prog.globalNamed "math/bits.deBruijn64tab" =A5 11:=J
def atI:Tryz.prog.globalNamed "internal/strconv.uint64pow10" =A5 9:=J
def atJ:Tryz.prog.globalNamed "strconv.ErrSyntax" =A5 6:=J
def atK:Tryz.prog.globalNamed "strconv.ErrRange" =A5 7:=J
def atL:Tryz.prog.globalNamed "loop.example/warp/impl.wordTexts" =A5 0:=J
def at1:Tryz.prog.globalNamed "loop.example/warp/impl.markTexts" =A5 2:=J
def at3:Tryz.prog.globalNamed "loop.example/warp/impl.binaryTexts" =A5 3:=J
def ang(c:laidMetH A2 [("loop.example/warp/impl.wordTexts",Rows.laid_loop_example_warp_impl_wordTexts)] W)(d:laidMetH A2 [("loop.example/warp/impl.markTexts",Rows.laid_loop_example_warp_impl_markTexts)] W)(h3:laidMetH A2 [("loop.example/warp/impl.binaryTexts",Rows.laid_loop_example_warp_impl_binaryTexts)] W)(e:laidMetH A2 [("strconv.ErrSyntax",Rows.laid_strconv_ErrSyntax)] W)(f:laidMetH A2 [("strconv.ErrRange",Rows.laid_strconv_ErrRange)] W)(a:laidMetH A2 [("internal/strconv.uint64pow10",Rows.laid_internal_strconv_uint64pow10)] W)(b:laidMetH A2 [("math/bits.deBruijn64tab",Rows.laid_math_bits_deBruijn64tab)] W):Kv W:=by
 refine⟨⟨?_,?_,?_⟩,⟨?_,?_⟩,?_,?_⟩
 .exact Kn (V:=fG) J atL (t:=136) J underlying136 J J rfl rfl c
 .exact Kn (V:=je) J at1 (t:=231) J underlying231 J J rfl rfl d
 .exact Kn (V:=lK) J at3 (t:=232) J underlying232 J J rfl rfl h3
 .exact akt J atJ (t:=249) J underlying249 e
 .exact akt J atK (t:=249) J underlying249 f
 .rw[B4 _ _ _ J]at a;exact Lib.tabIs_of_head atI (t:=317) J underlying317 underlying36 J J a
 .rw[B4 _ _ _ J]at b;have g:laidMet A2 [("math/bits.deBruijn64tab",Lib.tabData .u8 aqJ)] W:=b;exact(Lib.tabIs_of_head as1 (t:=322) J underlying322 underlying5 J J g).cell as1 15 Z
def aqK(h:laidMetH A2 [("math/bits.deBruijn32tab",Rows.laid_math_bits_deBruijn32tab),("math/bits.deBruijn64tab",Rows.laid_math_bits_deBruijn64tab),("internal/strconv.uint64pow10",Rows.laid_internal_strconv_uint64pow10),("strconv.ErrRange",Rows.laid_strconv_ErrRange),("strconv.ErrSyntax",Rows.laid_strconv_ErrSyntax),("loop.example/warp/impl.wordTexts",Rows.laid_loop_example_warp_impl_wordTexts),("loop.example/warp/impl.markTexts",Rows.laid_loop_example_warp_impl_markTexts),("loop.example/warp/impl.binaryTexts",Rows.laid_loop_example_warp_impl_binaryTexts)] W):Kv W:=
 ang (h.filter λa=>a.1== "loop.example/warp/impl.wordTexts") (h.filter λa=>a.1== "loop.example/warp/impl.markTexts") (h.filter λa=>a.1== "loop.example/warp/impl.binaryTexts") (h.filter λa=>a.1== "strconv.ErrSyntax") (h.filter λa=>a.1== "strconv.ErrRange") (h.filter λa=>a.1== "internal/strconv.uint64pow10") (h.filter λa=>a.1== "math/bits.deBruijn64tab")
def anh{H:Type}(x:Int×Int×Int):DataW H:= .agg [.lit (.int .i64 x.1),.lit (.int .i64 x.2.1),.lit (.int .i64 x.2.2)]
def aku(x:Int×Int×Int):List Br:=[X Y x.1,X Y x.2.1,X Y x.2.2]
def as2(l:List Br)(h:M l=3):∃a b c,l=[a,b,c]:=by
 match l,h with
 |[a,b,c],_=>exact⟨a,b,c,rfl⟩
def ani{H:Type}{enc:F0×Br->H}{r:Nat->Bool}{m:Bool}{fuel:Nat}{l:List Br}{x:Int×Int×Int}{p:List MemPlace}(h:DataW.trod enc A2 W base r m fuel 194 l=A5 (anh x,p)):l=aku x:=by
 have j:Tryz.prog.cellsOf 3=1:=J;have k:Tryz.prog.cellsOf 194=3:=J;have⟨w,y,z,v,a,e,b,c,d⟩:=Go.Deep.trod_struct3 underlying194 h;rw[k]at e;obtain⟨s,t,u,rfl⟩:=as2 l e;simp[j]at b c d;have⟨z0,f,n,_⟩:=Is underlying3 b;have⟨A,g,o,_⟩:=Is underlying3 c;have⟨B,i,q,_⟩:=Is underlying3 d;simp at f g i;subst f g i;unfold anh at a;rw[n,o,q]at a;simp at a;unfold aku;rw[a.1.1,a.1.2.1,a.1.2.2]
def H8:∀(a:List (Int×Int×Int))(cs:List Br),M cs=3*M a->(∀i x,a[i]?=A5 x->(cs.drop (i*3)).take 3=aku x)->cs=a.flatMap aku
 |[],cs,b,_=>by simpa using b
 |x::a,cs,b,h=>by
  have c:=h 0 x rfl;simp only[Nat.zero_mul,ni]at c;have e:=H8 a (cs.drop 3) (by rw[wE,b];simp;omega) (λi f d=>by
   have:=h (i+1) f (by simpa using d);rw[List.drop_drop];rw[(O:(i+1)*3=3+i*3)]at this;exact this)
  rw[zv,<-e,<-c];exact(wG 3 cs).symm
def akv:List (Int×Int×Int):=[(26,1,2),(10,2,3),(73,3,4),(74,3,4),(75,3,4),(76,3,4),(77,3,4),(78,3,4),(72,4,4),(68,5,6),(69,6,7),(67,7,8),(70,8,9),(71,8,9),(61,9,10),(62,9,10),(63,10,11),(64,10,11),(65,10,11),(66,10,11)]
def at4:Tryz.prog.globalNamed "loop.example/warp/impl.powers" =A5 1:=J
def anj(h:laidMetH A2 [("loop.example/warp/impl.powers",Rows.laid_loop_example_warp_impl_powers)] W):∃e fr,W.heap[1]?=A5 (.cells DI e fr):=by
 rw[B4 _ _ _ J]at h;obtain⟨F,⟨A,H,c,q,E,G,g,y,b,r,_,_⟩,_,_⟩:=h;obtain rfl:=cC (at4.symm.trans g);obtain rfl:=cC (((J:(Tryz.prog.globals[1]?).map (·.type)=A5 195)).symm.trans y);have l:Tryz.prog.cellsOf 194=3:=J;have m:Tryz.prog.cellsOf 195=60:=J;have s:DataW.trod _ A2 W _ _ _ q 195 c.toList=A5 (.agg (akv.map anh),_):=r;have⟨k,C,_,j,w,B,t⟩:=DataW.trod_array underlying195 s;simp only[pA,DataW.agg.injEq]at j;have n:c.toList=akv.flatMap aku:=by
  refine H8 akv _ (by rw[w,m];rfl) (λa x i=>?_);have v:a<20:=by have:=(List.getElem?_eq_some_iff.1 i).1;simpa [akv] using this
  have f:=t a v;rw[l,bi O]at f;have d:(k.map (·.1))[a]?=(akv.map anh)[a]?:=by rw[j.1]
  rw[dw,dw,bi O,i]at d;simp only[xa,iL]at d;exact ani (x:=x) (p:=k[a].2) (by rw[f,<-d])
 have o:c=DI:=by
  apply Array.toList_inj.1;rw[n];rfl
 simp only[World.var?,g,Ih]at b;split at b
 .rename_i z e fr u;cases b;exact⟨e,fr,by rw[<-o];exact u⟩
 .cases b
end Go.Proofs.YtiaechpcebhcdaaGreatDoor
namespace Go.Proofs.YtiaechpcebhcdaaGreatDoor
open Go.RowKit Go.Maps Go.WideMaps
variable{C:Cd}{L:List Mb}{N:Nd}{W W' w:World}{a c m z:Int}{b base g n p:Nat}{ns:List Nd}{s t:Bz}{st:List Int}{vs:Value}
def Sl(u:Br):Prop:=∃a n c,u= Ax a n c
structure ViC (w:B0) (t:Bz) (c a:Int) (ns:List Nd):Prop where
 ip:∀W,A9 w.heap.size w W->B7 A2 5 #[.string t] W λe w'=>∃u,e= .returned (.agg #[.int .i64 c,.int .i64 a,u])/\fj w' u ns/\A9 W.heap.size W w'
 sp:∀W,B7 A2 6 #[.string t] W λe w'=>∃u,e= .returned (.agg #[.int .i64 c,.int .i64 a,u])/\fj w' u ns/\A9 W.heap.size W w'
 wp:∀W u v,fj W u ns->fj W v ns->B7 A2 7 #[.agg #[.int .i64 c,.int .i64 a,u],.agg #[.int .i64 c,.int .i64 a,v]] W λe w'=>e= .returned (.bool B3)/\A9 W.heap.size W w'
 z:c=1->∃(z:Nat) (r:Bz),a=(z:Int)/\z<=t.size/\r.size<=2000000000/\(∀W,B7 A2 8 #[.string (t.extract 0 z)] W λe w'=>e= .returned (.tuple #[.string r,.bool B3])/\A9 W.heap.size W w')/\
  (∀W,A9 w.heap.size w W->B7 A2 5 #[.string (t.extract 0 z++r)] W λe w'=>∃c3 a3 u,e= .returned (.agg #[.int .i64 c3,.int .i64 a3,u])/\c3≠1/\Sl u/\A9 W.heap.size W w')/\
  (z<t.size->∀W (y:Bz),A9 w.heap.size w W->y.size<=8->B7 A2 5 #[.string (t.extract 0 (z+1)++y)] W λe w'=>∃u,e= .returned (.agg #[.int .i64 1,.int .i64 z,u])/\Sl u/\A9 W.heap.size W w')
def Bts(L:List Br):Prop:=∀v∈L,∃b:UInt8,v= X G0 b.toNat
def ank:∀{L:List Br},Bts L->∃e:Bz,Lib.strCells e=L/\e.size=M L:=λ{L} f=>by
 have j:∃a:List UInt8,a.map (λc=>Value.int G0 c.toNat)=L:=by
  induction L with
  |nil=>exact⟨[],rfl⟩
  |cons d L i=>
   obtain⟨a,b⟩:=i λd h=>f d (dC _ h);obtain⟨c,g⟩:=f d bH;exact⟨c::a,by rw[wI,b,g]⟩
 obtain⟨a,b⟩:=j;refine⟨⟨a.toArray⟩,by unfold Lib.strCells;simpa using b,?_⟩;rw[<-b,dr];show a.toArray.size=_;simp
def Bts.set{L:List Br}(h:Bts L)(j:Nat)(d:0<=z)(e:z<=255):Bts (L.set j (X G0 z)):=λc b=>by
 rcases List.mem_or_eq_of_mem_set b with a|rfl
 .exact h c a
 .refine⟨UInt8.ofNat z.toNat,?_⟩
  congr 1
  rw[UInt8.toNat_ofNat_of_lt' (by show z.toNat<256;omega)];omega
def anl(n:Nat):Bts (D4 n (X G0 0)):=λb a=>⟨0,by rw[(List.mem_replicate.1 a).2];rfl⟩
def mkB{m:Nat}(a:m<=8)(w:B0):(Instr.makeSlice 22 (X Y m) (X Y m)).run A2 w= .ok (Ax (A5 ⟨w.heap.size,0,A6⟩) m m) (w.alloc (A3 (madeCells #[X G0 0] m) 5)):=
 run_make_row' (P:=A2) 22 5 (X G0 0) 1 underlying22 Tryz.info5 rfl Y Y m O O w
structure VS (w:B0) (pb:Nat) (p:Obj) (W:B0):Prop where
 bl:A9 w.heap.size w W
 p:W.heap[pb]?=A5 p
def abo{D:Cd}{cv bo:Option Addr}{cap cz:Nat}(cF:Code D w.heap.size w bo)
  (cg:B7 A2 4 #[Ax cv C.len cap] w λe w'=>e= B1 (A0 t)/\A9 w.heap.size w w') (f8:t.size<=65536) (V:ViC w t c a ns):
  B7 A2 3 #[Ax cv C.len cap,Ax bo D.len cz] w λe w'=>e= B1 (G2 B3)/\A9 w.heap.size w w':=by
 have ex:¬(1048576:Int)<(C.len:Int):=by have:=C.ok;omega
 have ez:¬(1048576:Int)<(D.len:Int):=by have:=D.ok;omega
 have cf:=aj λ(k:B0) (m:A9 w.heap.size w k) (g:Int) (ea:0<=g) (eb:g<=100)=>amH (cap:=cz) (show Code D k.heap.size k bo from(cF.below m).imp id λ⟨d6,eL,e,d9,d8⟩=>⟨d6,eL,e,gF d9 m.size,d8⟩) g ea eb;have ad:=aj V;obtain⟨gb,c9⟩:=aw C.len;obtain⟨gd,dc⟩:=aw D.len;rw[c9]at ex cg⊢;rw[dc]at ez cf⊢;have eF:∃i,M ns=i:=⟨_,rfl⟩;clear cF V c9 dc;go_in;go_wp2_with fail;refine dm cg λw1 x=>?_;clear cg;have dl:=ad.out.ip w1 x;go_wp2_with fail;refine dl.mono ?_;clear dl;rintro e cp ⟨gn,rfl,cd,cw⟩;have b4:=cd;obtain⟨s,u,rfl⟩:=cd.form;obtain⟨i,c0⟩:=eF;rw[c0]at b4⊢;have d5:=x.trans (cw.mono x.size);have L:=fD b4 d5;have dq:=λk=>ad.out.sp k;clear cd b4 x cw;go_wp2_with fail;refine(dq _).mono ?_;clear dq;rintro e F ⟨ds,rfl,ce,bs⟩;have b8:=ce;obtain⟨ar,av,rfl⟩:=ce.form;rw[c0]at b8⊢;have bE:=de cp (A3 #[X Y c,X Y a,Ax s i u] 28);have al:=(bs.block _ (by rw[fp];omega)).trans (ay cp (A3 #[X Y c,X Y a,Ax s i u] 28));obtain⟨n,eh⟩:=aw cp.heap.size;rw[eh]at al;have a6:=de F (A3 #[X Y c,X Y a,Ax ar i av] 28);have am:=(a6.block _ (ah al)).trans al;have bp:=bE.trans (bs.mono bE.size);have br:=bp.trans (a6.mono bp.size);have bg:=ay F (A3 #[X Y c,X Y a,Ax ar i av] 28);have ch:=ad.out.wp (F.alloc (A3 #[X Y c,X Y a,Ax ar i av] 28)) (Ax s i u) (Ax ar i av) (L.out.1.below br) (b8.below a6);have ek:n<F.heap.size:=ah al;have f7:w.heap.size<=n:=by have:=L.out.2.size;omega
 have a4:=aj (L.out.2.trans (br.mono L.out.2.size));obtain⟨gm,el⟩:=aw F.heap.size;rw[el]at bg ek;have a9:=row3 am;have dg:=row3 bg;clear bE a6 bp br bs al b8 ce L;generalize fB:F.alloc (A3 #[X Y c,X Y a,Ax ar i av] 28)=gs at am bg ch a9 dg a4⊢;go_wp2_with fail;refine dm ch λgt bv=>?_;clear ch a9 dg;have aL:=aj (a4.out.trans (bv.mono a4.out.size));have bf:=(bv.block _ (ah am)).trans am;have a9:=row3 bf;have f5:=ah bf;have bk:=aj bf;clear bv a4 am bg bf;by_cases cy:c=1
 .subst cy;obtain⟨f,e0,rfl,f9,f6,ak,bd,dn⟩:=ad.out.z rfl;have ak:=λk=>ak k;have z0:(0:Int)<=(f:Int):=O;have g0:(f:Int)<=(t.size:Int):=O;have cs:=fD bd dn;obtain⟨cu,ca⟩:=aw (t.extract 0 f);have gu:cu.size<=65536:=by rw[<-ca,im];omega
  rw[ca]at ak bd;have fl:=aj ca;clear dn ad;go_wp2_with fail;refine dm (ak _) λe9 bw=>?_;have a2:=aj (aL.out.trans (bw.mono aL.out.size));have ck:=(bw.block _ (ah bk.out)).trans bk.out;have ep:=row3 ck;have bn:=aj ck;have ge:¬9223372036854775807<cu.size+e0.size:=O;have v:=bd e9 a2.out;clear ak a9 bw bd bk aL ck;go_wp2_with fail;refine v.mono ?_;clear v;rintro e fa ⟨b0,d4,gp,rfl,c6,⟨e5,e7,e6,rfl⟩,bD⟩;have fF:(b0==1)=B2:=beq_eq_false_iff_ne.2 c6;have fv:∀w:B0,(Instr.field 28 (Ed #[X Y b0,X Y d4,Ax e5 e7 e6]) 0).run A2 w= .ok (X Y b0) w:=λw=>J;have bj:=aj (a2.out.trans (bD.mono a2.out.size));have cl:=(bD.block _ (ah bn.out)).trans bn.out;have eq:=row3 cl;have cr:=aj cl;clear ep bD bn a2 cl c6;by_cases fk:f=t.size
  .have fg:((f:Int)==(t.size:Int))=B3:=by rw[fk];simp
   go_wp2;go_ret;exact⟨rfl,bj.out⟩
  .have fg:((f:Int)==(t.size:Int))=B2:=beq_eq_false_iff_ne.2 O;have d3:=aj (cs.out.2 O);clear cs;go_wp2_with fail;have ct:Ce (VS w n (A3 #[X Y 1,X Y f,Ax s i u] 28) fa):=⟨bj.out,cr.out⟩;clear bj cr eq;go_loopw [10] (λcm wr=>∃g:Nat,cm= X Y g/\g<=5/\Ce (VS w n (A3 #[X Y 1,X Y f,Ax s i u] 28) wr)) (λcm _=>5-(C2 cm).toNat)
   case atStart=>exact⟨0,rfl,Z,ct⟩
   case round=>
    clear ct;obtain⟨g,rfl,f0,S⟩:=hrel;by_cases f1:g<5
    .have ed:(g:Int)<5:=O;have ag:=cf.out wr S.out.bl (g:Int) O O;go_wp2_with fail;refine ag.mono ?_;clear ag;rintro e cq ⟨d0,rfl,fb,fc,em⟩;subst cq;obtain⟨d,c7⟩:∃d:Nat,d0%9=(d:Int):=eJ (Int.emod_nonneg _ Z);have eg:d<=8:=by have:=Int.emod_lt_of_pos d0 ((Z:(0:Int)<9));omega
     have c8:=mkB eg wr;have gz:(0:Int)<9:=Z;obtain⟨r,cb⟩:=aw wr.heap.size;rw[cb]at c8;go_wp2_with fail;have dd:Ce (VS w n (A3 #[X Y 1,X Y f,Ax s i u] 28) (wr.alloc (A3 (madeCells #[X G0 0] d) 5))/\(wr.alloc (A3 (madeCells #[X G0 0] d) 5)).ownsRow w.heap.size 5 1 (Ax (A5 ⟨r,0,A6⟩) d d) d (D4 d (X G0 0))):=by
      have x:=de wr (A3 (madeCells #[X G0 0] d) 5);refine⟨⟨S.out.bl.trans (x.mono S.out.bl.size),(x.block _ (ah S.out.p)).trans S.out.p⟩,?_⟩;have:=qL (base:=w.heap.size) (e:=5) (size:=1) wr (madeCells #[X G0 0] d) d S.out.bl.size py (by simp[size_madeCells]);rw[zq,cb]at this;exact this
     have ei:n≠r:=by have:=ah S.out.p;omega
     have en:w.heap.size<=r:=by have:=S.out.bl.size;omega
     clear c8 fb fc S;rw[c7];clear cb c7;go_loopw [72] (λcn k=>∃(b:Nat) (B:List Br),cn= X Y b/\b<=d/\M B=d/\Bts B/\Ce (VS w n (A3 #[X Y 1,X Y f,Ax s i u] 28) k/\k.ownsRow w.heap.size 5 1 (Ax (A5 ⟨r,0,A6⟩) d d) d B)) (λcn _=>d-(C2 cn).toNat)
     case atStart=>exact⟨0,_,rfl,nH,List.length_replicate,anl d,dd⟩
     case round=>
      clear dd;obtain⟨b,B,rfl,f2,cI,cB,S⟩:=hrel;have A:=fD cI cB;clear cI cB;by_cases ef:b<d
      .have ee:(b:Int)<(d:Int):=O;have f4:(0:Int)<=(b:Int):=O;have fo:IntKind.i64.wrap (5*(g:Int))=5*(g:Int):=by rw[bJ];omega
       have fq:IntKind.i64.wrap (5*(g:Int)+(b:Int))=5*(g:Int)+(b:Int):=by rw[bJ];omega
       have fr:IntKind.i64.wrap (5*(g:Int)+(b:Int)+1)=5*(g:Int)+(b:Int)+1:=by rw[bJ];omega
       have ag:=cf.out wr S.out.1.bl (5*(g:Int)+(b:Int)+1) O O;have fA:=S.out.2.frozenAt b;have ec:=S.out.2.cellAt b O;obtain⟨gr,df⟩:∃ds,B[b]?=A5 ds:=⟨_,bi (by rw[A.out.1];exact ef)⟩;rw[df]at ec;clear df;go_wp2_with fail;refine ag.mono ?_;clear ag;rintro e cq ⟨H,rfl,fd,fe,em⟩;subst cq;have fu:IntKind.u8.wrap H=H:=by rw[Iq];omega
       have K:Ce (VS w n (A3 #[X Y 1,X Y f,Ax s i u] 28) (wr.setCell ⟨r,b,A6⟩ (X G0 H))/\(wr.setCell ⟨r,b,A6⟩ (X G0 H)).ownsRow w.heap.size 5 1 (Ax (A5 ⟨r,0,A6⟩) d d) d (B.set b (X G0 H))):=
        ⟨⟨S.out.1.bl.setCell en _,(az _ _ _ _ ei).trans S.out.1.p⟩,(S.out.2.stored b (X G0 H)).1⟩
       have d2:=A.out.2.set b fd fe;clear S;go_wp2;go_roundw
       case rel=>exact⟨b+1,_,by go_num,O,by rw[List.length_set];exact A.out.1,d2,K⟩
       case measure=>simp[C2];omega
      .obtain rfl:b=d:=O;have ee:¬(b:Int)<(b:Int):=O;obtain⟨af,c4,c5⟩:=ank A.out.2;rw[A.out.1]at c5;have cc:=S.out.2;rw[<-c4]at cc;have dk:∀j,A9 wr.heap.size wr j->(convert 22 9 (Ax (A5 ⟨r,0,A6⟩) b b)).run A2 j= .ok (A0 af) j:=λj m=>Hy (bz cc m);have a7:∀j,A9 wr.heap.size wr j->j.cell? ⟨n,1,A6⟩=A5 (X Y f):=λj m=>(row3 ((m.block _ (ah S.out.1.p)).trans S.out.1.p)).2.1;have v:=λk (m:A9 wr.heap.size wr k)=>d3.out k af (S.out.1.bl.trans (m.mono S.out.1.bl.size)) O;have a8:∀j,A9 wr.heap.size wr j->Ce (VS w n (A3 #[X Y 1,X Y f,Ax s i u] 28) j):=λj m=>⟨S.out.1.bl.trans (m.mono S.out.1.bl.size),(m.block _ (ah S.out.1.p)).trans S.out.1.p⟩;have es:IntKind.i64.wrap ((f:Int)+1)=((f+1:Nat):Int):=by rw[bJ];omega
       have et:((f+1:Nat):Int)<=(t.size:Int):=O;have ev:(0:Int)<=((f+1:Nat):Int):=O;obtain⟨d1,bb⟩:=aw (f+1);rw[bb]at es et ev;obtain⟨a5,c2⟩:=aw (t.extract 0 d1);have gv:a5.size<=65536:=by rw[<-c2,im];omega
       rw[bb,c2]at v;have gf:¬9223372036854775807<a5.size+af.size:=O;have fm:=aj bb;clear c4 cc A bb c5;go_wp2_with fail;refine wp_region_held_drew (S:=λj=>A9 wr.heap.size wr j) J (bu (ai _ _)) (λhS=>?_);simp only[iB,db,fx,Nat.reduceAdd,iA,jb,jc,dI,dt];refine bB 0 (A0 t) rfl rfl hS (λw' z=>by go_simp) ?_;simp only[Fs];refine bB 1 (E0 (A5 ⟨n,1,A6⟩)) rfl rfl hS (λw' z=>by go_simp) ?_;simp only[Fs];refine bB 2 (X Y f) rfl rfl hS (λw' z=>by go_simp) ?_;simp only[Fs];refine bB 3 (X Y d1) rfl rfl hS (λw' z=>by go_simp) ?_;simp only[Fs];refine bB 4 (A0 a5) rfl rfl hS (λw' z=>by go_simp) ?_;simp only[Fs];refine bB 5 (Ax (A5 ⟨r,0,A6⟩) b b) rfl rfl hS (λw' z=>by go_simp) ?_;simp only[Fs];refine bB 6 (A0 af) rfl rfl hS (λw' z=>by go_simp) ?_;simp only[Fs];refine bB 7 (A0 (a5++af)) rfl rfl hS (λw' z=>by go_simp) ?_;simp only[Fs];refine F1 (rs:=[8,9]) J I (D3 rfl (λl h=>?_) (D3 rfl (λl h=>?_) E1))
       .go_simp;refine(v _ (bu (ai _ _))).mono ?_;rintro e G ⟨e8,rfl,⟨an,ap,ao,rfl⟩,E⟩;have o:A9 wr.heap.size wr G:=(bu (ai _ _)).trans E;refine h _ _ o (λhS=>?_);clear h l;try simp only[Act.put,bF,bG,bI]
        refine F1 (rs:=[9]) J I (D3 rfl (λl h=>?_) E1);go_simp;refine h _ _ (o.alloc o.size _) (λhS=>?_);clear h l;try simp only[Act.put,bF,bG,bI]
        refine F1 (rs:=[10]) J I (D3 rfl (λl h=>?_) E1);go_simp;have q:A9 wr.heap.size wr (G.alloc (A3 #[X Y 1,X Y f,Ax an ap ao] 28)):=o.alloc o.size _;refine h _ _ q (λhS=>?_);clear h l;refine wpAnyH_done J ?_ _;have K:=a8 _ q;have d7:=a7 _ q;have ff:=row3 (ay G (A3 #[X Y 1,X Y f,Ax an ap ao] 28));clear o E hS q v dk a7 a8 S;go_wp2;exact⟨⟨g+1,by go_num,O,K⟩,by simp[C2];omega⟩
       .go_simp;have y:=de wr.drew (A3 #[X Y 0,X Y 0,Ax A6 0 0] 28);have y:A9 wr.heap.size wr (wr.drew.alloc (A3 #[X Y 0,X Y 0,Ax A6 0 0] 28)):=(bu (ai _ _)).trans y;refine h _ _ y (λhS=>?_);clear h l;try simp only[Act.put,bF,bG,bI]
        refine F1 (rs:=[8]) J I (D3 rfl (λl h=>?_) E1);go_simp;refine(v _ y).mono ?_;rintro e G ⟨e8,rfl,⟨an,ap,ao,rfl⟩,E⟩;have o:A9 wr.heap.size wr G:=y.trans (E.mono y.size);have bh:=(E.block wr.heap.size (by rw[fp];exact Nat.lt_succ_self _)).trans (ay wr.drew (A3 #[X Y 0,X Y 0,Ax A6 0 0] 28));have zc:=row3 bh;have ew:=ah bh;refine h _ _ o (λhS=>?_);clear h l;try simp only[Act.put,bF,bG,bI]
        refine F1 (rs:=[10]) J I (D3 rfl (λl h=>?_) E1);go_simp;have q:A9 wr.heap.size wr (((G.setCell ⟨wr.heap.size,0,A6⟩ (X Y 1)).setCell ⟨wr.heap.size,1,A6⟩ (X Y f)).setCell ⟨wr.heap.size,2,A6⟩ (Ax an ap ao)):=((o.setCell cJ _).setCell cJ _).setCell cJ _;refine h _ _ q (λhS=>?_);clear h l;refine wpAnyH_done J ?_ _;have K:=a8 _ q;have d7:=a7 _ q;have ff:=row3 (set3 bh (X Y 1) (X Y f) (Ax an ap ao));clear o E hS q v dk a7 a8 S zc bh ew y;go_wp2;exact⟨⟨g+1,by go_num,O,K⟩,by simp[C2];omega⟩
    .have ed:¬(g:Int)<5:=O;go_wp2;go_ret;exact⟨rfl,S.out.bl⟩
 .have fn:(c==1)=B2:=beq_eq_false_iff_ne.2 cy;go_wp2;go_ret;exact⟨rfl,aL.out⟩
def aqL:((B5 34).all λs=>(B5 78).all λt=>match fi 8 [(s:Int)+100] ((t:Int)+1) 0 with|some (lo,some _,_)=>decide (M lo<=8)|_=>B3)=B3:=by decide+kernel
def tE:∀{st:List Int}{k:Int},yu st->1<=k->k<=78->(feedL st k).1.length<=M st+8
 |[],k,_,_,_=>by simp[feedL]
 |s::r,k,h,e,f=>by
  have c:yu r:=λg d=>h g (dC _ d);have l:=h s bH;have m:=tE (st:=r) (k:=k) c e f;rw[feedL,db];split
  .simp only;omega
  split
  .omega
  rename_i j _;have a:=List.all_eq_true.1 (List.all_eq_true.1 aqL (s-100).toNat (by rw[G3];omega)) (k-1).toNat (by rw[G3];omega);rw[(O:(((s-100).toNat:Nat):Int)+100=s),(O:(((k-1).toNat:Nat):Int)+1=k)]at a;split
  .rename_i n i o b;rw[b]at a;have:=be a;rw[aB];omega
  .simp
def akw{st':List Int}{x c:Bz}(h:Kd st x p=A5 (c,st'))(e:yu st):yu st'/\M st'<=M st+8/\c.size<=11:=by
 unfold Kd at h;split at h
 .rename_i b f;obtain⟨rfl,rfl⟩:b=c/\_=st':=by simpa using h
  have d:=List.find?_some f;unfold Dt at d;simp only[cH,ga]at d;have a:=wo _ _ d.1;refine⟨nE e a.1 a.2,tE e a.1 a.2,?_⟩;rcases List.mem_append.1 (List.mem_of_find?_eq_some f) with h|h
  .have:b.size<=3:=by
    simp only[pu,gG,iC,iD]at h;rcases h with rfl|rfl|rfl|rfl|rfl|rfl<;>decide
   omega
  .exact ac8 x p _ (λi g=>by have:=(xB st i 78).1 g;exact⟨this.1,O⟩) b h
 .split at h
  .obtain⟨rfl,rfl⟩:(⟨#[45,10]⟩:Bz)=c/\st=st':=by simpa using h
   exact⟨e,O,Z⟩
  .cases h
def aq0(R:Option (Bz×List Int))(e:Ending):Prop:=match R with
 |some (a,st)=>e= B1 (E2 #[A0 ((if a.size=0 then⟨#[10]⟩ else a)++iF st),G2 B3])
 |none=>e= B1 (E2 #[A0 ⟨#[]⟩,G2 B2])
structure FnS (w:B0) (x:Bz) (R:Option (Bz×List Int)) (p:Nat) (st:List Int) (tp:Int) (C:List (Int×Int)) (o:Bz) (f:Nat) (W:B0):Prop where
 m:sj W w.heap.size w.heap.size C
 sk:kH C tp st
 ok:yu st
 bl:A9 w.heap.size w W
 cl:2<=M C/\M C<=4000+20*p
 sl:M st<=20+8*p
 oz:o.size<=16
 eq:(o=⟨#[]⟩/\pv x f st p=R/\x.size<p+f/\M C<=2+20*p)\/(p=x.size/\R=A5 (o,st))
def anm:∀k:Fin 30,(bq ju k.val).size<=3:=by decide+kernel
def ann:∀k:Fin 22,(bq fG k.val).size<=6:=by decide+kernel
def afg(kind:Int):∀f k,k+f<=30->(Ge kind f k).size<=3
 |0,k,_=>by rw[Ge];decide
 |f+1,k,h=>by
  rw[Ge];split
  .exact anm ⟨k,O⟩
  .exact afg kind f (k+1) O
def akx(c:Int):(qc c).size<=11:=by
 by_cases a:c∈lsC
 .simp only[lsC,gG,iC,iD]at a;rcases a with rfl|rfl|rfl|rfl|rfl|rfl|rfl|rfl|rfl|rfl|rfl|rfl|rfl|rfl|rfl|rfl<;>decide+kernel
 rw[abh a];split
 .unfold eI;split
  .decide
  split
  .exact aK (ann ⟨(c-10).toNat,O⟩) Z
  .exact aK (afg c 30 0 O) Z
 .decide
structure FnT (w:B0) (C:List (Int×Int)) (FIN:Bz) (k:Nat) (st:List Int) (tp:Int) (o:Bz) (W:B0):Prop where
 m:sj W w.heap.size w.heap.size C
 sk:kH C tp st
 bl:A9 w.heap.size w W
 e:o++iF st=FIN
 z:o.size+12*M st<=100000000
 k:M st<k
def FnT.below{C:List (Int×Int)}{a:Bz}{k:Nat}{c:Int}{o:Bz}(h:FnT w C a k st c o W)(b:A9 W.heap.size W W'):FnT w C a k st c o W':=⟨h.m.below b,h.sk,h.bl.trans (b.mono h.bl.size),h.e,h.z,h.k⟩
theorem adi(w:B0)(x:Bz)(e6:x.size<=65536):B7 A2 8 #[A0 x] w λe w'=>aq0 (pv x (x.size+1) [100,6] (blk x (x.size+1) 0)) e/\A9 w.heap.size w w':=by
 have⟨an,a6⟩:=aw (pv x (x.size+1) [100,6] (blk x (x.size+1) 0));rw[a6];have d8:sj (w.alloc (A3 #[Ax A6 0 0] 66)) w.heap.size w.heap.size []:=⟨⟨_,ay w _,dA _ _ _ _⟩,cJ⟩;have d5:=Hd (w.alloc (A3 #[Ax A6 0 0] 66)) w.heap.size w.heap.size d8;have cc:=λw=>jJ x O 0 nH w;have d0:=ft x (x.size+1) 0 nH;have⟨c8,dn⟩:=aw (blk x (x.size+1) 0);rw[dn]at a6 cc d0;rw[show(((0:Nat):Int))=0 from rfl]at cc;have c6:=aj a6;have df:=de w (A3 #[Ax A6 0 0] 66);have en:=aj df;clear a6 dn d8 df;go_in;go_wp2_with fail;refine d5.mono ?_;rintro e w1 ⟨rfl,d7,fe,f⟩;clear d5;have c9:Ce (FnS w x an c8 [100,6] 1 [(6, -1),(100,0)] ⟨#[]⟩ (x.size+1) w1):=
  ⟨d7,⟨1,0,rfl,rfl,0, -1,rfl,rfl,rfl⟩,λx e9=>by simp at e9;omega,en.out.trans f,⟨I,byT⟩,byT,Z,.inl ⟨rfl,c6.out,O,I⟩⟩
 clear d7 fe f;go_wp2_with (go_at_call 23;refine eE (cc _) ?_);clear cc;go_loopw [5,6,7] (λc3 c2 c1 wr=>∃(b:Nat) (g:List Int) (G:Int) (d:List (Int×Int)) (n:Bz) (i:Nat),c3= X Y G/\c2= A0 n/\c1= X Y b/\b<=x.size/\Ce (FnS w x an b g G d n i wr)) (λ_ _ c1 _=>x.size+1-(C2 c1).toNat)
 case atStart=>exact⟨c8,_,1,_,_,x.size+1,rfl,rfl,rfl,d0.2,c9⟩
 case round=>
  clear c9 c6;obtain⟨b,g,G,d,n,i,rfl,rfl,rfl,gb,a⟩:=hrel;by_cases ca:b<x.size
  .have e7:(b:Int)<(x.size:Int):=O;have el:n=⟨#[]⟩/\pv x i g b=an/\x.size<b+i/\M d<=2+20*b:=by
    rcases a.out.eq with h|h
    .exact h
    .omega
   obtain⟨rfl,c,e0,f7⟩:=el;obtain⟨i,rfl⟩:∃k,i=k+1:=⟨i-1,O⟩;rw[pv,aa O]at c;have av:=λw=>yG x O b ca w;have bk:=Bj x b;have⟨s,cp⟩:=aw (gD x b);rw[cp]at av bk c;have bD:=aj cp;have bA:=aj c;clear cp c;go_wp2_with fail;refine(av _).mono ?_;clear av;rintro e w1 ⟨cd,ag,bw,et,rfl,d3,bo⟩;have a2:=aj d3;clear d3;have⟨f,eF⟩:=aw w1.heap.size;have ao:dL f (w1.alloc (A3 #[X Y s,X Y b,X Y cd,X Y 0,X Y ag,A0 bw] 48)) s b cd 0 ag bw:=by rw[<-eF];exact ay w1 _
   have ck:=bo.trans ((de w1 (A3 #[X Y s,X Y b,X Y cd,X Y 0,X Y ag,A0 bw] 48)).mono bo.size);have A:=fD (a.out.m.below ck) (a.out.bl.trans (ck.mono a.out.bl.size));have b9:f≠w.heap.size:=by
    have⟨gz,e8,_⟩:=a.out.m.ex;have:=ah e8;have:=bo.size;omega
   have⟨cw,cx,cy,cz,cA,cB,cF⟩:=aE ao;have fA:=a.out.cl;have fq:=a.out.sl;have gd:w.heap.size<=f:=by have:=bo.size;have:=a.out.bl.size;omega
   clear bo ck;have next:∀{H:B0}{a0:List (Int×Int)}{o:List Int}{al:Int}{a4:Nat},sj H w.heap.size w.heap.size a0->kH a0 al o->yu o->A9 w.heap.size w H->M d<=M a0->M a0<=M d+20->M o<=M g+8->b<a4->a4<=x.size->pv x i o (blk x (x.size+1) a4)=an->Ce (FnS w x an (blk x (x.size+1) a4) o al a0 ⟨#[]⟩ i H):=λ{H a0 o al a4} ff fk fl fm gn gp gr gs fn fg=>by
    have:=ft x (x.size+1) a4 fn;exact⟨ff,fk,fl,fm,O,O,Z,.inl ⟨rfl,fg,O,O⟩⟩
   by_cases b7:s=7
   .subst b7;have⟨ad,e5⟩:=Cz x b bD.out;obtain⟨cq, -,bt, -, -, -⟩:=a2.out.yes ad;have C:=eD x b ca ad;have c:=bA.out;rw[ab rfl]at c;have⟨am,bj⟩:=aw ((rdI x b).a);rw[bj]at c bt C;subst cq bt;have E:=λw=>jJ x O am O w;have p:=qA _ _ _ d g G 5 A.out.1 a.out.sk a.out.ok Z Z O;have ar:=nE a.out.ok ((O:(1:Int)<=5)) O;have br:=tE a.out.ok ((O:(1:Int)<=5)) O;have⟨bg,a7⟩:=aw (feedL g 5);rw[a7]at p c ar br;unfold oK at p;have⟨a8,bs⟩:=aw bg.2;rw[bs]at p c;have r:=fD c ar;have⟨b5,ap⟩:=aw (blk x (x.size+1) am);have a5:=ft x (x.size+1) am O;have next:=@next
    rw[ap]at E a5;have bE:=aj ap;clear c a7 bs ad e5 bj bA a2 bD ap ar;go_wp2_with fail;refine p.mono ?_;clear p;rintro e c4 ⟨ce,D,rfl,y,ak,dl,af,K⟩;have B:=af.blk ao Z b9;have⟨eb,ec,ed,eg,eh,ei,ek⟩:=aE B;have ba:=A.out.2.trans K;clear cw cx cy cz cA cB cF ao B af K;cases a8 with
    |false=>
     have j:=next y (a.out.sk.app D) a.out.ok ba (by rw[aB];omega) (by rw[aB];omega) O C.1 C.2.1 (by have:=r.out.1;rwa [aa I]at this)
     rw[bE.out]at j;clear next y ak A a r
     go_wp2_with (go_at_call 23;refine eE (E _) ?_);exact⟨⟨b5,g,G,d++D,⟨#[]⟩,i,rfl,rfl,rfl,a5.2,j⟩,by simp[C2];omega⟩
    |true=>
     have j:=next y ak r.out.2 ba (by rw[aB];omega) (by rw[aB];omega) br C.1 C.2.1 (by have:=r.out.1;rwa [ab rfl]at this)
     rw[bE.out]at j;clear next y ak A a r
     go_wp2_with (go_at_call 23;refine eE (E _) ?_);exact⟨⟨b5,bg.1,ce,d++D,⟨#[]⟩,i,rfl,rfl,rfl,a5.2,j⟩,by simp[C2];omega⟩
   .have f0:(s==7)=B2:=beq_eq_false_iff_ne.2 b7;have c:=bA.out;rw[aa b7]at c;have p:=qA _ _ _ d g G s A.out.1 a.out.sk a.out.ok bk.1 bk.2 O;have⟨bg,a7⟩:=aw (feedL g s);unfold oK at p;have⟨a8,bs⟩:=aw bg.2;rw[a7]at p c;rw[bs]at p c;have cf:=aj a7;clear a7 bs bA b7;by_cases bv:(rdI x b).ok=B3/\a8=B3
    .rw[ab bv]at c;obtain⟨ad,rfl⟩:=bv;obtain⟨cq,bp,bt, -, -, -⟩:=a2.out.yes ad;have fc:=wo x b ad;have f4:(s==0)=B2:=beq_eq_false_iff_ne.2 O;have C:=eD x b ca ad;have⟨am,bj⟩:=aw ((rdI x b).a);rw[bj]at c bt C;subst cq bt;have E:=λw=>jJ x O am O w;have ar:=nE a.out.ok ((O:(1:Int)<=s)) bk.2;have br:=tE a.out.ok ((O:(1:Int)<=s)) bk.2;rw[cf.out]at ar br;have r:=fD c ar;have⟨b5,ap⟩:=aw (blk x (x.size+1) am);have a5:=ft x (x.size+1) am O;rw[ap]at E a5;have bE:=aj ap;clear c ad bp fc bj a2 bD ap ar cf;go_wp2_with fail;refine p.mono ?_;clear p;rintro e c4 ⟨ce,D,rfl,y,ak,dl,af,K⟩;have B:=af.blk ao Z b9;have⟨eb,ec,ed,eg,eh,ei,ek⟩:=aE B;have j:=next y ak r.out.2 (A.out.2.trans K) (by rw[aB];omega) (by rw[aB];omega) br C.1 C.2.1 r.out.1
     rw[bE.out]at j;clear cw cx cy cz cA cB cF ao B af K next y ak A a r
     go_wp2_with (go_at_call 23;refine eE (E _) ?_);exact⟨⟨b5,bg.1,ce,d++D,⟨#[]⟩,i,rfl,rfl,rfl,a5.2,j⟩,by simp[C2];omega⟩
    .rw[aa bv]at c;have fr:a8=B2\/(a8=B3/\(0:Int)<=et):=by
      cases a8 with
      |false=>exact .inl rfl
      |true=>
       refine .inr ⟨rfl,?_⟩;have:(rdI x b).ok=B2:=by cases h:(rdI x b).ok with
        |false=>rfl
        |true=>exact absurd ⟨h,rfl⟩ bv
       have:=a2.out.no this;omega
     have r:=aj c;have E:=λw=>jJ x O x.size cJ w;rw[oA _ _ cJ]at E;clear c bv a2 bD next cf
     rcases fr with rfl|⟨rfl,f5⟩;all_goals
      go_wp2_with fail;refine p.mono ?_;clear p;rintro e c4 ⟨ce,D,rfl,y,ak,dl,af,K⟩;have B:=af.blk ao Z b9;have⟨eb,ec,ed,eg,eh,ei,ek⟩:=aE B;have av:=akc c4 _ _ (d++D) g G x b y (a.out.sk.app D) a.out.ok (by rw[aB];omega) (by rw[aB];omega) ca e6;rw[r.out]at av;have ba:=A.out.2.trans K;have cg:=fD B ba;clear cw cx cy cz cA cB cF ao af K y ak A B ba;go_wp2_with fail
     all_goals
      refine av.mono ?_;clear av;rintro e a9 ⟨c5,ea,u,L,f3,cu,ct,ch⟩;have a3:dL f a9 s b cd 0 ag bw:=ct.blk cg.out.1 Z b9;have bx:=cg.out.2.trans ch;cases an with
      |none=>
       have L:e=_:=L;subst L;have em:=aj bx;clear bx a3 cu ct ch;go_wp2;go_ret2;exact⟨rfl,em.out⟩
      |some cI=>
       obtain⟨fz,o⟩:=cI;obtain⟨rfl,d9,rfl⟩:=L;obtain⟨fo,gt,gu⟩:=akw r.out a.out.ok;have dd:dL f (a9.setCell ⟨f,2,A6⟩ (X Y x.size)) s b x.size 0 ag bw:=by
        have:=aI a9 f 2 _ _ (X Y x.size) a3;unfold dL;simpa using this
       have j:Ce (FnS w x (A5 (u,o)) x.size o ea (d++D++c5) u 0 (a9.setCell ⟨f,2,A6⟩ (X Y x.size))):=
        ⟨cu.other (show a9.heap[f]?=A5 (A3 _ _ _) from a3) Z Z 2 _,d9,fo,bx.setCell byT _,⟨by simp only[aB];omega,by simp only[aB];omega⟩,O,O,.inr ⟨rfl,rfl⟩⟩
       have⟨g1,g2,g3,g4,g5,g6,g7⟩:=aE a3;have⟨z0,g8,g9,ha,hd,hg,hh⟩:=aE dd;have f6:f<a9.heap.size:=ah a3;clear bx a3 dd cu ct ch d9 cg a;go_wp2_with (go_at_call 23;refine eE (E _) ?_);exact⟨⟨x.size,o,ea,d++D++c5,u,0,rfl,rfl,rfl,cJ,j⟩,by simp[C2];omega⟩
  .have e7:¬(b:Int)<(x.size:Int):=O;have a6:an=A5 (n,g):=by
    rcases a.out.eq with⟨rfl,h,e0,_⟩|h
    .obtain⟨i,rfl⟩:∃k,i=k+1:=⟨i-1,O⟩;rw[pv,ab O]at h;exact h.symm
    .exact h.2
   subst a6;have ez:(n.toList==[])=decide (n=⟨#[]⟩):=by rw[<-ac9,show(⟨#[]⟩:Bz).toList=[] by rw[fL]]
   obtain⟨bc,bn⟩:=aw (if n.size=0 then(⟨#[10]⟩:Bz) else n);have gm:bc.size<=16:=by
    rw[<-bn];split
    .decide
    .exact a.out.oz
   have fq:=a.out.sl;have⟨a1,cn⟩:=aw (bc++iF g);have ep:Ce (∀e,e= B1 (E2 #[A0 a1,G2 B3])->aq0 (A5 (n,g)) e):=λe eL=>by
    unfold aq0;rw[eL,<-cn,<-bn]
   have dc:Ce (FnT w d a1 (M g+1) g G bc wr):=⟨a.out.m,a.out.sk,a.out.bl,cn,O,O⟩;have fu:(decide (n=⟨#[]⟩)=B3/\bc=⟨#[10]⟩)\/(decide (n=⟨#[]⟩)=B2/\bc=n):=by
    by_cases u:n=⟨#[]⟩
    .exact .inl ⟨dB u,by rw[<-bn,u];rfl⟩
    .refine .inr ⟨aG u,?_⟩;rw[<-bn,aa];exact λfv=>u (mq (Array.eq_empty_of_size_eq_zero fv))
   clear bn cn a;rcases fu with⟨u,rfl⟩|⟨u,rfl⟩;all_goals
    rw[u]at ez;clear u;go_wp2;go_loopg [5,6] (M g+1) (λfb c3 c2 wr=>∃(o:List Int) (al:Int) (F:Bz),c3= X Y al/\c2= A0 F/\Ce (FnT w d a1 fb o al F wr))
    case atStart=>exact⟨g,G,_,rfl,rfl,dc⟩
    case round=>
     clear dc;obtain⟨o,al,F,rfl,rfl,t⟩:=hrel;cases o with
     |nil=>
      have e:=t.out.sk;obtain rfl:al= -1:=e;have ew:F=a1:=by have:=t.out.e;rwa [iF,Dm]at this
      subst ew;go_wp2;go_ret2;exact⟨ep.out _ rfl,t.out.bl⟩
     |cons q z=>
      have⟨l,v,e3,L,d4⟩:=t.out.sk;subst e3;have⟨cI,cr,cb⟩:=t.out.m.ex;have e4:=(List.getElem?_eq_some_iff.1 L).1;obtain⟨k,cm,rfl⟩:∃k cm,cI= Ax (A5 ⟨k,0,A6⟩) (M d) cm:=by
       rcases bm cb with⟨hz,_⟩|hz
       .omega
       .exact hz
      have cs:=acf _ l _ L;have dg:wr.cell? ⟨k,l*2,A6⟩=A5 (X Y q):=by rw[cb.cellAt (l*2) O];exact cs.1
      have dk:wr.cell? ⟨k,l*2+1,A6⟩=A5 (X Y v):=by rw[cb.cellAt (l*2+1) O];exact cs.2
      have⟨ag,d2⟩:=aw (M d);rw[d2]at cr e4;have ev:wr.cell? ⟨w.heap.size,0,A6⟩=A5 (Ax (A5 ⟨k,0,A6⟩) ag cm):=by rw[au _ _ _ _ _ _ cr];rfl
      obtain⟨bh,b8⟩:∃bh:Addr,(⟨k,0,A6⟩:Addr)=bh:=⟨_,rfl⟩;have fB:wr.cell? (bh.add (l*2))=A5 (X Y q):=by rw[<-b8,show((⟨k,0,A6⟩:Addr).add (l*2))=⟨k,l*2,A6⟩ by unfold Addr.add;split<;>simp_all];exact dg
      have fF:wr.cell? ⟨(bh.add (l*2)).block,(bh.add (l*2)).off+1,A6⟩=A5 (X Y v):=by rw[<-b8,show((⟨k,0,A6⟩:Addr).add (l*2))=⟨k,l*2,A6⟩ by unfold Addr.add;split<;>simp_all];exact dk
      rw[b8]at ev;have f9:(l:Int)<(ag:Int):=O;have f8:(0:Int)<=(l:Int):=O;have fa:=t.out.z;have bp:=t.out.k;rw[db]at fa bp;have c7:=aj d4;have d6:=λw=>abi w q;have fd:=akx q;have d1:iF (q::z)=(if q=6 then⟨#[]⟩ else⟨#[32]⟩++qc q)++iF z:=rfl;have bf:=aj (d1 ▸ t.out.e);have⟨b6,dq⟩:=aw (qc q);rw[dq]at d6 fd bf;have f:=de wr (A3 #[X Y q,X Y v] 76);have bd:=fD (t.out.m.below f) (t.out.bl.trans (f.mono t.out.bl.size));clear cs dg dk b8 d4 L cb d2 cr d1 dq t f;by_cases cv:q=6
      .subst cv;have aL:=bf.out;rw[ab rfl,aee]at aL;have j:Ce (FnT w d a1 (M z+1) z v F (wr.alloc (A3 #[X Y 6,X Y v] 76))):=⟨bd.out.1,c7.out,bd.out.2,aL,O,O⟩;clear aL bf;go_wp2;go_roundg (M z+1)
       case measure=>exact bp
       case rel=>exact⟨z,v,F,rfl,rfl,j⟩
      .have gv:(q==6)=B2:=beq_eq_false_iff_ne.2 cv;have aL:=bf.out;rw[aa cv]at aL;have ge:¬9223372036854775807<1+b6.size:=O;have gf:¬9223372036854775807<F.size+(1+b6.size):=O;have j:∀{H:B0},A9 (wr.alloc (A3 #[X Y q,X Y v] 76)).heap.size (wr.alloc (A3 #[X Y q,X Y v] 76)) H->Ce (FnT w d a1 (M z+1) z v (F++(⟨#[32]⟩++b6)) H):=λ{H} ds=>⟨bd.out.1.below ds,c7.out,bd.out.2.trans (ds.mono bd.out.2.size),by rw[<-aL];simp only[dJ],by simp only[ax];show F.size+(1+b6.size)+_<=_;omega,O⟩;clear aL bf;go_wp2_with (go_at_call 27;refine dm (d6 _) λg0 es=>?_);go_roundg (M z+1)
       case measure=>exact bp
       case rel=>exact⟨z,v,_,rfl,rfl,j es⟩
def aky:∀st:List Int,(iF st).size<=12*M st
 |[]=>by rw[iF];decide
 |c::r=>by
  have a:=aky r;have:=akx c;rw[iF,ax,db];split
  .show 0+_<=_;omega
  .rw[ax];show 1+_+_<=_;omega
theorem abp{x:Bz}{o:Bz}{st':List Int}:∀(f:Nat)(st:List Int)(p:Nat),yu st->p<=x.size->pv x f st p=A5 (o,st')->o.size<=11/\M st'<=M st+8*(x.size-p)+8
 |0,st,p,_,_,h=>by rw[pv]at h;cases h
 |f+1,st,p,b,r,h=>by
  rw[pv]at h;split at h
  .obtain⟨rfl,rfl⟩:(⟨#[]⟩:Bz)=o/\st=st':=U;exact⟨Z,O⟩
  rename_i q;have g:∀{c:List Int},yu c->M c<=M st+8->(rdI x p).ok=B3->pv x f c (blk x (x.size+1) (rdI x p).a)=A5 (o,st')->o.size<=11/\M st'<=M st+8*(x.size-p)+8:=λ{c} m u d j=>by
   have n:=eD x p O d;have i:=ft x (x.size+1) _ n.2.1;have:=abp f c _ m i.2 j;omega
  split at h
  .rename_i l;have d:=(Cz x p l).1;split at h
   .exact g (nE b Z Z) (tE b Z Z) d h
   grind
  split at h
  .rename_i e;have s:=wo x p e.1;have t:gD x p=(rdI x p).k:=by unfold gD;grind
   exact g (nE b O O) (tE b O O) e.1 h
  .have:=akw h b;omega
theorem ano{x r:Bz}(c:x.size<=65536)(h:Ke x=A5 r):r.size<=100000000/\∃o st,pv x (x.size+1) [100,6] (blk x (x.size+1) 0)=A5 (o,st)/\r=(if o.size=0 then⟨#[10]⟩ else o)++iF st:=by
 unfold Ke at h;split at h
 .rename_i o st a;obtain rfl:=cC h;have b:=ft x (x.size+1) 0 nH;obtain⟨e,f⟩:=abp (x.size+1) [100,6] _ (λg d=>U) b.2 a;have:=aky st;refine⟨?_,o,st,a,rfl⟩;rw[ax];have:(if o.size=0 then(⟨#[10]⟩:Bz) else o).size<=11:=by
   split
   .decide
   omega
  grind
 grind
theorem aq1(r:0<=z)(a:tokF s=([],z)):∃n:Nat,z=(n:Int)/\n<=s.size:=by
 obtain⟨j,i,m,k,c,d⟩:=E6 s _ [100,6] 0 B2 cJ nH;have o:=c.bd;have e:=Aj c d;unfold tokF at a;rw[e]at a;simp only at a;split at a
 .have f:k=z:=congrArg Prod.snd a;subst f;cases d with
  |end_ q=>omega
  |wrong b g h=>
   refine⟨_,rfl,?_⟩;unfold wrongF;obtain⟨_,l,_,_⟩:=Fq (s:=s) (p:=blk s (s.size+1) i) (K:=jH j) (s.size+1) 0 O;grind
  |bad b g h=>exact⟨_,rfl,(JF s _ b).2⟩
 grind
open Go.Lib (strCells strCells_length wpList_append_own_string)
def Rcw(C:Cd)(f:FuncId)(a:List Br)(c:Cr)(v:Br)(b:Cr):Prop:=
 ∀ ⦃E:Bs⦄ ⦃w:B0⦄,Cu C E w c->B7 A2 f (cV E::a).toArray w λd w'=>d= B1 v/\Cu C E w' b/\A9 E.base w w'
def GA(a b:Bz):strCells (a++b)=strCells a++strCells b:=by
 unfold strCells;rw[wD,adt,fy]
def agH{cap:Nat}{T:Bz}(a:w.ownsRow base 5 1 (Ax (A5 ⟨g,0,A6⟩) n cap) n (strCells T)):
  (convert 22 9 (Ax (A5 ⟨g,0,A6⟩) n cap)).run A2 w= .ok (A0 T) w:=by
 have b:strCells T=B8 (Ab T.data.toList):=by
  unfold strCells B8 Ab;rw[List.map_map];rfl
 rw[b]at a;rw[oF a,AL]
def rG(k:Int)(w:B0):B7 A2 108 #[X Y k] w λe w'=>e= B1 (G2 (opn k))/\w'=w:=by
 by_cases a:k=46\/k=47\/k=40\/k=44\/k=10\/k=25
 .rcases a with rfl|rfl|rfl|rfl|rfl|rfl;all_goals
   go_in;go_wp2;go_ret;exact rr
 .have e:((k==46)=B2/\(k==47)=B2/\(k==40)=B2)/\(k==44)=B2/\(k==10)=B2/\(k==25)=B2:=by simp only[qK];omega
  have c:opn k=decide (60<k):=by unfold opn;exact decide_eq_decide.2 O
  rw[c];clear a c;by_cases b:60<k
  .rw[dB b];go_in;go_wp2;go_ret;exact rr
  .rw[aG b];go_in;go_wp2;go_ret;exact rr
def blV:List Bz:=[⟨#[32]⟩,⟨#[32]⟩,⟨#[32]⟩,⟨#[32,32]⟩,⟨#[9]⟩,⟨#[13]⟩,⟨#[32,9,32]⟩]
def as3:∀t∈blV,t.size<=5/\t∈Jt:=λt a=>by
 simp only[blV,gG,iC,iD]at a;rcases a with rfl|rfl|rfl|rfl|rfl|rfl|rfl<;>exact⟨Z,by simp[Jt]⟩
def F3{j:Nat}{l:List Bz}(h:w.cell? ⟨b,j,A6⟩=(l.map H2).toArray[j]?)(ht:l[j]?=A5 t):w.cell? ⟨b,j,A6⟩=A5 (A0 t):=by
 rw[h];simp[ht]
def afh(C:Cd)(c:Cr)(s:0<=c.p)(u:c.p<=800000000):∃(t:Bz) (c':Cr),(t.size<=5/\t∈Jt)/\(c'.p=c.p+1/\c'.r=c.r)/\Rc C 109 [] c (A0 t) c':=by
 have⟨a,k,d,m,j⟩:=gi C c 7;obtain⟨a,rfl⟩:=eJ d.1;obtain⟨t,e⟩:∃t,blV[a]?=A5 t:=⟨_,bi (O:a<7)⟩;refine⟨t,k,(as3 t (da e)),m,λn v b=>?_⟩;have g:=b.cw;have q:=d.2;have o:=d.1;go_in;go_wp2_with fail;refine g.al.run j λw1 h i=>?_;have r:=F3 (l:=blV) (rJ b i a) e;have f:=aj h;clear g h i b e;go_wp2;go_ret;exact⟨rfl,f.out.cu,f.out.gr⟩
inductive Loc (C:Cd) (s:Bz):List Tk->Cr->Bz->Cr->Prop
 |nil (c:Cr):Loc C s [] c ⟨#[]⟩ c
 |stop {T:Tk}{ts:List Tk}{c:Cr}:T.k=6->Loc C s (T::ts) c ⟨#[]⟩ c
 |sep {T:Tk}{ts:List Tk}{c c1 c2:Cr}{j:Nat}{b y:Bz}:T.k=5->j<6->sepL[j]?=some b->Rc C 29 [.int .i64 6] c (.int .i64 j) c1->Loc C s ts c1 y c2->Loc C s (T::ts) c (b++y) c2
 |blank {T:Tk}{ts:List Tk}{c c1 c2:Cr}{b y:Bz}:T.k≠6->T.k≠5->opn T.k=false->b∈Jt->Rc C 109 [] c (.string b) c1->Loc C s ts c1 y c2->Loc C s (T::ts) c (s.extract T.f.toNat T.t.toNat++b++y) c2
 |opn0 {T:Tk}{ts:List Tk}{c c1 c2 c3:Cr}{j:Nat}{b y:Bz}:T.k≠6->T.k≠5->opn T.k=true->Rc C 29 [.int .i64 4] c (.int .i64 0) c1->j<3->aao[j]?=some b->Rc C 29 [.int .i64 3] c1 (.int .i64 j) c2->Loc C s ts c2 y c3->Loc C s (T::ts) c (s.extract T.f.toNat T.t.toNat++b++y) c3
 |opn1 {T:Tk}{ts:List Tk}{c c1 c2 c3:Cr}{u:Int}{b y:Bz}:T.k≠6->T.k≠5->opn T.k=true->Rc C 29 [.int .i64 4] c (.int .i64 u) c1->(u==0)=false->b∈Jt->Rc C 109 [] c1 (.string b) c2->Loc C s ts c2 y c3->Loc C s (T::ts) c (s.extract T.f.toNat T.t.toNat++b++y) c3
def aq2(C:Cd)(s:Bz):∀(ts:List Tk)(c:Cr)(lo:Int),0<=c.p->c.p<=700000000-3*M ts->(∀T∈ts,lo<=T.f/\T.f<=T.t/\T.t<=s.size)->ts.Pairwise (λa b=>a.t<=b.f)->0<=lo->lo<=s.size->∃(y:Bz) (c':Cr),(c.p<=c'.p/\c'.p<=c.p+3*M ts/\c'.r=c.r)/\(y.size:Int)<=s.size-lo+10*M ts/\LoR s ts y/\Loc C s ts c y c':=by
 intro ts
 induction ts with
 |nil=>
  intro c lo F z _ _ af A;simp only[fx]at z⊢;exact⟨⟨#[]⟩,c,O,by show(0:Int)<=_;omega,⟨0,.nil,.inl cJ⟩,.nil c⟩
 |cons T ts an=>
  intro c lo F z A ag af av;simp only[db]at z⊢;by_cases j:T.k=6
  .exact⟨⟨#[]⟩,c,O,by show(0:Int)<=_;omega,⟨0,.nil,.inr ⟨T,rfl,j⟩⟩,.stop j⟩
  have aL:=A T bH;have⟨L,ad⟩:=List.pairwise_cons.1 ag;have rc:∀g:Cr,0<=g.p->g.p<=700000000-3*M ts->_:=λg ao ap=>an g T.t ao ap (λE G=>⟨L E G,(A E (dC _ G)).2⟩) ad O O;have a1:((s.extract T.f.toNat T.t.toNat).size:Int)<=T.t-T.f:=by rw[im];omega
  by_cases o:T.k=5
  .obtain⟨l,g,B,u,m⟩:=gi C c 6;obtain⟨l,rfl⟩:=eJ B.1;obtain⟨b,d⟩:∃b,sepL[l]?=A5 b:=⟨_,bi (O:l<6)⟩;have q:=da d;have am:b.size<=5:=(Z:∀t∈sepL,t.size<=5) b q;have⟨y,e,w,n,i,h⟩:=rc g O O;exact⟨b++y,e,O,by rw[ax];omega,i.cons ⟨j,.inl ⟨o,q⟩⟩,.sep o O d m h⟩
  have x:∀{b y:Bz}{e:Cr},(b∈Jt\/(opn T.k=B3/\b∈aao))->b.size<=5->(c.p<=e.p/\e.p<=c.p+3*((M ts+1:Nat):Int)/\e.r=c.r)->(y.size:Int)<=s.size-T.t+10*M ts->LoR s ts y->Loc C s (T::ts) c (s.extract T.f.toNat T.t.toNat++b++y) e->_:=λ{b y e} d am u a2 al h=>(⟨_,e,u,by rw[ax,ax];omega,al.cons ⟨j,.inr ⟨o,b,d,rfl⟩⟩,h⟩:∃(y:Bz) (c':Cr),(c.p<=c'.p/\c'.p<=c.p+3*((M ts+1:Nat):Int)/\c'.r=c.r)/\(y.size:Int)<=s.size-lo+10*((M ts+1:Nat):Int)/\LoR s (T::ts) y/\Loc C s (T::ts) c y c');cases ho:opn T.k with
  |false=>
   have⟨b,g,d,u,m⟩:=afh C c F O;have⟨y,e,w,n,i,h⟩:=rc g O O;exact x (.inl d.2) d.1 O n i (.blank j o ho d.2 m h)
  |true=>
   have⟨ar,g,a0,u,m⟩:=gi C c 4;by_cases H:ar=0
   .subst H;have⟨l,e,B,ak,v⟩:=gi C g 3;obtain⟨l,rfl⟩:=eJ B.1;obtain⟨b,d⟩:∃b,aao[l]?=A5 b:=⟨_,bi (O:l<3)⟩;have q:=da d;have⟨y,K,w,n,i,h⟩:=rc e O O;exact x (.inr ⟨ho,q⟩) ((Z:∀t∈aao,t.size<=5) b q) O n i (.opn0 j o ho m O d v h)
   .obtain⟨b,e,d,ak,v⟩:=afh C g O O;have⟨y,K,w,n,i,h⟩:=rc e O O;exact x (.inl d.2) d.1 O n i (.opn1 j o ho m (by simpa using H) d.2 v h)
def anp{f c n k g d o n2:Nat}{a e:Br}{p q:List Br}(l:w.ownsRow f c n a k p)(m:w.ownsRow g d o e n2 q)(j:c≠d):a.ownBlock=A6\/a.ownBlock≠e.ownBlock:=by
 rcases m.2 with⟨b,_⟩|⟨u,s,t,b,_,i,_⟩
 .rw[b];cases h:a.ownBlock with
  |none=>exact .inl rfl
  |some r=>exact .inr (by simp[H0])
 .right;rw[b];exact gy l i (dy j)
structure Lo (C:Cd) (E:Bs) (W w:B0) (c:Cr) (v:Br) (t:Bz) (tv:Br) (ts:List Tk):Prop where
 cu:Cu C E w c
 out:w.ownsRow E.base 5 1 v t.size (strCells t)
 tok:w.ownsRow E.base 48 6 tv (M ts) (AJ ts)
 bel:A9 E.base W w
section
variable {C : Cd} {E : Bs} {W w w' : World} {c c' : Cr} {v tv u : Value} {t : Bz} {ts : List Tk} {f : FuncId} {ar : List Value} {Q : Ending → World → Prop}
def Lo.below(h:Lo C E W w c v t tv ts)(a:A9 w.heap.size w w'):Lo C E W w' c v t tv ts:=
 ⟨h.cu.below a,bz h.out a,bz h.tok a,h.bel.trans (a.mono h.cu.lo.2)⟩
def Lo.al{o:Obj}(h:Lo C E W w c v t tv ts):Lo C E W (w.alloc o) c v t tv ts:=h.below (de w o)
def Lo.run(a:Lo C E W w c v t tv ts)(k:Rc C f ar c u c')(h:∀w',Lo C E W w' c' v t tv ts->w.grownBy w' (A5 E.cb)->Q (B1 u) w'):B7 A2 f (cV E::ar).toArray w Q:=by
 refine(k a.cu).mono ?_;rintro e w' ⟨rfl,d,b⟩;exact h w' ⟨d,a.out.kept b (.inr (gy a.out a.cu.cur Z)),a.tok.kept b (.inr (gy a.tok a.cu.cur Z)),a.bel.trans (vz b a.cu.lo.1 a.cu.lo.2)⟩ b
def Lo.app{m:Array Oper}{n:List Oper}{o:Oper}{a:Act}{Q:Exit->Act->B0->Prop}(h:Lo C E W w c v t tv ts)(s:Bz)(y:(t++s).size<=4000000)(q:o.guard=A6)(l x:Operand)
  (r:o.op= .call {callee:= .builtin .append,args:=#[l,x],argTypes:=#[22,9]}) (A:a.eval l=v) (B:a.eval x= A0 s)
  (k:∀g w1,Lo C E W w1 c g (t++s) tv ts->(∀(b:Nat)(cs:Array Br)(f:F0)(fr:Nat×Nat),w.heap[b]?=A5 (A3 cs f fr)->f≠5->w1.heap[b]?=A5 (A3 cs f fr))->wpList A2 m Q n (a.put o.dst g) w1):wpList A2 m Q (o::n) a w:=by
 have⟨F,G,H,K,L⟩:=eC Tryz.info5;rw[ax]at y;refine wpList_append_own_string _ q l x 22 9 r E.base 5 F underlying22 underlying9 G H K L _ _ _ A h.out s B py O h.cu.lo.2 ?_;intro g p u e _;have j:A9 E.base w p:=(ai _ w).grown e h.cu.lo.2 (λk d=>(h.out.lt k d).1);exact k g p ⟨⟨⟨h.cu.lo.1,aK h.cu.lo.2 j.size⟩,h.cu.code.below j,(e.block _ h.cu.lt (λi=>gy h.out h.cu.cur Z i.symm)).trans h.cu.cur⟩,by rw[ax,GA];exact u,h.tok.kept e (anp h.tok h.out Z),h.bel.trans j⟩ (λb cs f fr d z=>(e.block _ (ah d) (λi=>gy h.out d z i.symm)).trans d)
theorem Lo.conv(h:Lo C E W w c v t tv ts):(convert 22 9 v).run A2 w= .ok (A0 t) w:=by
 rcases bm h.out with⟨b,rfl⟩|⟨e,d,rfl⟩
 .have a:t=B6:=by
   have:t.data=#[]:=Array.eq_empty_of_size_eq_zero b;cases t;simp_all;first|rfl|done
  rw[a];exact zE w
 .exact agH h.out
def Lo.cells{a:Option Addr}{j:Nat}(h:Lo C E W w c v t (Ax a n j) ts)(hn:M ts=n){i:Nat}{T:Tk}(e:ts[i]?=A5 T):∃g,a=A5 ⟨g,0,A6⟩/\w.cell? ⟨g,i*6,A6⟩=A5 (X Y T.k)/\w.cell? ⟨g,i*6+1,A6⟩=A5 (X Y T.f)/\w.cell? ⟨g,i*6+2,A6⟩=A5 (X Y T.t)/\w.cell? ⟨g,i*6+3,A6⟩=A5 (X Y T.l)/\w.cell? ⟨g,i*6+4,A6⟩=A5 (X Y T.n)/\w.cell? ⟨g,i*6+5,A6⟩=A5 (A0 T.x):=by
 subst hn;have r:i<M ts:=(List.getElem?_eq_some_iff.1 e).1;rcases bm h.tok with⟨q,_⟩|⟨g,o,d⟩
 .omega
 .have p:=d;cases d;have k:=h.tok;refine⟨g,rfl,?_⟩;have c:∀b,b<6->w.cell? ⟨g,i*6+b,A6⟩=(cTk T)[b]?:=λb m=>by rw[k.cellAt (i*6+b) O,J2 ts i b T e m]
  exact⟨c 0 O,c 1 O,c 2 O,c 3 O,c 4 O,c 5 O⟩
end
def anq{c a9:Cr}(z:agu s)(c9:s.size<=65536)(a3:Loc C s (tokF s).1 c t a9)(ht:t.size<=1048576):Rcw C 61 [A0 s] c (A0 t) a9:=by
 intro bl a6 bb;replace z:=z a6;have bc:=ake s;have bE:(tokF s).1.length<=65537:=by have:=abd s;omega
 unfold TkP at z;generalize (tokF s).1=A at z bc bE a3;generalize (tokF s).2=dn at z;have⟨K,a2⟩:=aw (M A);rw[a2]at z bE;go_in;go_wp2_with fail;refine z.mono ?_;rintro w w1 ⟨bp,bt,rfl,b0,n⟩;have ch:=bb.lo;have bn:Lo C bl a6 w1 c (Ax A6 0 0) ⟨#[]⟩ (Ax bp K bt) A:=⟨bb.below n,dA _ _ _ _,by rw[a2];exact jL b0 (λca _ cw cx=>⟨rfl,O⟩),n.mono ch.2⟩;have aL:=fD a2 bc;clear z b0 n a2 bc bb;go_wp2;go_loopw [7,20] (λcm iv wr=>∃(a:Nat) (u bk:Bz) (a7:Cr),iv= X Y a/\a<=K/\Lo C bl a6 wr a7 cm u (Ax bp K bt) A/\Loc C s (A.drop a) a7 bk a9/\u++bk=t) (λ_ iv _=>K-(C2 iv).toNat)
 case atStart=>exact⟨0,⟨#[]⟩,t,c,rfl,nH,bn,a3,aee t⟩
 case round=>
  clear bn a3;obtain⟨a,u,bk,a7,rfl,c8,d,ar,w⟩:=hrel;by_cases cF:a<K
  .have a1:a<M A:=by have:=aL.1;omega
   obtain⟨b,am⟩:∃b,A[a]?=A5 b:=⟨_,bi a1⟩;have bA:A.drop a=b::A.drop (a+1):=by rw[ja a1];rw[bi a1]at am;rw[cC am]
   rw[bA]at ar;have cb:=aL.2.each b (da am);obtain⟨ca,rfl,bs,b8,b9,cr,ct,cv⟩:=d.cells aL.1 am;have cI:(0:Int)<=(a:Int):=O;have cc:(a:Int)<(K:Int):=O;have g:=aj w;have⟨f,bd⟩:=eJ (O:0<=b.f);have⟨e,bf⟩:=eJ (O:0<=b.t);rw[bd]at b8;rw[bf]at b9;have cz:f<=e/\e<=s.size:=O;have cy:(0:Int)<=(f:Int):=O;have cA:(f:Int)<=(e:Int):=O;have cB:(e:Int)<=(s.size:Int):=O;have af:=fD bd bf;clear bA am w bd bf cb a1;cases ar with
   |stop G=>
    rw[G]at bs;have ck:=λo=>(d.al (o:=o)).conv;have p:=aj λo=>d.al (o:=o);have bv:=g.out;rw[Dm]at bv;subst bv;clear d;go_wp2;go_ret;exact⟨rfl,(p _).cu,(p _).bel⟩
   |@sep _ _ _ ag _ H m ad F cd n x B=>
    rw[F]at bs;have ce:(0:Int)<=(H:Int):=O;have cg:(H:Int)<6:=O;have r:(u++m).size<=4000000:=by have:=congrArg ByteArray.size g.out;simp only[ax]at this⊢;omega
    have p:=jB d x (λcl df:Obj=>(d.al (o:=cl)).cu);clear d x;go_wp2_with fail;refine p.1.al.al.run p.2.1 λdl bo ba=>?_;have bg:=rJ (p.1.al).cu ba H;rw[fp]at bg;have b2:=F3 (l:=sepL) bg n;clear bg;have br:=(ba.block wr.heap.size byT (λw=>by have:=p.1.cu.lt;have:=cC w;omega)).trans (((de (wr.alloc _) _).block wr.heap.size I).trans (ay wr _));have b4:=aj bo;clear bo ba n;go_wp2_with (at_builtin;refine b4.out.app m r rfl _ _ rfl rfl rfl ?_;intro bh L j h;have q:=h _ _ _ _ br Z;have ap:=λa=>au L wr.heap.size a _ _ _ q);clear b2 br h;refine eE (rG _ _) ?_;go_wp2;go_roundw
    case rel=>exact⟨a+1,_,ad,ag,by go_num,O,j,B,by rw[dJ];exact g.out⟩
    case measure=>simp[C2];omega
   |@blank _ _ _ ag _ m ad G F an n x B=>
    have bw:(b.k==6)=B2/\(b.k==5)=B2:=by simp[G,F]
    have y:s.extract b.f.toNat b.t.toNat=s.extract f e:=by rw[af.out.1,af.out.2];rfl
    rw[y]at g;have r:(u++s.extract f e++m).size<=4000000:=by have:=congrArg ByteArray.size g.out;simp only[ax]at this⊢;omega
    have ao:(u++s.extract f e).size<=4000000:=by simp only[ax]at r⊢;omega
    have i:=fD (λo=>d.al (o:=o)) (λak=>ay wr (A3 ak 48));clear d y;go_wp2_with (at_builtin;refine(i.1 _).app (s.extract f e) ao rfl _ _ rfl rfl rfl ?_;intro bh L j h;have q:=h _ _ _ _ (i.2 _) Z;have ap:=λa=>au L wr.heap.size a _ _ _ q);clear h i;refine eE (rG _ _) ?_;rw[an];go_wp2_with fail;refine j.run x λbj v _=>?_;have b5:=aj v;clear j v;go_wp2_with (at_builtin;refine b5.out.app m r rfl _ _ rfl rfl rfl ?_;intro dk b3 E av);go_roundw
    case rel=>exact⟨a+1,_,ad,ag,by go_num,O,E,B,by rw[<-g.out];simp only[dJ]⟩
    case measure=>simp[C2];omega
   |@opn0 _ _ _ ag a8 _ H m ad G F an x cd n a4 B=>
    have bw:(b.k==6)=B2/\(b.k==5)=B2:=by simp[G,F]
    have ce:(0:Int)<=(H:Int):=O;have cg:(H:Int)<3:=O;have y:s.extract b.f.toNat b.t.toNat=s.extract f e:=by rw[af.out.1,af.out.2];rfl
    rw[y]at g;have r:(u++s.extract f e++m).size<=4000000:=by have:=congrArg ByteArray.size g.out;simp only[ax]at this⊢;omega
    have ao:(u++s.extract f e).size<=4000000:=by simp only[ax]at r⊢;omega
    have i:=fD (λo=>d.al (o:=o)) (λak=>ay wr (A3 ak 48));clear d y;go_wp2_with (at_builtin;refine(i.1 _).app (s.extract f e) ao rfl _ _ rfl rfl rfl ?_;intro bh L j h;have q:=h _ _ _ _ (i.2 _) Z;have ap:=λa=>au L wr.heap.size a _ _ _ q);clear h i;refine eE (rG _ _) ?_;rw[an];go_wp2_with fail;refine j.run x λbj v a0=>?_;clear a0 ap j;have b1:=v.cu;go_wp2_with fail;refine v.al.run a4 λb3 E bD=>?_;have b2:=F3 (l:=aao) (rJ b1 bD H) n;have av:=aj E;clear v E bD b1 n;go_wp2_with (at_builtin;refine av.out.app m r rfl _ _ rfl rfl rfl ?_;intro cn cq a5 b6);go_roundw
    case rel=>exact⟨a+1,_,ad,a8,by go_num,O,a5,B,by rw[<-g.out];simp only[dJ]⟩
    case measure=>simp[C2];omega
   |@opn1 _ _ _ ag a8 _ dg m ad G F an x dc n a4 B=>
    have bw:(b.k==6)=B2/\(b.k==5)=B2:=by simp[G,F]
    have y:s.extract b.f.toNat b.t.toNat=s.extract f e:=by rw[af.out.1,af.out.2];rfl
    rw[y]at g;have r:(u++s.extract f e++m).size<=4000000:=by have:=congrArg ByteArray.size g.out;simp only[ax]at this⊢;omega
    have ao:(u++s.extract f e).size<=4000000:=by simp only[ax]at r⊢;omega
    have i:=fD (λo=>d.al (o:=o)) (λak=>ay wr (A3 ak 48));clear d y;go_wp2_with (at_builtin;refine(i.1 _).app (s.extract f e) ao rfl _ _ rfl rfl rfl ?_;intro bh L j h;have q:=h _ _ _ _ (i.2 _) Z;have ap:=λa=>au L wr.heap.size a _ _ _ q);clear h i;refine eE (rG _ _) ?_;rw[an];go_wp2_with fail;refine j.run x λbj v a0=>?_;have b7:=(a0.block _ (ah q) (λw=>by have:=j.cu.cur;rw[<-cC w,q]at this;simp at this)).trans q;have dd:=λa=>au bj wr.heap.size a _ _ _ b7;clear a0 ap j;go_wp2_with fail;refine v.run a4 λb3 E _=>?_;have av:=aj E;clear v E;go_wp2_with (at_builtin;refine av.out.app m r rfl _ _ rfl rfl rfl ?_;intro cn cq a5 b6);go_roundw
    case rel=>exact⟨a+1,_,ad,a8,by go_num,O,a5,B,by rw[<-g.out];simp only[dJ]⟩
    case measure=>simp[C2];omega
  .have cc:¬(a:Int)<(K:Int):=O;have ck:=d.conv;rw[List.drop_eq_nil_of_le (by have:=aL.1;omega)]at ar;cases ar;rw[Dm]at w;subst w;have p:=aj d;clear d;go_wp2;go_ret;exact⟨rfl,p.out.cu,p.out.bel⟩
end Go.Proofs.YtiaechpcebhcdaaGreatDoor
namespace Go.Proofs.YtiaechpcebhcdaaGreatDoor
open Go.RowKit Go.Maps Go.WideMaps
variable{C:Cd}{L:List Mb}{N:Nd}{W W' w:World}{a c m z:Int}{b base g n p:Nat}{ns:List Nd}{s t:Bz}{st:List Int}{vs:Value}
def nmV:Array Br:=#[A0 ⟨#[97]⟩,A0 ⟨#[98]⟩,A0 ⟨#[120]⟩,A0 ⟨#[121,49]⟩,A0 ⟨#[95]⟩,A0 ⟨#[73,102]⟩,A0 ⟨#[101,108,105]⟩,A0 ⟨#[101,108,115]⟩,A0 ⟨#[110,105,108,120]⟩,A0 ⟨#[102]⟩,A0 ⟨#[105,102,102]⟩,A0 ⟨#[108,111,110,103,95,110,97,109,101]⟩]
def flV:Array Br:=#[A0 ⟨#[49,46,53]⟩,A0 ⟨#[48,46,48]⟩,A0 ⟨#[49,101,57]⟩,A0 ⟨#[48,101,48]⟩,A0 ⟨#[50,46,50,53,101,45,51]⟩,A0 ⟨#[57,50,50,51,51,55,50,48,51,54,56,53,52,55,55,53,56,48,56]⟩,A0 ⟨#[49,48,46,48,101,43,48,55]⟩,A0 ⟨#[49,50,51,52,53,54,55,56,57,48,46,48,57,56,55,54,53,52,51,50,49]⟩,A0 ⟨#[57,57,57,57,57,57,57,57,57,57,57,57,57,57,57,57,57,57,57,57,57,57,57,57,57,57,57,57,57,57,57,57,57,57,57,57,57,57,46,53]⟩]
def pcV:Array Br:=#[A0 ⟨#[48,120]⟩,A0 ⟨#[49,101]⟩,A0 ⟨#[49,101,43]⟩,A0 ⟨#[48,120,49,103]⟩,A0 ⟨#[48,49]⟩,A0 ⟨#[49,46]⟩,A0 ⟨#[49,46,46,50]⟩,A0 ⟨#[46,46]⟩,A0 ⟨#[46,46,46,46]⟩,A0 ⟨#[34,97]⟩,A0 ⟨#[34,92,113,34]⟩,A0 ⟨#[34,92,120,52,34]⟩,A0 ⟨#[45,45,122]⟩,A0 ⟨#[45,32,45]⟩,A0 ⟨#[64]⟩,A0 ⟨#[33]⟩,A0 ⟨#[48,120,102,102,102,102,102,102,102,102,102,102,102,102,102,102,102,102]⟩,A0 ⟨#[48,120,49,48,48,48,48,48,48,48,48,48,48,48,48,48,48,48,48]⟩,A0 ⟨#[126,61]⟩,A0 ⟨#[61,61]⟩]
def as4:∀k:Fin 12,nmV[k.val]?=A5 (A0 (bq nmV k.val))/\(bq nmV k.val).size<=41:=by
 intro ⟨k,a⟩
 iterate 12 (rcases k with _|k;exact⟨rfl,Nat.le_of_ble_eq_true rfl⟩)
 omega
def as5:∀k:Fin 9,flV[k.val]?=A5 (A0 (bq flV k.val))/\(bq flV k.val).size<=41:=by
 intro ⟨k,a⟩
 iterate 9 (rcases k with _|k;exact⟨rfl,Nat.le_of_ble_eq_true rfl⟩)
 omega
def aok:∀k:Fin 20,pcV[k.val]?=A5 (A0 (bq pcV k.val))/\(bq pcV k.val).size<=41:=by
 intro ⟨k,a⟩
 iterate 20 (rcases k with _|k;exact⟨rfl,Nat.le_of_ble_eq_true rfl⟩)
 omega
def at5:∀k:Fin 22,(bq fG k.val).size<=41:=Z
def at6:∀k:Fin 30,(bq ju k.val).size<=41:=Z
inductive Nac (C:Cd):Bz->Cr->Bz->Cr->Prop
 |stop {t:Bz}{c c1:Cr}{u:Int}:Rc C 29 [.int .i64 3] c (.int .i64 u) c1->0<=u/\u<3->¬(t.size:Int)<39+u->Nac C t c t c1
 |more {t t':Bz}{c c1 c2:Cr}{u:Int}:Rc C 29 [.int .i64 3] c (.int .i64 u) c1->0<=u/\u<3->(t.size:Int)<39+u->Nac C (t++⟨#[95]⟩) c1 t' c2->Nac C t c t' c2
def nac(C:Cd):∀(f:Nat)(t:Bz)(c:Cr),t.size<=41->41-t.size<=f->0<=c.p->c.p<=900000000+(t.size:Int)->∃(e:Bz) (c':Cr),e.size<=41/\(c.p<=c'.p/\c'.p<=c.p+42-t.size/\c'.r=c.r)/\Nac C t c e c':=by
 intro f
 induction f with
 |zero=>
  intro t c g m n o;have⟨i,b,d,q,a⟩:=gi C c 3;exact⟨t,b,g,O,.stop a d O⟩
 |succ f s=>
  intro t c g m n o;have⟨i,b,d,q,a⟩:=gi C c 3;by_cases h:(t.size:Int)<39+i
  .have u:(t++(⟨#[95]⟩:Bz)).size=t.size+1:=ax;obtain⟨e,k,l,v,j⟩:=s (t++⟨#[95]⟩) b O O O O;exact⟨e,k,l,O,.more a d h j⟩
  .exact⟨t,b,g,O,.stop a d h⟩
section
variable {C : Cd} {E : Bs} {w w' W : World} {c c1 c2 c3 : Cr} {z k y n : Int}
theorem aq3(C:Cd)(c:Cr)(an:0<=c.p)(ao:c.p<=800000000):∃(t:Bz) (c':Cr),t.size<=41/\(c.p<=c'.p/\c'.p<=c.p+200/\c'.r=c.r)/\Rc C 64 [] c (A0 t) c':=by
 have⟨A,v,ar,ag,u⟩:=gi C c 60;by_cases ad:A=0
 .subst ad;obtain⟨t,g,K,G,q⟩:=nac C 41 ⟨#[110]⟩ v Z Z O O;refine⟨t,g,K,O,λs y l=>?_⟩;have d:=l.cw;go_in;go_wp2_with fail;refine d.run u λw1 j _=>?_;go_wp2;go_loopw [3] (λo wr=>∃(a:Bz) (k:Cr),o= A0 a/\a.size<=42/\Cw C s y wr k/\Nac C a k t g) (λo _=>50-arn o)
  case atStart=>grind
  case round=>
   obtain⟨a,k,rfl,ap,d,q⟩:=hrel;cases q with
   |@stop _ _ w f i n H=>
    have L:IntKind.i64.wrap (39+f)=39+f:=by rw[bJ];omega
    go_wp2_with fail;refine d.run i λz e _=>?_;have b:=aj e;go_wp2;go_ret;exact⟨rfl,b.out.cu,b.out.gr⟩
   |@more _ _ _ w _ f i n H B=>
    have L:IntKind.i64.wrap (39+f)=39+f:=by rw[bJ];omega
    go_wp2_with fail;refine d.run i λz e _=>?_;have b:=aj e;go_wp2;go_roundw
    case rel=>exact⟨_,w,rfl,by rw[ax];show a.size+1<=42;omega,b.out,B⟩
    case measure=>show 50-(a++⟨#[95]⟩).size<50-a.size;rw[ax];show 50-(a.size+1)<_;omega
 .have af:(A==0)=B2:=U;have⟨h,g,m,G,E⟩:=gi C v 12;obtain⟨h,rfl⟩:=eJ m.1;have x:=as4 ⟨h,O⟩;refine⟨bq nmV h,g,x.2,O,λs y l=>?_⟩;have d:=l.cw;have am:=m.2;have ak:=m.1;go_in;go_wp2_with fail;refine d.run u λw1 j _=>?_;have n:=j.cu;go_wp2_with fail;refine j.al.run E λz e F=>?_;have r:=(rJ n F h).trans x.1;have b:=aj e;go_wp2;go_ret;exact⟨rfl,b.out.cu,b.out.gr⟩
def as6(C:Cd)(c:Cr)(q:0<=c.p)(s:c.p<=800000000):∃(t:Bz) (c':Cr),t.size<=41/\(c'.p=c.p+1/\c'.r=c.r)/\Rc C 67 [] c (A0 t) c':=by
 have⟨a,j,b,l,g⟩:=gi C c 9;obtain⟨a,rfl⟩:=eJ b.1;have f:=as5 ⟨a,O⟩;refine⟨bq flV a,j,f.2,l,λm u e=>?_⟩;have h:=e.cw;have o:=b.2;have n:=b.1;go_in;go_wp2_with fail;refine h.al.run g λw1 i k=>?_;have r:=(rJ e k a).trans f.1;have d:=aj i;go_wp2;go_ret;exact⟨rfl,d.out.cu,d.out.gr⟩
inductive Pcw (C:Cd) (c1:Cr):Int->Bz->Cr->Prop
 |name {t:Bz}{c2:Cr}:Rc C 64 [] c1 (.string t) c2->Pcw C c1 0 t c2
 |int {n:Int}{c2:Cr}: -9223372036854775808<=n->n<=9223372036854775807->Rc C 66 [] c1 (.int .i64 n) c2->Pcw C c1 1 (Lz n) c2
 |flt {t:Bz}{c2:Cr}:Rc C 67 [] c1 (.string t) c2->Pcw C c1 2 t c2
 |str {t:Bz}{c2:Cr}:t.size<=4100->Rc C 69 [] c1 (.string t) c2->Pcw C c1 3 (gL (jl t)) c2
 |word {z:Int}{j:Nat}{c2:Cr}:z=4\/z=5->j<22->Rc C 29 [.int .i64 22] c1 (.int .i64 j) c2->Pcw C c1 z (bq fG j) c2
 |sign {z:Int}{j:Nat}{c2:Cr}:z=6\/z=7\/z=8->j<30->Rc C 29 [.int .i64 30] c1 (.int .i64 j) c2->Pcw C c1 z (bq ju j) c2
 |line:Pcw C c1 9 ⟨#[10]⟩ c1
 |list {j:Nat}{c2:Cr}:j<20->Rc C 29 [.int .i64 20] c1 (.int .i64 j) c2->Pcw C c1 10 (bq pcV j) c2
 |byte {t:Bz}{c2:Cr}:Rc C 31 [.int .i64 1] c1 (.string t) c2->Pcw C c1 11 t c2
def qg(f:Rc C 29 [X Y 12] c (X Y z) c1)(P:Pcw C c1 z t c2):Rc C 30 [] c (A0 t) c2:=by
 intro A B v;have g:=v.cw;cases P with
 |line=>
  go_in;go_wp2_with fail;refine g.run f λw1 a _=>?_;go_wp2;go_ret;exact⟨rfl,a.cu,a.gr⟩
 |int p w e=>
  go_in;go_wp2_with fail;refine g.run f λw1 a _=>?_;go_wp2_with fail;refine a.run e λi h _=>?_;go_wp2_with fail;refine dm (G7 _ p w i) λn o=>?_;have b:=aj (h.below o);go_wp2;go_ret;exact⟨rfl,b.out.cu,b.out.gr⟩
 |str p e=>
  go_in;go_wp2_with fail;refine g.run f λw1 a _=>?_;go_wp2_with fail;refine a.run e λi h _=>?_;go_wp2_with fail;refine dm (DH _ p i) λn o=>?_;have b:=aj (h.below o);go_wp2;go_ret;exact⟨rfl,b.out.cu,b.out.gr⟩
 |word x l e=>
  rename_i d;have r:(d:Int)<22:=O;have q:(0:Int)<=(d:Int):=O;rcases x with rfl|rfl;all_goals
   go_in;go_wp2_with fail;refine g.run f λw1 a _=>?_;have m:=a.cu;go_wp2_with fail;refine(ru w1).mono ?_;rintro u i ⟨rfl,rfl⟩;go_wp2_with fail;refine a.al.run e λn j k=>?_;have s:=(rJ m k d).trans (Dc ⟨d,l⟩);have b:=aj j;go_wp2;go_ret;exact⟨rfl,b.out.cu,b.out.gr⟩
 |sign y l e=>
  rename_i d;have r:(d:Int)<30:=O;have q:(0:Int)<=(d:Int):=O;rcases y with rfl|rfl|rfl;all_goals
   go_in;go_wp2_with fail;refine g.run f λw1 a _=>?_;have m:=a.cu;go_wp2_with fail;refine(vB w1).mono ?_;rintro u i ⟨rfl,rfl⟩;go_wp2_with fail;refine a.al.run e λn j k=>?_;have s:=(rJ m k d).trans (aby ⟨d,l⟩);have b:=aj j;go_wp2;go_ret;exact⟨rfl,b.out.cu,b.out.gr⟩
 |list l e=>
  rename_i d;have r:(d:Int)<20:=O;have q:(0:Int)<=(d:Int):=O;go_in;go_wp2_with fail;refine g.run f λw1 a _=>?_;have m:=a.cu;go_wp2_with fail;refine a.al.run e λn j k=>?_;have s:=(rJ m k d).trans (aok ⟨d,l⟩).1;have b:=aj j;go_wp2;go_ret;exact⟨rfl,b.out.cu,b.out.gr⟩
 |_ e=>
  go_in;go_wp2_with fail;refine g.run f λw1 a _=>?_;go_wp2_with fail;refine a.run e λi h _=>?_;go_wp2;go_ret;exact⟨rfl,h.cu,h.gr⟩
theorem afi(C:Cd)(c:Cr)(m:0<=c.p)(n:c.p<=700000000)(o:0<=c.r):∃(t:Bz) (c':Cr),t.size<=4010/\(c.p<=c'.p/\c'.p<=c.p+300/\c.r<=c'.r/\(c.r<=3->c'.r<=3))/\Rc C 30 [] c (A0 t) c':=by
 have⟨d,f,s,l,e⟩:=gi C c 12;rcases((O:d=0\/d=1\/d=2\/d=3\/(d=4\/d=5)\/(d=6\/d=7\/d=8)\/d=9\/d=10\/d=11)) with rfl|rfl|rfl|rfl|h45|h678|rfl|rfl|rfl
 .obtain⟨t,b,ht,h,a⟩:=aq3 C f O O;exact⟨t,b,O,O,qg e (.name a)⟩
 .obtain⟨k,b,j,h,a⟩:=aek C f O O;exact⟨_,b,by have:=Hx k j.2;omega,O,qg e (.int j.1 j.2 a)⟩
 .obtain⟨t,b,ht,h,a⟩:=as6 C f O O;exact⟨t,b,O,O,qg e (.flt a)⟩
 .obtain⟨t,b,ht,h,a⟩:=an0 C f O O O;have q:t.size<=4001/\(gL (jl t)).size<=4010:=by
   rcases ht with ht|ht
   .have:=ht.1.1;have:=amd t;omega
   .have:=ht.1.hi;have:=ame t ht.1.dg;omega
  exact⟨_,b,O,O,qg e (.str O a)⟩
 .obtain⟨g,b,i,h,a⟩:=gi C f 22;obtain⟨g,rfl⟩:=eJ i.1;exact⟨_,b,by have:=at5 ⟨g,O⟩;grind,O,qg e (.word h45 O a)⟩
 .obtain⟨g,b,i,h,a⟩:=gi C f 30;obtain⟨g,rfl⟩:=eJ i.1;exact⟨_,b,by have:=at6 ⟨g,O⟩;grind,O,qg e (.sign h678 O a)⟩
 .exact⟨_,f,Z,O,qg e .line⟩
 .obtain⟨g,b,i,h,a⟩:=gi C f 20;obtain⟨g,rfl⟩:=eJ i.1;exact⟨_,b,by have:=(aok ⟨g,O⟩).2;grind,O,qg e (.list O a)⟩
 .obtain⟨t,b,ht,h,a⟩:=Iz C f 1 Z O O;exact⟨t,b,O,O,qg e (.byte a)⟩
end
theorem Lw.kcap{lo c:Nat}(h:Lw w lo (Ax (A5 ⟨g,0,A6⟩) n c) L)(hn:M L=n):Co w ⟨g,0,A6⟩ (L.map Mb.N):=λa N p q d b=>by
 subst hn;rw[dw]at d;obtain⟨o,e,rfl⟩:=Option.map_eq_some_iff.1 d;have⟨_,_,_,_,_,_,_,_,k⟩:=td h.row e;have l:(⟨((⟨g,0,A6⟩:Addr).add (a*9)).block,((⟨g,0,A6⟩:Addr).add (a*9)).off+8,A6⟩:Addr)=⟨g,a*9+8,A6⟩:=by
  unfold Addr.add;split<;>simp_all
 rw[l,k]at b;have m:=cC b;have f:=(h.each o (da e)).2;rw[m]at f;rcases f.2 with⟨i,j⟩|⟨t,r,s,i,_,_,j,_⟩
 .omega
 .cases i;exact j
def Cj(ns:List Nd):(iH ns).size<=65536:=by
 unfold iH;split
 .unfold I7;split
  .decide
  .omega
 .decide
def GdX(t:Bz):Prop:=∃L:List Nd,(∀N∈L,Do N)/\M L<=265/\bigs L<=3/\LoR (iH L) (tokF (iH L)).1 t
def TkA:Prop:=∀L:List Nd,(∀N∈L,Do N)->M L<=265->bigs L<=3->agu (iH L)
structure Cy (C:Cd) (E:Bs) (W w:B0) (c:Cr):Prop where
 cu:Cu C E w c
 bel:A9 E.base W w
section
variable {C : Cd} {E : Bs} {w w' W : World} {c c' : Cr} {v : Value} {ar : List Value} {f : FuncId} {Q : Ending → World → Prop}
def Cu.cy(h:Cu C E w c):Cy C E w w c:=⟨h,ai _ _⟩
def Cy.below(a:Cy C E W w c)(b:A9 w.heap.size w w'):Cy C E W w' c:=⟨a.cu.below b,a.bel.trans (b.mono a.cu.lo.2)⟩
def Cy.al{o:Obj}(a:Cy C E W w c):Cy C E W (w.alloc o) c:=a.below (de w o)
def Rc.rw(h:Rc C f ar c v c'):Rcw C f ar c v c':=λd g a=>(h a).mono λe i b=>⟨b.1,b.2.1,vz b.2.2 a.lo.1 a.lo.2⟩
def Cy.run(a:Cy C E W w c)(k:Rcw C f ar c v c')(h:∀w',Cy C E W w' c'->Q (B1 v) w'):B7 A2 f (cV E::ar).toArray w Q:=
 (k a.cu).mono λd w' b=>b.1 ▸ h w' ⟨b.2.1,a.bel.trans b.2.2⟩
end
def aq4(ap:TkA)(C:Cd)(c:Cr)(a0:0<=c.p/\c.p<=100)(a9:c.r=0):∃(t:Bz) (c':Cr),(t.size<=721000/\GdX t)/\(0<=c'.p/\c'.p<=20300000/\0<=c'.r/\c'.r<=3)/\Rcw C 28 [] c (A0 t) c':=by
 have⟨a,m,b,G⟩:=aqI C c a0 O;have w:=Cj a;have a7:=abd (iH a);have v:=ake (iH a);have an:=b.p;have a6:=b.r;obtain⟨t,ak,a4,a5,am,E⟩:=aq2 C (iH a) (tokF (iH a)).1 m 0 an.1 O (λK e=>by have:=v.each K e;omega) v.next Z O
 refine⟨t,ak,⟨O,a,b.nd,b.n.2,O,am⟩,O,λF L s=>?_⟩;have k:=anq (ap a b.nd b.n.2 O) w E O;have y:=b.nd;have aL:=b.n.2;have a1:=G s;have a8:=s.lo;go_in;go_wp2_with fail;refine a1.mono ?_;rintro o w1 ⟨q,n,H,rfl,u,e,ao,av⟩;have⟨i,g⟩:=aw (M a);rw[g]at e aL⊢;have ar:M H=i:=by rw[<-g,<-u,dr]
 have x:∀d,B7 A2 62 #[Ed #[Ax (A5 ⟨q,0,A6⟩) i n]] (w1.alloc d) λo a2=>o= B1 (A0 (iH a))/\A9 (w1.alloc d).heap.size (w1.alloc d) a2:=λd=>by
  have l:=de w1 d;have nd:=e.lw.nds;have z:=e.lw.kcap ar;rw[u]at nd z;exact Gu (w1.alloc d) ⟨q,0,A6⟩ i n a (nd.below l) (z.below nd l) g O (λf h=>(y f h).small) (λf h=>(y f h).int)
 have ad:Cy C F L w1 m:=⟨ao,av⟩;generalize iH a=P at x k w;have A:=aj ad;go_wp2_with fail;refine dm (x _) λba ag=>?_;have B:=aj (A.out.al.below ag);go_wp2_with fail;refine B.out.run k λbb af=>?_;have j:=aj af;go_wp2;go_ret;exact⟨rfl,j.out.cu,j.out.bel⟩
theorem anr(r:p<s.size)(h:ae s p=34)(q:(rdI s p).ok=B3):Stp s p:=by
 have d:rdI s p=(if(bC s (s.size+1) (p+1) []).1=B3 then⟨B3,(bC s (s.size+1) (p+1) []).2.1,0,4,0,gL (bC s (s.size+1) (p+1) []).2.2⟩ else⟨B2,(bC s (s.size+1) (p+1) []).2.1,0,0,0,B6⟩):=by
  unfold rdI;rw[h,aa Z,aa Z,ab rfl]
 have c:(bC s (s.size+1) (p+1) []).1=B3:=by
  grind
 rw[ab c]at d;have b:=sE s (s.size+1) (p+1) [] O;obtain⟨i,j,e⟩:=ada s _ _ _ c O;obtain⟨a,f⟩:∃a,(bC s (s.size+1) (p+1) []).2.1=a:=⟨_,rfl⟩;rw[f]at b i j e d;have u:=Du (s:=s) (p:=p) (a:=a) O b.2.1 (λt m n=>by
  grind) O
 have g:FJ s a=0:=by
  rw[(O:a=(a-1)+1),pf O,e];rfl
 obtain⟨k,l⟩:=Bw (.inr (.inl g));have o:so (FJ s p) (ae s p)=12:=by rw[h];rfl
 unfold Stp gA;grind
def aq5:∀k:Fin 79,(k.val=5\/40<=k.val)->∀j:Fin 3,j.val<(fJ (k.val:Int)).size->33<=ae (fJ (k.val:Int)) j.val/\vw (ae (fJ (k.val:Int)) j.val)=B2:=by decide+kernel
def ant:∀k:Fin 79,(k.val=5\/40<=k.val)->(fJ (k.val:Int)).size<=3:=by decide+kernel
theorem anu(j:p<s.size)(ad:¬aJ (ae s p)=B3)(H:¬aC (ae s p)=B3)(F:¬ae s p=34)(v:(rdI s p).ok=B3):Stp s p:=by
 obtain⟨b,n⟩:∃b,lH (s.extract p s.size)=b:=⟨_,rfl⟩;have af:=ey s p s.size cJ;have K:b≠0:=λE=>by
  unfold rdI at v;grind
 have l:rdI s p=⟨B3,p+(fJ b).size,if b=7 then 1 else 0,b,0,B6⟩:=by
  unfold rdI;grind
 obtain⟨o,e⟩:=ajq (s.extract p s.size) O O;have w:=Jj (s.extract p s.size) O O;rw[n]at o e w;have f:∀c,c<(fJ b).size->ae s (p+c)=ae (fJ b) c:=λc u=>by
  rw[<-e c u,eu s p s.size c cJ]
 have d:=f 0 O;rw[du]at d;unfold Stp gA;rw[l];simp only;by_cases t:b=7
 .subst t;have y:(fJ 7).size=1:=Z;have g:ae s p=10:=by rw[d];decide
  rw[y];obtain⟨A,B⟩:=Bw (s:=s) (p:=p+1) (.inr (.inr (by rw[pf j,g];rfl)));have x:=Au j;rw[g,(byR:so (FJ s p) 10=12)]at x;grind
 .have L:0<=b/\b<=78/\(b=5\/40<=b):=O;have m:((b.toNat:Nat):Int)=b:=O;have k:=aq5 ⟨b.toNat,O⟩ U;have C:=ant ⟨b.toNat,O⟩ U;simp only[m]at k C;have h:∀c,p<=c->c<p+(fJ b).size->33<=ae s c/\vw (ae s c)=B2:=λc q r=>by
   have i:=f (c-p) O;rw[(O:p+(c-p)=c)]at i;rw[i];exact k ⟨c-p,O⟩ U
  have first:=h p cJ O
  have ag:=Du (s:=s) (p:=p) (a:=p+(fJ b).size) O O (λc q r=>U) O;have z:FJ s (p+(fJ b).size)=0:=by
   have:=h (p+(fJ b).size-1) O O;rw[(O:p+(fJ b).size=(p+(fJ b).size-1)+1),pf O];unfold wm;grind
  obtain⟨A,B⟩:=Bw (s:=s) (p:=p+(fJ b).size) (.inr (.inl z));have G:so (FJ s p) (ae s p)=12:=by unfold so;grind
  grind
def anv(a:p<s.size)(f:Bnd s p)(b:(rdI s p).ok=B3):Stp s p:=by
 by_cases c:aJ (ae s p)=B3
 .exact am7 a c
 by_cases d:aC (ae s p)=B3
 .exact am8 a f d b
 by_cases e:ae s p=34
 .exact anr a e b
 .exact anu a c d e b
theorem BA(s:Bz):∀(f p:Nat),p<=s.size->Bnd s p->gA s (blk s f p)<=gA s p/\Bnd s (blk s f p)
 |0,p,_,d=>⟨cJ,d⟩
 |f+1,p,k,d=>by
  have go:∀q,p<=q->q<=s.size->(vw (ae s q)=B2\/FJ s q=0\/FJ s q=3)->gA s (blk s f q)<=gA s p/\Bnd s (blk s f q):=λq a b i=>by
   obtain⟨g,m⟩:=Bw i;obtain⟨l,o⟩:=BA s f q b g;have:=abf (s:=s) (p:=p) (q-p) O;rw[(O:p+(q-p)=q)]at this;unfold gA at l⊢;grind
  rw[blk];by_cases h:s.size<=p
  .grind
  rw[aa h];by_cases a:ic (ae s p)=B3
  .rw[ab a];have n:ae s p=32\/ae s p=9\/ae s p=13:=be a;refine go (p+1) O O (.inr ?_);rw[pf O];have:vw 32=B2/\vw 9=B2/\vw 13=B2:=Z;unfold wm;grind
  rw[aa a];by_cases b:ae s p=45/\ae s (p+1)=45
  .rw[ab b];have e:=pj s p k;have j:Ct (ae s (vh s p))=B2:=jy Ct Bh s _ p O;refine go _ e.1 e.2 (.inl ?_);rcases(show ae s (vh s p)=10\/ae s (vh s p)= -1 by unfold Ct at j;grind) with c|c<;>rw[c]<;>decide
  grind
def wTk(T:Tk):Nat:=if T.k=6 then 0 else 2*(T.t-T.f).toNat+10
def F9(ts:List Tk):Nat:=(ts.map wTk).sum
def afj(ts:List Tk)(T:Tk):F9 (ts++[T])=F9 ts+wTk T:=by unfold F9;simp
theorem F4(s:Bz):∀(f:Nat)(st:List Int)(p:Nat)(l:Int)(b:List Tk),p<=s.size->Bnd s p->F9 (wlk s f st p l b).1<=F9 b+gA s p
 |0,st,p,l,b,_,_=>by rw[wlk];exact iz _
 |f+1,st,p,l,b,u,o=>by
  have go:p<s.size->(rdI s p).ok=B3->∀st' c k,F9 (wlk s f st' (blk s (s.size+1) (rdI s p).a) c (b++[⟨k,(p:Nat),((rdI s p).a:Nat),l,(rdI s p).n,(rdI s p).x⟩])).1<=F9 b+gA s p/\F9 (wlk s f st' (blk s (s.size+1) (rdI s p).a) c b).1<=F9 b+gA s p:=λd h st' c k=>by
   have i:=eD s p d h;obtain⟨w,r⟩:=anv d o h;obtain⟨t,e⟩:=BA s (s.size+1) (rdI s p).a i.2.1 r;have g:=ft s (s.size+1) (rdI s p).a i.2.1;have q:=F4 s f st' (blk s (s.size+1) (rdI s p).a) c (b++[⟨k,(p:Nat),((rdI s p).a:Nat),l,(rdI s p).n,(rdI s p).x⟩]) g.2 e;have v:=F4 s f st' (blk s (s.size+1) (rdI s p).a) c b g.2 e;have:wTk ⟨k,(p:Nat),((rdI s p).a:Nat),l,(rdI s p).n,(rdI s p).x⟩<=2*((rdI s p).a-p)+10:=by unfold wTk;grind
   rw[afj]at q;omega
  rw[wlk];split
  .simp only;rw[afj];have:wTk ⟨6,(s.size:Nat),(s.size:Nat),l,0,⟨#[]⟩⟩=0:=by rfl
   omega
  .rename_i d;split
   .rename_i m;have j:=go O (Cz s p m).1;split
    .grind
    .exact(j _ _ 0).2
   .split
    .split
     .grind
     .exact iz _
    .exact iz _
theorem akz(s:Bz):F9 (tokF s).1<=pz 0 (fK s):=by
 obtain⟨b,e⟩:=Bw (s:=s) (p:=0) (.inr (.inl rfl));have f:gA s 0=pz 0 (fK s):=by rfl
 obtain⟨c,a⟩:=BA s (s.size+1) 0 nH b;have:=F4 s (s.size+1) [100,6] (blk s (s.size+1) 0) 1 [] (ft s (s.size+1) 0 nH).2 a;have d:F9 []=0:=rfl;unfold tokF;split
 .grind
 split
 .show F9 (jn s).1<=_;unfold jn;omega
 grind
def fW(N:Nd):Int:=300+8100*(bgN N:Int)
def Wp(ns:List Nd)(j:Int):Int:=((ns.take j.toNat).map fW).sum
def wN(ns:List Nd)(i:Int):Int:=Wp ns (i+1)-Wp ns (i+1-(jk ns).getD i.toNat 0)
def wK(ns:List Nd):List Int->Int
 |[]=>0
 |k::l=>wN ns k+wK ns l
def BB(ns:List Nd)(a b:List Int):wK ns (a++b)=wK ns a+wK ns b:=by
 induction a with
 |nil=>simp[wK]
 |cons d e c=>simp only[dt,wK,c];omega
def aq6(ns:List Nd)(l:List Int):wK ns l.reverse=wK ns l:=by
 induction l with
 |nil=>rfl
 |cons b l a=>rw[List.reverse_cons,BB,a];simp only[wK];omega
theorem aol(ns:List Nd):∀(l:List Int)(a b:Int),yD (jk ns) l a=A5 b->wK ns l=Wp ns a-Wp ns b
 |[],a,b,h=>by simp[yD]at h;subst h;simp[wK]
 |k::r,a,b,h=>by
  rw[yD]at h;split at h
  .rename_i c;have:=aol ns r _ _ h;simp only[wK,wN];grind
  grind
theorem abq(S:List Int)(i:Nat):∀(l:List Int)(a:Int),(∀k∈l,0<=k/\k<(i:Int))->yD (S.take i) l a=yD S l a
 |[],a,_=>rfl
 |k::r,a,h=>by
  have e:=h k bH;have b:(S.take i).getD k.toNat 0=S.getD k.toNat 0:=by
   grind
  rw[yD,yD,b,abq S i r _ λd c=>h d (dC _ c)]
def anw{i:Nat}(h:ns[i]?=A5 N):Wp ns ((i:Int)+1)=Wp ns i+fW N:=by
 unfold Wp;rw[(O:((i:Int)+1).toNat=i+1),(O:((i:Int)).toNat=i),il,h];simp
structure Wzd (ns:List Nd):Prop where
 nb:∀i:Nat,i<M ns->jD ns i (nodeI ns i)=B3
 at_:∀i:Nat,i<M ns->wN ns i=fW (nodeI ns i)+wK ns (nodeI ns i).ks
 root:wN ns ((M ns:Int)-1)=Wp ns (M ns)
 len:1<=M ns
theorem aq7(h:(dF ns).1=0):Wzd ns:=by
 have m:=acL h;have j:=Ar h;have s:=h;unfold dF at h;by_cases p:kL ns=B3
 .grind
 rw[aa p]at h;have⟨k,n⟩:=aw (iK (gc ns) (M ns) 0);rw[n]at h;cases k with
 |some a=>rw[tf2]at h;omega
 |none=>
  rw[tf2]at h;have⟨l,i⟩:=aw (iK (ia (jk ns)) (M ns) 0);rw[i]at h;cases l with
  |some a=>rw[tf3]at h;omega
  |none=>
   have o:=qF i;rw[tf3]at h;have q:(jk ns).getD (M ns-1) 0=(M ns:Int):=by
    grind
   refine⟨m.nb,λa t=>?_,?_,j.len.1⟩
   .have c:ns[a]?=A5 (nodeI ns a):=by
     unfold nodeI;grind
    generalize nodeI ns a=e at c;have d:=o a nH O;unfold ia at d;have b:=ajz c;rw[b]at d;unfold tu at d b;cases hw:yD ((jk ns).take a) e.ks.reverse a with
    |none=>grind
    |some f=>
     rw[hw]at b;simp only at b;rw[abq (jk ns) a _ _ (λr u=>j.kid a e c r U)]at hw;have g:=aol ns _ _ _ hw;rw[aq6]at g;unfold wN;rw[(O:((a:Int)).toNat=a),b,anw c,g,(O:(a:Int)+1-((a:Int)-f+1)=f)];omega
   .unfold wN;rw[(O:((M ns:Int)-1).toNat=M ns-1),q,(O:(M ns:Int)-1+1=M ns),Int.sub_self];have:Wp ns 0=0:=by rfl
    omega
def afk(d:Wzd ns):∀{i:Nat},i<M ns->300<=wN ns i:=by
 intro i
 induction i using Nat.strongRecOn with
 |_ i l=>
  intro c;rw[d.at_ i c];have j:∀a:List Int,(∀b∈a,b∈(nodeI ns i).ks)->0<=wK ns a:=by
   intro a
   induction a with
   |nil=>intro _;exact Int.le_refl _
   |cons o a m=>
    intro g;have⟨n,k,h⟩:=oE (g o bH);have⟨p,e⟩:=iG (d.nb i c) c n k;have:=l p e.lt e.len;have:=m (λb f=>g b (dC _ f));simp only[wK];rw[<-h,e.id];omega
  have:=j _ (λb f=>f);unfold fW;omega
def aq8(L:List Nd):Wp L (M L)=300*(M L:Int)+8100*(bigs L:Int):=by
 unfold Wp bigs;rw[(O:((M L:Nat):Int).toNat=M L),dH cJ]
 induction L with
 |nil=>rfl
 |cons b L a=>
  simp only[wI,List.sum_cons,db]at a⊢;rw[a];unfold fW;omega
def F5(N:Nd):300<=fW N:=by unfold fW;omega
def CE(x:Bz)(W:Int):Prop:=∃c:Nat,Cs x c/\(c:Int)<=W
section
variable {x y : Bz} {m n : Int}
def CE.app(h:CE x m)(g:CE y n):CE (x++y) (m+n):=by
 obtain⟨a,c,e⟩:=h;obtain⟨b,d,f⟩:=g;exact⟨a+b,c.app d,O⟩
def CE.le(h:CE x m)(c:m<=n):CE x n:=by
 obtain⟨a,b,d⟩:=h;exact⟨a,b,O⟩
end
def Cs.ce{x:Bz}{c:Nat}(h:Cs x c):CE x c:=⟨c,h,Int.le_refl _⟩
def cj{x:Bz}(c:Nat)(h:pz 0 (fK x)<=c:=by decide):CE x c:=(sr h).ce
def sy:CE B6 0:=⟨0,ED,Z⟩
def afl:∀t:Nat,pz 3 (D4 t 9)=0
 |0=>rfl
 |t+1=>by rw[List.replicate_succ,pz,(Z:so 3 9=0),(Z:wm 3 9=3),afl t]
def H9:∀t:Nat,fK (DF t)=D4 t 9
 |0=>rfl
 |t+1=>by
  show fK (DF t++⟨#[9]⟩)=_;rw[yE,H9 t,List.replicate_succ'];rfl
def afm(t:Nat):CE (mF t) 12:=⟨12,⟨by
 unfold mF;rw[yE,H9];show so 0 10+pz 3 (D4 t 9)<=12;rw[afl];decide⟩,Z⟩
def abr:CE lm 14:=cj 14
theorem akA(l:List Bz)(w:Nat->Int)(g:∀k x,l[k]?=A5 x->CE x (w k))(j:∀k,k<M l->0<=w k+14):∀k,k<=M l->CE (gx (l.take k)) (((B5 k).map λi=>w i+14).sum-(if k=0 then 0 else 14)):=by
 intro k
 induction k with
 |zero=>intro _;exact⟨0,ED,I⟩
 |succ k h=>
  intro m;have f:k<M l:=O;have c:l[k]?=A5 l[k]:=bi f;have e:(if k+1=0 then(0:Int) else 14)=14:=aa O;rw[qh l k _ c,List.range_succ,fy,List.sum_append,e];have b:=h O;have d:=g k _ c;by_cases a:k=0
  .subst a;rw[ab rfl];exact(b.app d).le I
  .rw[aa a];rw[aa a]at b;exact((b.app abr).app d).le U
theorem Ko(ns:List Nd)(E:Int->Bz)(s:Int)(o:0<=s)(l:List Int)(h:∀z∈l,CE (E z) (wN ns z-14-s)):CE (gx (l.map E)) (wK ns l-(if l=[] then 0 else 14+s*M l)):=by
 have d:=akA (l.map E) (λb=>wN ns (l.getD b 0)-14-s) (λb e p=>by
  grind) (λb n=>by
  have g:b<M l:=U;obtain⟨j,_,m⟩:=h l[b] (xd g);grind) (M (l.map E)) cJ
 rw[dH cJ,dr]at d;refine d.le ?_;have k:((B5 (M l)).map λa=>wN ns (l.getD a 0)-14-s+14).sum=wK ns l-s*M l:=by
  clear d h
  induction l using uC with
  |h0=>simp[wK]
  |h1 c e i=>
   rw[aB,Ia,List.range_succ,fy,List.sum_append,BB];have f:((B5 (M c)).map λa=>wN ns ((c++[e]).getD a 0)-14-s+14)=(B5 (M c)).map λa=>wN ns (c.getD a 0)-14-s+14:=by
    apply List.map_congr_left;grind
   rw[f,i];simp only[wI,List.map_nil,List.sum_cons,List.sum_nil,wK,er,jr cJ,fI,List.getElem?_cons_zero,jF];grind
 grind
theorem agI(x:Bz):fK x=(B5 x.size).map λi=>ae x i:=by
 apply List.ext_getElem?;intro i;unfold fK;rw[dw,dw];rcases aH i x.size with h|h
 .have a:i<M x.data.toList:=byS;rw[bi a,bi U];simp only[xa,List.getElem_range];rw[((gH x i _).1 (bi a)).2]
 simp_all
theorem F6{x:Bz}(h:0<x.size):fK x=ae x 0::(B5 (x.size-1)).map λi=>ae x (i+1):=by
 rw[agI,(O:x.size=(x.size-1)+1),List.range_succ_eq_map]
 simp_all
theorem agJ{x:Bz}(h:2<=x.size):fK x=ae x 0::ae x 1::(B5 (x.size-2)).map λi=>ae x (i+2):=by
 rw[F6 O,(O:x.size-1=(x.size-2)+1),List.range_succ_eq_map]
 simp_all
theorem aq9(n:Int)(u: -9223372036854775808<=n)(g:n<=9223372036854775807):Cs (Lz n) 70:=by
 unfold Lz;by_cases i:n<0
 .rw[ab i];obtain⟨d,p⟩:∃d,(n+18446744073709551616).toNat=d:=⟨_,rfl⟩;rw[p];obtain⟨j,k,l⟩:=aeJ d 16;have x:=vJ d 16;obtain⟨a,f⟩:∃a,hxO d 16=a:=⟨_,rfl⟩;rw[f]at j k l x⊢;clear f p i u g;have v:∀c∈(B5 (a.size-2)).map (λb=>ae a (b+2)),vw c=B3:=λc h=>by
   obtain⟨b,e,rfl⟩:=List.mem_map.1 h;have e:b<a.size-2:=List.mem_range.1 e;rw[Nat.add_comm,l b O];unfold hxd;have:∀q:Fin 16,vw (xD (q.val:Int))=B3:=Z;exact this ⟨d / 16 ^ (15-b)%16,Nat.mod_lt _ Z⟩
  refine⟨?_⟩;rw[agJ O,j,k];have:=Jn _ v;have A:pz 0 (48::120::(B5 (a.size-2)).map λb=>ae a (b+2))=34+pz 1 ((B5 (a.size-2)).map λb=>ae a (b+2)):=by rw[pz,pz,<-eH];rfl
  grind
 .rw[aa i];have o:=acH n.toNat;have y:(po n.toNat).size<=20:=by rw[agw];exact Lib.nDigits_le20 _ O
  obtain⟨a,f⟩:∃a,po n.toNat=a:=⟨_,rfl⟩;show Cs (po n.toNat) 70;rw[f]at o y⊢;obtain⟨m,r,B,s,_⟩:=o;refine⟨?_⟩;rw[F6 m];have z:=iq (r 0 m);have w:∀c∈(B5 (a.size-1)).map (λb=>ae a (b+1)),vw c=B3:=λc h=>by
   obtain⟨b,e,rfl⟩:=List.mem_map.1 h;have:b<a.size-1:=List.mem_range.1 e;unfold vw;grind
  by_cases t:ae a 0=48
  .have g:=s O;rw[g,t];show pz 0 [48]<=70;decide
  .have:=apf (c:=ae a 0) O w;grind
def as7(h:Do N)(i:N.k≠25\/N.k=25):CE (plB N) (fW N-32):=by
 have g:(0:Int)<=bgN N:=O;have b:fW N=300+8100*(bgN N:Int):=rfl;unfold plB
 repeat' split
 .exact(cj 28).le O
 .exact(cj 32).le O
 .exact(cj 44).le O
 .exact(aq9 N.n h.int.n.1 h.int.n.2).ce.le O
 .rename_i e;rcases h.x with⟨_,_,a⟩|⟨a,_⟩
  .exact a.ce.le O
  .omega
 .rename_i f;rcases h.x with⟨a,_⟩|⟨_,a|⟨a,d⟩⟩
  .omega
  .exact a.2.ce.le O
  .have c:bgN N=1:=by unfold bgN;rw[ab (by have:=a.lo;omega)]
   rw[b,c];exact(api N.x (by have:=a.lo;omega) a.dg a.b0 a.b1).ce.le O
 .exact(cj 36).le O
 .exact sy.le O
def adj{x:Bz}(h:CE x m):CE (LH x) (m+24):=(((cj (x:=⟨#[40]⟩) 12 Z).app h).app (cj (x:=⟨#[41]⟩) 12 Z)).le O
def Kr{E:Int->Bz}{k a:Int}(h:CE (E k) m):CE (uI ns E k a) (m+24):=by
 unfold uI;split
 .exact adj h
 .exact h.le O
def akB{E:Int->Bz}{k:Int}(h:CE (E k) m):CE (bsB ns E k) (m+24):=by
 unfold bsB;split
 .exact h.le O
 .exact adj h
def as8(ns:List Nd)(N:Nd):CE (unS ns N) 30:=by
 unfold unS
 repeat' split
 .exact cj 30
 .exact cj 30
 .exact cj 30
 .exact((cj (x:=⟨#[45]⟩) 12 Z).app (cj (x:=⟨#[32]⟩) 2 Z)).le Z
 .exact cj 30
def ara{op:Int}(h:1<=op/\op<=18):CE (eI (60+op)) 24:=by
 obtain⟨a,b⟩:=h;rcases(O:op=1\/op=2\/op=3\/op=4\/op=5\/op=6\/op=7\/op=8\/op=9\/op=10\/op=11\/op=12\/op=13\/op=14\/op=15\/op=16\/op=17\/op=18) with rfl|rfl|rfl|rfl|rfl|rfl|rfl|rfl|rfl|rfl|rfl|rfl|rfl|rfl|rfl|rfl|rfl|rfl;all_goals exact cj 24 (by decide+kernel)
def akC{nm:List Bz}(d:M nm<=3)(a:∀s∈nm,Shr s):CE (gx nm) 106:=by
 have:=akA nm (λ_=>26) (λe c b=>((a c (da b)).cs).ce) (λ_ _=>Z) (M nm) cJ;rw[dH cJ]at this;refine this.le ?_;rcases(O:M nm=0\/M nm=1\/M nm=2\/M nm=3) with h|h|h|h<;>rw[h]<;>decide
def arb(h:Do N):CE (nm0 N) 26:=by
 unfold nm0;rw[er];cases e:N.nm[0]? with
 |none=>exact sy.le Z
 |some a=>exact((h.s a (da e)).cs).ce
def arc(h:Do N):CE (afL N) 182:=by
 unfold afL;have a:CE (if N.op=1 then(if N.nm=[] then(⟨#[46,46,46]⟩:Bz) else lm++⟨#[46,46,46]⟩) else B6) 50:=by
  repeat' split
  .exact(cj 36).le Z
  .exact(abr.app (cj (x:=⟨#[46,46,46]⟩) 36 Z)).le Z
  .exact sy.le Z
 exact((((cj (x:=⟨#[40]⟩) 12 Z).app (akC h.nm h.s)).app a).app (cj (x:=⟨#[41,32]⟩) 14 Z)).le Z
structure CzE (ns:List Nd) (E:Int->Bz) (S:Int->Nat->Bz) (i:Nat) (tab:Nat):Prop where
 e:∀z:Nat,z<i->CE (E z) (wN ns z-32)
 s:∀z:Nat,z<i->CE (S z (tab+1)) (wN ns z-14)
section
variable {ns : List Nd} {E : Int → Bz} {S : Int → Nat → Bz} {i tab q : Nat}
def CzE.kid(h:CzE ns E S i tab)(d:Wzd ns)(k:q<=i)(a:q<M ns):∀z∈(nodeI ns q).ks,CE (E z) (wN ns z-32)/\CE (S z (tab+1)) (wN ns z-14):=by
 intro z g;obtain⟨j,f,rfl⟩:=oE g;obtain⟨c,b⟩:=iG (d.nb q a) a j f;rw[b.id];have:=b.lt;exact⟨h.e c O,h.s c O⟩
theorem as9(ks:List Int)(h:∀z∈ks,CE (S z (tab+1)) (wN ns z-14)):CE (Ha S ks tab) (wK ns ks+36):=by
 unfold Ha;split
 .rename_i c;subst c;exact(cj 24).le (by simp[wK])
 .have i:CE (jz (ks.map λa=>mF (tab+1)++S a (tab+1))) (wK ns ks):=by
   have:∀b:List Int,(∀z∈b,CE (S z (tab+1)) (wN ns z-14))->CE (jz (b.map λa=>mF (tab+1)++S a (tab+1))) (wK ns b):=by
    intro b
    induction b using uC with
    |h0=>intro _;exact⟨0,ED,by simp[wK]⟩
    |h1 d x g=>
     intro e;have c:jz ((d++[x]).map λa=>mF (tab+1)++S a (tab+1))=jz (d.map λa=>mF (tab+1)++S a (tab+1))++(mF (tab+1)++S x (tab+1)):=by
      unfold jz;grind
     rw[c,BB];exact((g λz f=>e z (List.mem_append.2 (.inl f))).app ((afm _).app (e x I))).le (by simp only[wK];omega)
   grind
  exact((((cj (x:=⟨#[123]⟩) 12 Z).app i).app (afm _)).app (cj (x:=⟨#[125]⟩) 12 Z)).le O
def CzE.blk(h:CzE ns E S i tab)(d:Wzd ns)(b:q<=i)(a:q<M ns):CE (Ha S (nodeI ns q).ks tab) (wN ns q-114):=by
 have:=as9 (ns:=ns) (nodeI ns q).ks (λe c=>(h.kid d b a e c).2);refine this.le ?_;rw[d.at_ q a];have:=F5 (nodeI ns q);omega
def sA(h:M N.ks=1):wK ns N.ks=wN ns (eo N 0):=by
 unfold eo
 match e:N.ks,h with
 |[a],_=>simp[wK]
def BC(h:M N.ks=2):wK ns N.ks=wN ns (eo N 0)+wN ns (eo N 1):=by
 unfold eo
 match e:N.ks,h with
 |[a,b],_=>simp[wK]
def akD(h:M N.ks=3):wK ns N.ks=wN ns (eo N 0)+wN ns (eo N 1)+wN ns (eo N 2):=by
 unfold eo
 match e:N.ks,h with
 |[a,b,c],_=>simp[wK];omega
theorem anx(h:0<M N.ks):wK ns N.ks=wK ns (N.ks.take (M N.ks-1))+wN ns (eo N (M N.ks-1)):=by
 have a:N.ks=N.ks.take (M N.ks-1)++[eo N (M N.ks-1)]:=by
  have b:=wG (M N.ks-1) N.ks;rw[ja O,FG,kD O]at b;grind
 rw[a,BB,<-a];simp[wK]
def anz(h:0<M N.ks):wK ns N.ks=wN ns (eo N 0)+wK ns (N.ks.drop 1):=by
 unfold eo
 match e:N.ks,h with
 |a::b,_=>rfl
theorem CzE.bod(h:CzE ns E S i tab)(d:Wzd ns)(f:∀N∈ns,Do N)(l:q<=i)(a:q<M ns)(j:(nodeI ns q).k=36):CE (LI ns S (nodeI ns q) tab) (wN ns q-82):=by
 obtain⟨e,m,n,o⟩:=ajE (mG (d.nb q a)).1 j;obtain⟨p,b⟩:=iG (d.nb q a) a 0 O;have c:=h.blk d (aK (fs b.lt) l) b.len;have g:Do (nodeI ns q):=f _ (by unfold nodeI;grind);unfold LI;rw[b.id];refine((arc g).app c).le ?_;rw[d.at_ q a,sA e,b.id];have:=F5 (nodeI ns q);omega
end
section
variable {ns : List Nd} {E : Int → Bz} {S : Int → Nat → Bz} {i tab q : Nat}
theorem adk(a:∀N∈ns,Do N)(b:q<M ns):Do (nodeI ns q):=a _ (by unfold nodeI;grind)
def ata(h:Do N)(b:N.k≠25):CE N.x 130:=by
 rcases h.x with⟨_,_,a⟩|⟨a,_⟩
 .exact a.ce
 omega
def ard(h:CzE ns E S i tab)(d:Wzd ns)(r:∀N∈ns,Do N)(w:q<=i)(b:q<M ns)(v:40<=(nodeI ns q).k/\(nodeI ns q).k<=42):CE (A4 ns E (nodeI ns q)) (wN ns q-32):=by
 have n:=(mG (d.nb q b)).1;have j:=λu s=>iG (d.nb q b) b u s;have y:=F5 (nodeI ns q);have t:=ata (adk r b) O;rw[d.at_ q b];unfold A4;by_cases l:(nodeI ns q).k=41
 .rw[ab l];obtain⟨g,_,_⟩:=og n;obtain⟨f,a⟩:=j 0 O;obtain⟨o,m⟩:=j 1 O;rw[BC g,a.id,m.id];have c:=h.e f (by have:=a.lt;omega);have p:=h.e o (by have:=m.lt;omega);exact((((cj (x:=⟨#[91]⟩) 12 Z).app c).app (cj (x:=⟨#[93,32,61,32]⟩) 28 Z)).app p).le O
 .rw[aa l];obtain⟨g,_,_⟩:=pq n (O:_);obtain⟨f,a⟩:=j 0 O;rw[sA g,a.id];have c:=h.e f (by have:=a.lt;omega);split
  .exact((((cj (x:=⟨#[46]⟩) 12 Z).app t).app (cj (x:=⟨#[32,61,32]⟩) 16 Z)).app c).le O
  .exact c.le O
theorem are(h:CzE ns E S i tab)(d:Wzd ns)(y:∀N∈ns,Do N)(b:i<M ns):CE (prE ns E S (nodeI ns i) tab) (wN ns i-32):=by
 have j:=(mG (d.nb i b)).1;have k:=λq z=>iG (d.nb i b) b q z;have av:=F5 (nodeI ns i);have ak:=adk y b;have C:∀(G:Bz)(al:Int),CE G 36->((nodeI ns i).k=28\/(nodeI ns i).k=29\/(nodeI ns i).k=31\/(nodeI ns i).k=32\/(nodeI ns i).k=41)->CE (I6 ns E (nodeI ns i) G al) (wN ns i-32):=by
  intro G al ap an;obtain⟨c,_,_⟩:=og j an;obtain⟨f,a⟩:=k 0 O;obtain⟨r,n⟩:=k 1 O;rw[d.at_ i b,BC c,a.id,n.id];unfold I6;rw[a.id,n.id];exact(((Kr (h.e f a.lt)).app ap).app (Kr (h.e r n.lt))).le O
 unfold prE;by_cases H:(nodeI ns i).k=28
 .rw[ab H];exact C _ _ (cj 36) O
 rw[aa H];by_cases L:(nodeI ns i).k=29
 .rw[ab L];exact C _ _ (cj 36) O
 rw[aa L];by_cases t:(nodeI ns i).k=31
 .rw[ab t];have:=ara ((og j).2.2 t);exact C _ _ (((cj (x:=⟨#[32]⟩) 2 Z).app this).app (cj (x:=⟨#[32]⟩) 2 Z) |>.le Z) O
 rw[aa t];by_cases ad:(nodeI ns i).k=30
 .rw[ab ad];obtain⟨c,_,_⟩:=pq j;obtain⟨f,a⟩:=k 0 O;rw[d.at_ i b,sA c,a.id];unfold unB;rw[a.id];exact((as8 ns (nodeI ns i)).app (Kr (h.e f a.lt))).le O
 rw[aa ad];by_cases af:(nodeI ns i).k=32
 .rw[ab af];obtain⟨c,_,_⟩:=og j;obtain⟨f,a⟩:=k 0 O;obtain⟨r,n⟩:=k 1 O;rw[d.at_ i b,BC c,a.id,n.id];exact((((akB (h.e f a.lt)).app (cj (x:=⟨#[91]⟩) 12 Z)).app (h.e r n.lt)).app (cj (x:=⟨#[93]⟩) 12 Z)).le O
 rw[aa af];by_cases ag:(nodeI ns i).k=33
 .rw[ab ag];obtain⟨c,_,_⟩:=pq j;obtain⟨f,a⟩:=k 0 O;rw[d.at_ i b,sA c,a.id];exact((akB (h.e f a.lt)).app ((cj (x:=⟨#[46]⟩) 12 Z).app (ata ak O))).le O
 rw[aa ag];have sepK:=λ(l:List Int) (A:∀m∈l,m∈(nodeI ns i).ks)=>Ko ns E 18 Z l (λm o=>(h.kid d cJ b m (A m o)).1.le O);have sepL:∀(l:List Int),(∀m∈l,m∈(nodeI ns i).ks)->CE (gx (l.map E)) (wK ns l):=λl A=>(sepK l A).le O;by_cases u:(nodeI ns i).k=34
 .rw[ab u];obtain⟨c,_⟩:=J7 j u;obtain⟨f,a⟩:=k 0 O;rw[d.at_ i b,anz O,a.id];exact((((akB (h.e f a.lt)).app (cj (x:=⟨#[40]⟩) 12 Z)).app (sepL ((nodeI ns i).ks.drop 1) (λm o=>List.mem_of_mem_drop o))).app (cj (x:=⟨#[41]⟩) 12 Z)).le O
 rw[aa u];by_cases v:(nodeI ns i).k=35
 .rw[ab v];unfold ahJ;have c:=Fy j v;have p:=Ko ns (λF=>A4 ns E (nodeI ns F)) 18 Z (nodeI ns i).ks (λm o=>by
   obtain⟨q,z,rfl⟩:=oE o;obtain⟨aL,B⟩:=k q z;have p:=ae5 _ 0 c q O O;rw[B.id]at p⊢;exact(ard h d y (fs B.lt) B.len p).le O)
  have am:CE (gx ((nodeI ns i).ks.map λF=>A4 ns E (nodeI ns F))) (wK ns (nodeI ns i).ks):=p.le O;rw[d.at_ i b];exact(((cj (x:=⟨#[123]⟩) 12 Z).app am).app (cj (x:=⟨#[125]⟩) 12 Z)).le O
 rw[aa v];by_cases w:(nodeI ns i).k=36
 .rw[ab w];exact((cj (x:=⟨#[102,110]⟩) 20 Z).app (h.bod d y cJ b w)).le O
 rw[aa w];by_cases K:(nodeI ns i).k=37
 .rw[ab K];obtain⟨c,_,_⟩:=pq j;obtain⟨f,a⟩:=k 0 O;rw[d.at_ i b,sA c,a.id];exact(adj (h.e f a.lt)).le O
 rw[aa K];rcases aa6 j with g|g|g
 .have s:plB (nodeI ns i)=B6:=by
   unfold plB;grind
  have ar:=afk d b;rw[s];exact sy.le O
 .have ao:=ajF j O;rw[d.at_ i b];have:(nodeI ns i).ks=[]:=List.length_eq_zero_iff.1 ao;rw[this];exact(as7 ak O).le (by simp[wK])
 .have s:plB (nodeI ns i)=B6:=by
   unfold plB;grind
  have ar:=afk d b;rw[s];exact sy.le O
end
section
variable {ns : List Nd} {E : Int → Bz} {S : Int → Nat → Bz} {i tab q : Nat}
def anA{m:Int->Bz->Bz}(h:CzE ns E S i tab)(d:Wzd ns)(e:i<M ns)(v:(nodeI ns i).k=7)
  (t:∀(z:Nat)(w:Bz),z<i->(nodeI ns z).k=7->CE w 36->CE (m z w) (wN ns z-14)) (o:Bz) (A:CE o 36):CE (Ec ns E S m (nodeI ns i) o tab) (wN ns i-14):=by
 have y:=(mG (d.nb i e)).1;have l:=λB u=>iG (d.nb i e) e B u;have L:=F5 (nodeI ns i);obtain⟨F,G,H,K,s⟩:=ajH y v;obtain⟨p,b⟩:=l 0 O;obtain⟨C,a⟩:=l 1 O;have q:=h.e p b.lt;have r:=h.blk d (fs a.lt) a.len;unfold Ec;rw[b.id,a.id,d.at_ i e];have j:=((A.app q).app (cj (x:=⟨#[32]⟩) 2 Z)).app r;rcases aH (nodeI ns i).ks.length 3 with g|g
 .rw[ab g,BC O,b.id,a.id];exact(j.app sy).le O
 .rw[aa O,akD O,b.id,a.id];obtain⟨n,c⟩:=l 2 O;rw[c.id]at s⊢;by_cases f:(nodeI ns n).k=7
  .rw[ab f];have:=t n ⟨#[32,101,108,105,102,32]⟩ c.lt f (cj 36);exact(j.app this).le O
  .rw[aa f];have:=h.blk d (fs c.lt) c.len;exact(j.app ((cj (x:=⟨#[32,101,108,115,101,32]⟩) 36 Z).app this)).le O
theorem arf{F:Int->Bz->Bz}(h:CzE ns E S i tab)(d:Wzd ns)(an:∀N∈ns,Do N)(b:i<M ns)
  (a0:(nodeI ns i).k=7->CE (F (-1) ⟨#[105,102,32]⟩) (wN ns i-14)):CE (prS ns E S F (nodeI ns i) tab) (wN ns i-14):=by
 have p:=(mG (d.nb i b)).1;have o:=λaL ar=>iG (d.nb i b) b aL ar;have a2:=F5 (nodeI ns i);have C:=adk an b;have nm0:=arb C;have u:=akC C.nm C.s;have a1:=afk d b;have sepK:=λ(q:List Int) (r:∀l∈q,l∈(nodeI ns i).ks)=>Ko ns E 18 Z q (λl j=>(h.kid d cJ b l (r l j)).1.le O);have sepL:∀(q:List Int),(∀l∈q,l∈(nodeI ns i).ks)->CE (gx (q.map E)) (wK ns q):=λq r=>(sepK q r).le O;unfold prS;by_cases H:(nodeI ns i).k=1
 .rw[ab H];exact(h.blk d cJ b).le O
 rw[aa H];by_cases ag:(nodeI ns i).k=2
 .rw[ab ag,d.at_ i b];split
  .rename_i e;rw[e];exact(((cj (x:=⟨#[108,101,116,32]⟩) 26 Z).app u).app sy).le (by simp[wK];omega)
  .rename_i e;have:=sepK (nodeI ns i).ks (λl j=>j);rw[aa e]at this;have r:1<=(nodeI ns i).ks.length:=List.length_pos_iff.2 e;exact(((cj (x:=⟨#[108,101,116,32]⟩) 26 Z).app u).app ((cj (x:=⟨#[32,61,32]⟩) 16 Z).app this)).le O
 rw[aa ag];by_cases y:(nodeI ns i).k=3
 .rw[ab y,d.at_ i b];obtain⟨c,m,t⟩:=FA p y;obtain⟨f,a⟩:=o 0 O;rw[sA c,a.id];exact((((cj (x:=⟨#[99,111,110,115,116,32]⟩) 46 Z).app nm0).app (cj (x:=⟨#[32,61,32]⟩) 16 Z)).app (h.e f a.lt)).le O
 rw[aa y];by_cases z:(nodeI ns i).k=4
 .rw[ab z,d.at_ i b];obtain⟨c,m,t⟩:=ac1 p z;obtain⟨f,a⟩:=o 0 O;rw[sA c];rw[a.id]at m⊢;exact(((cj (x:=⟨#[102,110,32]⟩) 22 Z).app nm0).app (h.bod d an (fs a.lt) a.len m)).le O
 rw[aa z];by_cases ak:(nodeI ns i).k=5
 .rw[ab ak,d.at_ i b];have ap:wK ns (nodeI ns i).ks=wK ns ((nodeI ns i).ks.take (nodeI ns i).n.toNat)+wK ns ((nodeI ns i).ks.drop (nodeI ns i).n.toNat):=by rw[<-BB,wG]
  rw[ap];exact(((sepL ((nodeI ns i).ks.take (nodeI ns i).n.toNat) (λl j=>xh j)).app (cj (x:=⟨#[32,61,32]⟩) 16 Z)).app (sepL ((nodeI ns i).ks.drop (nodeI ns i).n.toNat) (λl j=>List.mem_of_mem_drop j))).le O
 rw[aa ak];by_cases al:(nodeI ns i).k=6
 .rw[ab al,d.at_ i b];obtain⟨c,m⟩:=Hw p O;obtain⟨f,a⟩:=o 0 O;rw[sA c,a.id];exact(h.e f a.lt).le O
 rw[aa al];by_cases ao:(nodeI ns i).k=7
 .grind
 rw[aa ao];by_cases A:(nodeI ns i).k=8
 .rw[ab A,d.at_ i b];obtain⟨c,m,t⟩:=FC p A;obtain⟨f,a⟩:=o 0 O;obtain⟨G,g⟩:=o 1 O;rw[BC c,a.id,g.id];exact((((cj (x:=⟨#[119,104,105,108,101,32]⟩) 42 Z).app (h.e f a.lt)).app (cj (x:=⟨#[32]⟩) 2 Z)).app (h.blk d (fs g.lt) g.len)).le O
 rw[aa A];by_cases B:(nodeI ns i).k=9\/(nodeI ns i).k=10
 .rw[ab B,d.at_ i b];have r:0<(nodeI ns i).ks.length:=by
   rcases B with e|e
   .obtain⟨c,m,t,am⟩:=ac2 p e;omega
   .obtain⟨c,m,t,am⟩:=J8 p e;omega
  obtain⟨G,g⟩:=o ((nodeI ns i).ks.length-1) O;rw[anx r,g.id];have av:CE (if(nodeI ns i).k=9 then(⟨#[32,61,32]⟩:Bz) else⟨#[32,105,110,32]⟩) 24:=by
   split
   .exact cj 24
   .exact cj 24
  exact((((((cj (x:=⟨#[102,111,114,32]⟩) 26 Z).app u).app av).app (sepL ((nodeI ns i).ks.take ((nodeI ns i).ks.length-1)) (λl j=>xh j))).app (cj (x:=⟨#[32]⟩) 2 Z)).app (h.blk d (fs g.lt) g.len)).le O
 rw[aa B];by_cases K:(nodeI ns i).k=11
 .rw[ab K];exact(cj 60).le O
 rw[aa K];by_cases L:(nodeI ns i).k=12
 .rw[ab L];exact(cj 60).le O
 rw[aa L];by_cases ad:(nodeI ns i).k=13
 .rw[ab ad,d.at_ i b];split
  .rename_i e;rw[e];exact((cj (x:=⟨#[114,101,116,117,114,110]⟩) 52 Z).app sy).le (by simp[wK];omega)
  .exact((cj (x:=⟨#[114,101,116,117,114,110]⟩) 52 Z).app ((cj (x:=⟨#[32]⟩) 2 Z).app (sepL _ (λl j=>j)))).le O
 rw[aa ad];by_cases v:(nodeI ns i).k=14
 .rw[ab v,d.at_ i b];obtain⟨c,m,t,am⟩:=ac3 p v;obtain⟨f,a⟩:=o 0 O;obtain⟨G,g⟩:=o 1 O;rw[BC c,a.id,g.id];exact((((((cj (x:=⟨#[116,114,121,32]⟩) 26 Z).app (h.blk d (fs a.lt) a.len)).app (cj (x:=⟨#[32,99,97,116,99,104,32]⟩) 50 Z)).app u).app (cj (x:=⟨#[32]⟩) 2 Z)).app (h.blk d (fs g.lt) g.len)).le O
 rw[aa v];by_cases w:(nodeI ns i).k=15
 .rw[ab w,d.at_ i b];obtain⟨c,m⟩:=FD p w;obtain⟨f,a⟩:=o 0 O;rw[sA c,a.id];exact((cj (x:=⟨#[116,104,114,111,119,32]⟩) 42 Z).app (h.e f a.lt)).le O
 rw[aa w];by_cases af:(nodeI ns i).k=16
 .rw[ab af,d.at_ i b];obtain⟨c,m⟩:=Hw p O;obtain⟨f,a⟩:=o 0 O;rw[sA c,a.id];exact((cj (x:=⟨#[100,101,102,101,114,32]⟩) 42 Z).app (h.e f a.lt)).le O
 rw[aa af];exact sy.le O
end
theorem aom(d:Wzd ns)(j:∀N∈ns,Do N):∀(f i tab:Nat),i<M ns->
  CE (A7 ns f i tab) (wN ns i-32)/\CE (ve ns f i tab) (wN ns i-14)/\((nodeI ns i).k=7->∀w:Bz,CE w 36->CE (Ad ns f i w tab) (wN ns i-14))
 |0,i,tab,e=>by
  have:=afk d e;refine⟨?_,?_,λ_ w _=>?_⟩;all_goals (first|rw[A7]|rw[ve]|rw[Ad])
  all_goals exact sy.le O
 |f+1,i,tab,e=>by
  have l:=λ(a g:Nat) (c:a<i)=>aom d j f a g O;have m:CzE ns (λk=>A7 ns f k tab) (λk g=>ve ns f k g) i tab:=⟨λa c=>(l a tab c).1,λa c=>(l a (tab+1) c).2.1⟩;have n:(nodeI ns i).k=7->∀w:Bz,CE w 36->CE (Ec ns (λk=>A7 ns f k tab) (λk g=>ve ns f k g) (λk w=>Ad ns f k w tab) (nodeI ns i) w tab) (wN ns i-14):=λb w h=>
   anA m d e b (λa w c b h=>(l a tab c).2.2 b w h) w h
  refine⟨?_,?_,?_⟩
  .rw[A7];exact are m d j e
  .rw[ve];exact arf m d j e (λb=>n b _ (cj 36))
  .intro b w h;rw[Ad];grind
theorem akE(h:(dF ns).1=0)(n:∀N∈ns,Do N):CE (nF ns) (Wp ns (M ns)):=by
 have a:=aq7 h;have u:=a.len;have g:((M ns:Int)-1)=((M ns-1:Nat):Int):=O;have p:=a.root;rw[g,a.at_ (M ns-1) O]at p;have v:=F5 (nodeI ns ((M ns-1:Nat):Int));unfold nF;rw[g];have s:∀c:List Int,(∀d∈c,d∈(nodeI ns ((M ns-1:Nat):Int)).ks)->CE (jz (c.map λb=>ve ns (M ns) b 0++⟨#[10]⟩)) (wK ns c):=by
  intro c
  induction c using uC with
  |h0=>intro _;exact⟨0,ED,by simp[wK]⟩
  |h1 f x q=>
   intro i;have l:jz ((f++[x]).map λb=>ve ns (M ns) b 0++⟨#[10]⟩)=jz (f.map λb=>ve ns (M ns) b 0++⟨#[10]⟩)++(ve ns (M ns) x 0++⟨#[10]⟩):=by
    unfold jz;grind
   obtain⟨r,o,m⟩:=oE (i x I);obtain⟨t,k⟩:=iG (a.nb _ O) O r o;have j:=(aom a n (M ns) t 0 k.len).2.1;rw[<-k.id,m]at j;rw[l,BB];exact((q λd e=>i d (List.mem_append.2 (.inl e))).app (j.app (cj (x:=⟨#[10]⟩) 12 Z))).le (by simp only[wK];omega)
 exact(s _ (λd e=>e)).le O
def at7{e:Bz}{ts:List Tk}(h:LoC s ts e):2*e.size<=F9 ts:=by
 induction h with
 |nil=>exact iz _
 |@cons d f e ts b h m=>
  have i:F9 (d::ts)=wTk d+F9 ts:=by unfold F9;simp
  have n:2*f.size<=wTk d:=by
   unfold wTk;obtain⟨l,b⟩:=b;have g:∀a:Bz,a∈Jt\/a∈aao\/a∈sepL->a.size<=5:=λa c=>by
    simp only[Jt,aao,sepL,gG,iC,iD]at c;rcases c with(rfl|rfl|rfl|rfl|rfl)|(rfl|rfl|rfl)|(rfl|rfl|rfl|rfl|rfl|rfl)<;>decide
   rw[aa l];rcases b with⟨k,b⟩|⟨k,a,c,rfl⟩
   .have:=g f (.inr (.inr b));omega
   .have:=g a (c.elim .inl λj=> .inr (.inl j.2));rw[ax,im];omega
  rw[i,ax];omega
def akF(ts:List Tk)(i:Nat):F9 (ts.take i)<=F9 ts:=by
 have:F9 ts=F9 (ts.take i)+F9 (ts.drop i):=by
  unfold F9;rw[<-List.sum_append,<-fy,wG]
 omega
def akG(h:GdX t):t.size<=51900:=by
 obtain⟨a,nd,o,n,f,d,_⟩:=h;have i:=at7 d;have j:=akF (tokF (iH a)).1 f;have k:=akz (iH a);have l:(pz 0 (fK (iH a)):Int)<=103800:=by
  have b:pz 0 (fK (⟨#[]⟩:Bz))=0:=rfl;unfold iH;split
  .rename_i c;unfold I7;split
   .rw[show pz 0 (fK B6)=0 from rfl];decide
   .obtain⟨m,e,g⟩:=akE c nd;have:=e.out;rw[aq8]at g;omega
  .rw[b];decide
 omega
abbrev cuW(W:B0)(C:Cd)(a:Option Addr)(cap:Nat):B0:=W.alloc (A3 #[Ax a C.len cap,X Y 0,X .u64 0,X Y 0] 38)
def arh{a:Option Addr}(cap:Nat)(h:Code C W.heap.size W a):Cy C ⟨W.heap.size,W.heap.size,0,a,cap⟩ (cuW W C a cap) (cuW W C a cap) ⟨0,0,0⟩:=
 have b:=de W (A3 #[Ax a C.len cap,X Y 0,X .u64 0,X Y 0] 38)
 ⟨⟨⟨cJ,b.size⟩,h.below b,ay W _⟩,ai _ _⟩
def Dx(C:Cd)(f:FuncId)(b:List Br)(t:Bz):Prop:=∀ ⦃W:B0⦄ ⦃a:Option Addr⦄ ⦃c:Nat⦄,Code C W.heap.size W a->B7 A2 f (b++[H3 a C.len c]).toArray W λd w'=>d= B1 (A0 t)/\A9 W.heap.size W w'
def anB:TkA:=λa _ _ _ b=>uG b _ (Cj a)
inductive Edt (C:Cd) (t:Bz) (i J1:Nat) (c3:Cr):Int->Bz->Cr->Prop
 |put {p:Bz}{c4:Cr}:p.size<=4010->Rc C 30 [] c3 (.string p) c4->Edt C t i J1 c3 0 (t.extract 0 i++p++t.extract i t.size) c4
 |cut:Edt C t i J1 c3 1 (t.extract 0 i++t.extract J1 t.size) c3
 |swap {p:Bz}{c4:Cr}:p.size<=4010->Rc C 30 [] c3 (.string p) c4->Edt C t i J1 c3 2 (t.extract 0 i++p++⟨#[32]⟩++t.extract J1 t.size) c4
 |stop:Edt C t i J1 c3 3 (t.extract 0 i) c3
 |byte {p:Bz}{c4:Cr}:p.size<=4010->Rc C 31 [.int .i64 1] c3 (.string p) c4->Edt C t i J1 c3 4 (t.extract 0 i++p++t.extract J1 t.size) c4
inductive Edc (C:Cd):Nat->Bz->Cr->Bz->Cr->Prop
 |nil (t:Bz) (c:Cr):Edc C 0 t c t c
 |cons {n i q J1:Nat}{t t1 t2:Bz}{c c1 c2 c3 c4 c5:Cr}{u:Int}:i<=t.size->q<4->(t.size<i+q/\J1=t.size)\/(¬t.size<i+q/\J1=i+q)->t.size<=800000->Rc C 29 [.int .i64 ((t.size:Int)+1)] c (.int .i64 i) c1->Rc C 29 [.int .i64 4] c1 (.int .i64 q) c2->Rc C 29 [.int .i64 5] c2 (.int .i64 u) c3->Edt C t i J1 c3 u t1 c4->Edc C n t1 c4 t2 c5->Edc C (n+1) t c t2 c5
def adl(t:Bz)(i j:Nat):(t.extract i j).size<=t.size:=by rw[im];omega
def edc(C:Cd):∀(n:Nat)(t:Bz)(c:Cr),n<=2->t.size+4020*n<=760000->0<=c.p->c.p<=100000000-400*n->0<=c.r->∃(f:Bz) (c':Cr),f.size<=t.size+4020*n/\(0<=c'.p/\c'.p<=c.p+400*n/\0<=c'.r/\(c.r<=3->c'.r<=3))/\Edc C n t c f c':=by
 intro n
 induction n with
 |zero=>exact λt c _ _ z _ A=>⟨t,c,cJ,byT,.nil t c⟩
 |succ n H=>
  intro t c ak an F al am;obtain⟨a,w,E,z,s⟩:=anE C c ((t.size:Int)+1) O O F O;obtain⟨a,rfl⟩:=eJ E.1;obtain⟨g,x,G,A,u⟩:=gi C w 4 Z Z O O;obtain⟨g,rfl⟩:=eJ G.1;obtain⟨h,e,ao,ad,v⟩:=gi C x 5 Z Z O O;obtain⟨d,B,af,ag⟩:∃d,((t.size<a+g/\d=t.size)\/(¬t.size<a+g/\d=a+g))/\a<=d/\d<=t.size:=by
   by_cases o:t.size<a+g
   .exact⟨t.size,.inl ⟨o,rfl⟩,O,cJ⟩
   .exact⟨a+g,.inr ⟨o,rfl⟩,O,O⟩
  have s0:(t.extract 0 a).size=a:=by rw[im];omega
  have ap:(t.extract a t.size).size=t.size-a:=by rw[im];omega
  have ar:(t.extract d t.size).size=t.size-d:=by rw[im];omega
  have j:∀{m:Bz}{b:Cr},m.size<=t.size+4020->(e.p<=b.p/\b.p<=e.p+300/\e.r<=b.r/\(e.r<=3->b.r<=3))->Edt C t a d e h m b->∃(f:Bz) (c':Cr),f.size<=t.size+4020*(n+1)/\(0<=c'.p/\c'.p<=c.p+400*((n+1:Nat):Int)/\0<=c'.r/\(c.r<=3->c'.r<=3))/\Edc C (n+1) t c f c':=λ{m b} k l y=>by
   obtain⟨f,c',K,L,q⟩:=H m b O O O O O;exact⟨f,c',O,O,.cons O O B O s u v y q⟩
  rcases(O:h=0\/h=1\/h=2\/h=3\/h=4) with rfl|rfl|rfl|rfl|rfl
  .obtain⟨p,b,k,l,i⟩:=afi C e O O O;exact j (by simp only[ax];omega) l (.put k i)
  .exact j (by simp only[ax];omega) O .cut
  .obtain⟨p,b,k,l,i⟩:=afi C e O O O;exact j (by simp only[ax];have:(⟨#[32]⟩:Bz).size=1:=rfl;omega) l (.swap k i)
  .exact j O O .stop
  .obtain⟨p,b,k,l,i⟩:=Iz C e 1 Z O O;exact j (by simp only[ax];omega) O (.byte O i)
def ari(C:Cd)(c:Cr)(o:0<=c.p/\c.p<=100)(a0:c.r=0):∃(t:Bz) (c':Cr),(t.size<=760000/\∃s,GdX s/\t.size<=s.size+8040)/\(0<=c'.p/\c'.p<=30000000)/\Rcw C 10 [] c (A0 t) c':=by
 obtain⟨s,bk,u,bl,bc⟩:=aq4 anB C c o a0;obtain⟨x,ak,aL,bn,bd⟩:=gi C bk 3 Z Z O O;obtain⟨x,rfl⟩:=eJ aL.1;obtain⟨t,al,bo,bp,j⟩:=edc C x s ak O (by have:=u.1;omega) O O O;refine⟨t,al,⟨by have:=u.1;omega,s,u.2,O⟩,O,λba bj an=>?_⟩;have i:=an.cy;have bt:x<=2:=O;clear an u bl bn bo bp o a0 aL;go_in;go_wp2_with fail;refine i.run bc λw1 H=>?_;clear i;go_wp2_with fail;refine H.run bd.rw λck K=>?_;clear H;go_wp2;go_loopw [3,4] (λbD B wr=>∃(b:Nat) (a:Bz) (y:Cr),bD= A0 a/\B= X Y b/\b<=2/\Cy C ba bj wr y/\Edc C b a y t al) (λ_ B _=>(C2 B).toNat)
 case atStart=>exact⟨x,s,ak,rfl,rfl,bt,K,j⟩
 case round=>
  clear K j;obtain⟨b,a,y,rfl,rfl,av,i,j⟩:=hrel;cases j with
  |nil=>
   go_wp2;go_ret;exact⟨rfl,i.cu,i.bel⟩
  |@cons b g a7 h _ cg _ _ bE b0 b1 b2 _ ch b7 cc br cd bf bg bh bb F=>
   have ca:(0:Int)<((b+1:Nat):Int):=O;have cf:IntKind.i64.wrap (((b+1:Nat):Int)-1)=(b:Int):=by rw[bJ];omega
   have ce:IntKind.i64.wrap ((a.size:Int)+1)=(a.size:Int)+1:=by rw[bJ];omega
   obtain⟨w,bs⟩:=aw (g+a7);have bA:IntKind.i64.wrap ((g:Int)+(a7:Int))=(w:Int):=by rw[bJ];omega
   have b8:(0:Int)<=(g:Int):=O;have b9:(g:Int)<=(a.size:Int):=O;have ap:(((a.size:Int)<(w:Int)/\(a.size:Int)=(h:Int))\/(¬(a.size:Int)<(w:Int)/\(w:Int)=(h:Int)))/\h<=a.size:=O;have b4:(0:Int)<=(h:Int):=O;have b6:(h:Int)<=(a.size:Int):=O;have bv:=adl a 0 g;have bw:=adl a g a.size;have bx:=adl a h a.size;go_wp2_with fail;refine i.run bf.rw λcl L=>?_;clear i;go_wp2_with fail;refine L.run bg.rw λcm ad=>?_;clear L br bs;have d:=aj F;have m:=aj av;have cb:b<=2:=O;clear F av;obtain⟨e,k⟩:=aw (a.extract 0 g);obtain⟨j,ao⟩:=aw (a.extract g a.size);obtain⟨D,v⟩:=aw (a.extract h a.size);rw[k]at bv;rw[ao]at bw;rw[v]at bx;rcases ap.1 with⟨ar,A⟩|⟨ar,A⟩;all_goals
    have G:=aj A;clear A;go_wp2_with fail;rw[G.out];refine ad.run bh.rw λa8 af=>?_;have E:=aj af;clear ad af ar G bA ap;have ag:=bu (ai a8.heap.size a8);have q:=aj (E.out.below ag);clear ag;cases bb with
    |@put p _ o n=>
     rw[k,ao]at d;go_wp2_with fail;go_region_held3 (λ_=>True) (trivial) ((go_at_call 30;refine q.out.run n.rw λa9 f=>?_;have l:=aj f;clear f;have z:¬9223372036854775807<e.size+p.size:=O;have am:¬9223372036854775807<e.size+p.size+j.size:=O))
     go_wp2;go_roundw
     case rel=>exact⟨b,_,_,rfl,by go_num,by have:=m.out;omega,l.out,d.out⟩
     case measure=>simp[C2]
    |cut=>
     rw[k,v]at d;have z:¬9223372036854775807<e.size+D.size:=O;go_wp2_with fail;go_region_held3 (λ_=>True) (trivial) (fail)
     go_wp2;go_roundw
     case rel=>exact⟨b,_,_,rfl,by go_num,by have:=m.out;omega,q.out,d.out⟩
     case measure=>simp[C2]
    |@swap p _ o n=>
     rw[k,v]at d;go_wp2_with fail;go_region_held3 (λ_=>True) (trivial) ((go_at_call 30;refine q.out.run n.rw λa9 f=>?_;have l:=aj f;clear f;have z:¬9223372036854775807<e.size+p.size:=O;have am:¬9223372036854775807<e.size+p.size+1:=O;have b3:¬9223372036854775807<e.size+p.size+1+D.size:=O))
     go_wp2;go_roundw
     case rel=>exact⟨b,_,_,rfl,by go_num,by have:=m.out;omega,l.out,d.out⟩
     case measure=>simp[C2]
    |stop=>
     rw[k]at d;go_wp2;go_roundw
     case rel=>exact⟨b,_,_,rfl,by go_num,by have:=m.out;omega,E.out,d.out⟩
     case measure=>simp[C2]
    |@byte p _ o n=>
     rw[k,v]at d;go_wp2_with fail;go_region_held3 (λ_=>True) (trivial) ((go_at_call 31;refine q.out.run n.rw λa9 f=>?_;have l:=aj f;clear f;have z:¬9223372036854775807<e.size+p.size:=O;have am:¬9223372036854775807<e.size+p.size+D.size:=O))
     go_wp2;go_roundw
     case rel=>exact⟨b,_,_,rfl,by go_num,by have:=m.out;omega,l.out,d.out⟩
     case measure=>simp[C2]
def atb(g:s.size<=65536){toks:List Tk}(h:jn s=(toks,st, -1))(f:(feedL st 6).2=B3):∃m R a,PF s toks m R a:=by
 obtain⟨m,R,a,b,c,d,e⟩:=aqA h f;exact⟨m,R,a,asn g h b c d e⟩
theorem Dv(s:Bz):∀(f:Nat)(st:List Int)(p:Nat)(l:Int)(b:List Tk),¬0<=(wlk s f st p l b).2.2->(wlk s f st p l b).2.2= -1
 |0,st,p,l,b,h=>by simp[wlk]at h
 |f+1,st,p,l,b,h=>by
  rw[wlk]at h⊢;split
  .rfl
  .rename_i d;rw[aa d]at h;split
   .rename_i c;rw[ab c]at h;split
    .rename_i a;rw[ab a]at h;exact Dv s f _ _ _ _ h
    .rename_i a;rw[aa a]at h;exact Dv s f _ _ _ _ h
   .rename_i c;rw[aa c]at h;split
    .rename_i a;rw[ab a]at h;split
     .rename_i h3;rw[ab h3]at h;exact Dv s f _ _ _ _ h
     grind
    grind
def akH(s:Bz)(h:¬0<=(jn s).2.2):(jn s).2.2= -1:=Dv s _ _ _ _ _ h
theorem akI(s:Bz):∃c a ns,Out s c a ns:=by
 by_cases j:65536<s.size
 .exact⟨_,_,_,.big j⟩
 by_cases b:0<=(jn s).2.2
 .exact⟨_,_,_,.at_ O b (by unfold tokF;grind)⟩
 by_cases e:(feedL (jn s).2.1 6).2=B3
 .obtain⟨⟨i,l,k⟩,d⟩:∃g,jn s=g:=⟨_,rfl⟩;rw[d]at b e;have f:=akH s U;rw[d]at f;simp only at f b e;subst f;obtain⟨n,g,m,h⟩:=atb O d e;exact⟨_,_,_,.ok (toks:=i) O (by unfold tokF;grind) h⟩
 .exact⟨_,_,_,.at_ (z:=(s.size:Nat)) O O (by unfold tokF;grind)⟩
theorem afn(p:Addr)(w:B0):
  CallsD A2 11 #[E0 (A5 p)] .returning w λe d w'=>e= B1 (E2 #[])/\d= .returning/\w'=w.alloc (A3 #[X Y 0] 41):=by
 have b:=λw=>aoF w;refine callsD_of_wpS func11 rfl λa f c=>?_;apply wpS_seq;apply zy;simp[wpOpsS,go_sem,recoverD,c,ntmps11,Exit.thenS,b];apply wpS_seq;apply zy;simp[wpOpsS,go_sem,Exit.thenS,iA];refine wpS_cond (t:=B2) (by simp[Act.eval]) ?_;simp only[C3,if_false];refine wpS_of_wp (wp_skip ?_);cases a
 simp_all [bodyPostS,results,results11]
def zi(lo:Nat):∀(ks:Fo),LCs lo ks
 | .nil=>trivial
 | .cons N k r=>⟨Ci (zi lo k),zi lo r⟩
def F7(f:Mb->Br):∀(L:List Mb),(L.flatMap λx=>(f x).ownBlock.toList).Nodup->∀(i j:Nat)(a b:Br),i<j->(L.map f)[i]?=A5 a->(L.map f)[j]?=A5 b->a.ownBlock=A6\/a.ownBlock≠b.ownBlock
 |[],h,i,j,a,b,k,c,d=>by simp at c
 |x::r,h,i,0,a,b,k,c,d=>O
 |x::r,h,0,j+1,a,b,k,c,d=>by
  simp at c;subst c;rw[zv,rl]at h;cases hx:(f x).ownBlock with
  |none=>exact .inl rfl
  |some g=>
   right;intro e;have m:=da (show(r.map f)[j]?=A5 b by simpa using d);have⟨o,n,l⟩:=List.mem_map.1 m;exact h.2.2 g (by simp[hx]) g (List.mem_flatMap.2 ⟨o,n,by rw[l,<-e];simp⟩) rfl
 |x::r,h,i+1,j+1,a,b,k,c,d=>by
  rw[zv,rl]at h;exact F7 f r h.2.1 i j a b O (by simpa using c) (by simpa using d)
def Cl(f:Mb->Br)(h:(L.flatMap λx=>(f x).ownBlock.toList).Nodup):ahC (L.map f):=λb c a d j e i=>by
 rcases aH b c with q|q
 .exact F7 f L h b c a d q e i
 .rcases F7 f L h c b d a O i e with g|g
  .cases ho:a.ownBlock with
   |none=>exact .inl rfl
   |some k=>right;rw[g];simp
  .exact .inr (dy g)
def arj{lo:Nat}{v:Br}(h:Lw w lo v L)(hn:(nB' L).Nodup)(e:(kB L).Nodup):qw w lo w.heap.size v L:=
 ⟨h.row,λa b=>(h.row.lt a b).2,λd c=>⟨(h.each d c).1,(h.each d c).2,λa b=>((h.each d c).1.lt a b).2,λa b=>((h.each d c).2.lt a b).2⟩,Cl _ hn,Cl _ e⟩
def Dw(w:B0)(lo e:Nat):qw w lo e (Ax A6 0 0) []:=⟨dA _ _ _ _,λi d=>(by simp[H0]at d),λj f=>(by cases f),λg h b c _ a=>(by simp at a),λg h b c _ a=>(by simp at a)⟩
def PiP(w:B0)(c a:Int)(ns:List Nd)(e:Ending)(b:B0):Prop:=∃v L,e= B1 (psV c a v)/\L.map Mb.N=ns/\qw b w.heap.size b.heap.size v L/\A9 w.heap.size w b
structure PL (w:B0):Prop where
 lay:Kv w
 gn:12<=w.heap.size
 pow:∃tt fr,w.heap[1]?=A5 (.cells DI tt fr)
 asc:F2 A2 w "strings.asciiSpace" .u8 Ck
def PL.below{d:B0}{B:Nat}(h:PL w)(a:A9 B w d)(b:w.heap.size<=B):PL d:=by
 have⟨f,e,c⟩:=h.pow;exact⟨h.lay.below a b,aK h.gn a.size,⟨f,e,(a.block _ (gF (ah c) b)).trans c⟩,A1 h.asc a b⟩
def ark{c:Nat}{cs:Array Br}(h:Gp c W W')(l:W.heap[c]?=A5 (A3 cs 85 (0,0))){e size:Nat}{v:Br}{xs:List Br}(o:W.ownsRow base e size v n xs)(i:e≠85)(j:e≠87):W'.ownsRow base e size v n xs:=by
 obtain⟨p,b⟩:=o;refine⟨p,?_⟩;rcases b with b|⟨g,d,f,m,k,a,q⟩
 .exact .inl b
 .exact .inr ⟨g,d,f,m,k,lD h a (λe=>by rw[e,l]at a;cases a;exact i rfl) j,q⟩
def afo(r:Nat)(m n o:Br)(z:Int)(w:B0)(a:w.heap[r]?=A5 (A3 #[m,n,o] 28 (0,0))):
  CallsD A2 11 #[E0 (A5 ⟨r,0,A6⟩)] (.panicking (acy z)) w λe l w'=>
   e= B1 (E2 #[])/\l= .panicking [{v:= .iface 41 (Ed #[X Y z]),recovered:=B3}]/\w'.heap[r]?=A5 (A3 #[X Y 1,X Y z,Ax A6 0 0] 28 (0,0))/\A9 r w w':=by
 have i:=λw=>aoE z w;unfold acy;refine callsD_of_wpS func11 rfl λq p j=>?_;apply wpS_seq;apply zy;simp[wpOpsS,go_sem,recoverD,j,ntmps11,Exit.thenS,i];apply wpS_seq;apply zy;simp[wpOpsS,go_sem,Exit.thenS,iA];refine wpS_cond (t:=B3) byR ?_;simp only[nA];have k:∀w:B0,(zeroValue 28).run A2 w= .ok (Ed #[X Y 0,X Y 0,Ax A6 0 0]) w:=λw=>J;have b:(w.alloc (A3 #[X Y z] 41)).heap[r]?=_:=(dG w _ r (ah a)).trans a;have h:A9 r w (w.alloc (A3 #[X Y z] 41)):=(de w _).mono (fs (ah a));obtain⟨c,d,f,g⟩:=row3 b;apply zy;simp[wpOpsS,go_sem,c,d,f,g,k,bodyPostS,results,results11];exact⟨set3 b _ _ _,Ht h _ _ _⟩
def lF{fn:Func}{p q:Tmp}{u:F0}(h:fn.results=#[.tmp p,.cell q u])(tmps:Array Br)(P:Program)(w:B0)(a:Addr)(v b:Br)(d:tmps.getD p H4=v)(f:tmps.getD q H4= E0 (A5 a))
  (c:(loadVar u a).run P w= .ok b w):(results fn tmps).run P w= .ok (E2 #[v,b]) w:=by
 have e:tmps[p]?.getD H4=v:=by simpa using d
 have g:tmps[q]?.getD H4= E0 (A5 a):=by simpa using f
 simp only[results,h];simp[Result.andThen,e,g,asAddr,c]
def rH(w:B0)(b:Nat)(c n:Int)(h:ma b w c n):(loadVar 57 ⟨b,0,A6⟩).run A2 w= .ok (Ed #[X Y c,X Y n]) w:=
 Ij w b 57 57 _ _ _ h underlying57 rfl J
def abt(w:B0)(ns:List Nd)(e:Ending)(a:B0):Prop:=
 A9 w.heap.size w a/\
 (((dF ns).1≠0/\e= B1 (E2 #[H1,Ed #[X Y (dF ns).1,X Y (dF ns).2]]))\/
  (dF ns=(0,0)/\∃base vs L x,e= B1 (E2 #[nV x,Ed #[X Y 0,X Y 0]])/\L[M ns-1]?=A5 x/\L.map Im.N=ns/\mI a base vs L/\∀x∈L,dv w x.vn x.N.nm))
def abu(w:B0)(v:Br)(ns:List Nd)(h:fj w v ns)(u:M ns<=1048576)(p:kL ns=B3):
  B7 A2 42 #[Ed #[v]] w λe w'=>e= B1 (E2 #[H1,Ed #[X Y 1,X Y 0]])/\A9 w.heap.size w w':=by
 obtain⟨F,G,rfl⟩:=h.form;have i:∀b c,A9 w.heap.size w ((w.alloc b).alloc c):=λb c=>((ai _ w).alloc cJ b).alloc I c;have s:∀b (g:Array Br) (l:F0),((w.alloc b).alloc (A3 g l)).heap[w.heap.size+1]?=A5 (A3 g l (0,0)):=λb g l=>by
  have:=ay (w.alloc b) (A3 g l);rw[fp]at this;exact this
 have q:=be p;by_cases d:M ns=0
 .rw[d];go_in;go_wp2;exact aD (lF rfl _ _ _ ⟨w.heap.size+1,0,A6⟩ _ _ rfl rfl (rH _ _ 1 0 (s _ _ _))) rfl ⟨rfl,i _ _⟩
 by_cases f:3000<M ns
 .obtain⟨a,j⟩:∃a:Nat,M ns=a+1:=⟨M ns-1,O⟩;rw[j]at f u⊢;have A:decide ((a:Int)<0)=B2:=aG O;have B:(3000:Int)<=(a:Int):=O;have E:(0:Int)<=(a:Int):=O;clear h p q d f j;go_in;go_wp2;exact aD (lF rfl _ _ _ ⟨w.heap.size+1,0,A6⟩ _ _ rfl rfl (rH _ _ 1 0 (s _ _ _))) rfl ⟨rfl,i _ _⟩
 .have C:(ns.getD (M ns-1) zNd).k≠1:=by rcases q with e|e|e;exact absurd e d;exact absurd e f;exact e
  have r:M ns-1<M ns:=O;obtain⟨m,o⟩:∃m,ns[M ns-1]?=A5 m:=⟨_,bi r⟩;rw[er,o,jF]at C;obtain⟨z,rfl,af,ad,t⟩:=h.get o;have n:=t.c0;obtain⟨y,x⟩:=aw (M ns);rw[x]at n d f u r⊢;obtain⟨a,j⟩:∃a:Nat,y=a+1:=⟨y-1,O⟩;subst j;rw[ou]at n;have H:((a+1:Nat):Int)-1=(a:Int):=O;have E:(0:Int)<=(a:Int):=O;have A:decide ((a:Int)<0)=B2:=aG O;have B:decide ((3000:Int)<=(a:Int))=B2:=aG O;have L:(a:Int)<(a:Int)+1:=O;have K:∀b c,((w.alloc b).alloc c).cell? (z.add (a*9))=A5 (X Y m.k):=λb c=>aq (i b c) n;clear h p q d f o t x r;go_in;go_wp2;exact aD (lF rfl _ _ _ ⟨w.heap.size+1,0,A6⟩ _ _ rfl rfl (rH _ _ 1 0 (s _ _ _))) rfl ⟨rfl,i _ _⟩
structure abv (w0:B0) (lb mb:Nat) (vs:Br) (L:List Im) (W:B0):Prop where
 bl:A9 w0.heap.size w0 W
 lk:Lk W lb mb vs
 ns:mI W w0.heap.size vs L
def abv.below{b:B0}{lb mb:Nat}{L:List Im}(h:abv b lb mb vs L W)(a:A9 W.heap.size W W'):abv b lb mb vs L W':=
 ⟨h.bl.trans (a.mono h.bl.size),h.lk.below a,h.ns.below a⟩
def ma.keep{B:Nat}{n:Int}(h:ma b W c n)(a:A9 B W W')(d:b<B):ma b W' c n:=(a.block _ d).trans h
theorem arl(c:Nat):yv c≠57:=by
 unfold yv;grind
def mI.setFt{L:List Im}(h:mI W base vs L){n:Int}(g:ma b W c n)(f:b<base)(j:Nat)(v:Br):mI (W.setCell ⟨b,j,A6⟩ v) base vs L:=
 ⟨tJ h.row f _,λe a d=>(az W ⟨b,j,A6⟩ a.b v (sw (h.box e a d) (show W.heap[b]?=A5 (A3 #[X Y c,X Y n] 57 (0,0)) from g) (arl _))).trans (h.box e a d),λe a d=>tJ (h.kid e a d) f _,h.far,h.rng⟩
def mI.putFt{L:List Im}(h:mI W base vs L){n:Int}(e:ma b W c n)(d:b<base)(a n2:Int):mI ((W.setCell ⟨b,0,A6⟩ (X Y a)).setCell ⟨b,1,A6⟩ (X Y n2)) base vs L:=
 (h.setFt e d 0 _).setFt (c:=a) (n:=n) (aI _ b 0 _ _ _ e) d 1 _
structure at8 (w:B0) (v:Br) (w0:B0):Prop where
 tb:w0.heap[w.heap.size]?=A5 (.cells #[v] 26 (0,0))
 fb:ma (w.heap.size+1) w0 0 0
 bl:A9 w.heap.size w w0
 sz:w0.heap.size=w.heap.size+1+1
def akJ(b:Br->Prop)(w:B0)(ns:List Nd)(e:Ending)(a:B0):Prop:=
 A9 w.heap.size w a/\
 (((dF ns).1≠0/\e= B1 (E2 #[H1,Ed #[X Y (dF ns).1,X Y (dF ns).2]]))\/
  (dF ns=(0,0)/\∃base vs L x,e= B1 (E2 #[nV x,Ed #[X Y 0,X Y 0]])/\L[M ns-1]?=A5 x/\L.map Im.N=ns/\mI a base vs L/\∀x∈L,dv w x.vn x.N.nm/\b x.vn))
theorem Ks(ag:Br->Prop)(w:B0)(v:Br)(ns:List Nd)(eg:∀(b3:Addr) (n c i:Nat) (N:Nd) (vn:Br),v= Ax (A5 b3) n c->ns[i]?=A5 N->w.cell? ⟨(b3.add (i*9)).block,(b3.add (i*9)).off+7,A6⟩=A5 vn->ag vn)(h:fj w v ns)(gd:M ns<=1048576)(fc:∀N∈ns,jK N)(ev:oH w)(cq:F0)(fr:Nat×Nat)(ef:w.heap[0]?=A5 (A3 fG cq fr))
  (eL:∀W,A9 w.heap.size w W->F2 A2 W "strings.asciiSpace" G0 Ck) (cb:kL ns=B2):
  B7 A2 42 #[Ed #[v]] w (akJ ag w ns):=by
 have fg:=aj eg;clear eg;obtain⟨g0,c,rfl⟩:=h.form;have cc:=jE cb;have a7:=jB h fc cb;have bh:=jB ev ef eL;have ec:¬(M ns)=0:=λq=>cc (.inl q);have ed:¬3000<M ns:=λq=>cc (.inr (.inl q));have b8:(ns.getD (M ns-1) zNd).k=1:=by
  omega
 obtain⟨N,K⟩:∃N,ns[M ns-1]?=A5 N:=⟨_,bi O⟩;rw[er,K,jF]at b8;obtain⟨b2,rfl,vn,hu,et⟩:=h.get K;have bb:=et.c0;rw[b8]at bb;have f7:∀av aL,A9 w.heap.size w ((w.alloc av).alloc aL):=λav aL=>((ai _ w).alloc cJ av).alloc I aL;obtain⟨n,cm⟩:=aw (M ns);have F:Ce (M ns=n):=cm;rw[cm]at a7 bb ec ed⊢;obtain⟨a,ge⟩:∃a:Nat,n=a+1:=⟨n-1,O⟩;have ez:n-1=a:=O;rw[ez]at bb;have hq:a<3000:=O;have ha:((a+1:Nat):Int)-1=(a:Int):=O;have hs:(0:Int)<=(a:Int):=O;have g8:decide ((a:Int)<0)=B2:=aG O;have g9:decide ((3000:Int)<=(a:Int))=B2:=aG O;have ht:(a:Int)<(a:Int)+1:=O;have f8:∀av aL,((w.alloc av).alloc aL).cell? (b2.add (a*9))=A5 (X Y 1):=λav aL=>aq (f7 av aL) bb;clear h cb cc ec ed b8 K et cm gd fc ev ef eL ez bb;subst ge;go_in;go_wp2_with fail;generalize en:(w.alloc _).alloc _=l;obtain⟨cI,cv,ct,s0⟩:=Da en;have k:Ce (at8 w (Ax (A5 b2) (a+1) c) l):=⟨cI,cv,ct,O⟩;clear cI cv ct s0 en f8;have bv:=ah bh.2.1;have bj:Ce (oH l/\l.heap[0]?=A5 (A3 fG cq fr)/\(∀W,A9 l.heap.size l W->F2 A2 W "strings.asciiSpace" G0 Ck)):=
  ⟨bh.1.below k.bl cJ,(k.bl.block _ bv).trans bh.2.1,λW f3=>bh.2.2 W (k.bl.trans (f3.mono k.bl.size))⟩
 refine(rK (H:=Unit) l fr cq bj.2.1).mono ?_;rintro q r ⟨rfl,ch,bt⟩;obtain⟨B,cl⟩:=aw l.heap.size;have gm:=k.sz;have fz:r.cell? ⟨w.heap.size,0,A6⟩=A5 (Ax (A5 b2) (a+1) c):=dE ((bt.block _ O).trans k.tb);have gn:=bt.size;have gp:w.heap.size<r.heap.size:=O;have gr:w.heap.size≠r.heap.size:=O;rw[cl]at ch⊢;have a1:=jB ch bt cl;clear ch bt cl bv gm gn;go_wp2_with fail;have cu:=ay r (A3 #[.map (A5 B),Ax A6 0 0] 172);have cd:A9 r.heap.size r (r.alloc (A3 #[.map (A5 B),Ax A6 0 0] 172)):=(ai _ r).alloc cJ _;have bA:abv l r.heap.size B (Ax A6 0 0) [] (r.alloc (A3 #[.map (A5 B),Ax A6 0 0] 172)):=by
  have c1:=a1.2.1.trans (cd.mono a1.2.1.size);have gf:B<r.heap.size:=by
   obtain⟨hc,g7,hg,_⟩:=a1.1;grind
  exact⟨c1,⟨cu,uA a1.1 (cd.block _ gf),bj.1.below c1 cJ⟩,⟨dA _ _ _ _,λi d m=>U,λi d m=>U,λd m=>U,λi d fd m=>U⟩⟩
 have cg:l.heap.size<=r.heap.size:=a1.2.1.size;generalize r.alloc (A3 #[.map (A5 B),Ax A6 0 0] 172)=fv at bA⊢;obtain⟨ar,ex⟩:=aw r.heap.size;rw[ex]at bA cg⊢;have fl:Ce (l.heap.size<=ar):=cg;obtain⟨a9,b9⟩:=aw (iK (gc ns) (a+1) 0);have b1:Ce (iK (gc ns) (a+1) 0=a9):=b9;have cw:zg (gc ns) (a+1-0) 0 a9:=⟨b9⟩;have cA:Ce (abv l ar B (Ax A6 0 0) [] fv):=bA;clear b9 fz gp gr a1 cu cd bA ex cg;go_loopw [37] (λcr wr=>∃(f:Nat) (g:List Im) (bD:Br),f<=a+1/\cr= X Y f/\zg (gc ns) (a+1-f) f a9/\Ce (abv l ar B bD g wr/\M g=f/\g.map Im.N=ns.take f/\∀d∈g,dv w d.vn d.N.nm/\ag d.vn)) (λcr _=>a+1-(C2 cr).toNat)
 case atStart=>exact⟨0,[],_,nH,rfl,cw,cA,rfl,rfl,λd m=>U⟩
 case round=>
  obtain⟨f,g,bD,hj,rfl,b0,e⟩:=hrel;clear cA cw;have u:=b0.out;by_cases bv:f<a+1
  .obtain⟨p,bd⟩:=dh F.out bv;have hp:(f:Int)<(a:Int)+1:=O;have ho:(0:Int)<=(f:Int):=O;obtain⟨g4,f4,hw,hv,f9⟩:=a7.1.get bd;obtain rfl:=cC f4;have A:A9 w.heap.size w wr:=k.bl.trans (e.1.bl.mono k.bl.size);obtain⟨c2,c4,c5,c6,c7,c8,c9,b4,dc,bw,ce⟩:=f9;obtain⟨bk,bp,rfl⟩:=bw.form;obtain⟨g5,g6,rfl⟩:=ce.form;have dd:=aq A c2;have df:=aq A c4;have dg:=aq A c5;have dk:=aq A c6;have dl:=aq A c7;have dn:=aq A c8;have dq:=aq A c9;have b5:=aq A b4;have b7:=aq A dc;have ba:∀af,A9 wr.heap.size wr (wr.alloc af):=λaf=>(ai _ wr).alloc cJ af;have ap:=λaf=>akl l (wr.alloc af) bj.1 (e.1.bl.trans ((ba af).mono e.1.bl.size)) ar B fl bD g (e.1.lk.below (ba af)) (e.1.ns.below (ba af)) p _ _ (bw.below k.bl) (ce.below k.bl) (a7.2.1 p (da bd)) (by rw[e.out.2.1];omega) ns (by rw[e.out.2.1];exact e.2.2.1) (by rw[e.out.2.1];omega) bj.2.2;rw[(O:a+1-f=(a+1-(f+1))+1),iK]at u;have d9:gc ns f=!(jD ns f p):=by unfold gc;grind
   have ds:Gy ns (M g) p=jD ns f p:=by rw[anc,e.out.2.1]
   rw[d9]at u;unfold jA at ap;have a8:Ce (Gy ns (M g) p=jD ns f p):=ds;have fk:Ce (ns[f]?=A5 p):=bd;obtain⟨cB,eh⟩:=aw (M p.nm);obtain⟨gz,ei⟩:=aw (M p.ks);have cz:Ce (dv w (Ax bk (M p.nm) bp) p.nm/\ag (Ax bk (M p.nm) bp)):=⟨bw,fg.out _ _ _ f p _ rfl bd b4⟩;rw[eh]at ap b5;replace cz:Ce (dv w (Ax bk cB bp) p.nm/\ag (Ax bk cB bp)):=U;rw[ei]at ap b7;clear c2 c4 c5 c6 c7 c8 c9 b4 dc bw ce bd ds d9 eh ei b0;cases m:jD ns f p with
   |true=>
    rw[m]at u a8;rw[aa Z]at u;have fe:zg (gc ns) (a+1-(f+1)) (f+1) a9:=⟨u⟩;clear u m;go_wp2_with fail;refine(ap _).mono ?_;rintro q s ⟨rfl,j,bx⟩;rw[a8.out];obtain⟨gt,d,gs,bf,e9,fa⟩:=bx a8.out;have fo:Ce (abv l ar B gt (g++[d]) s/\M (g++[d])=f+1/\(g++[d]).map Im.N=ns.take (f+1)/\∀bg∈g++[d],dv w bg.vn bg.N.nm/\ag bg.vn):=
     ⟨⟨j,e9,fa⟩,by rw[aB,e.out.2.1];rfl,by rw[fy,e.out.2.2.1,il,fk.out];grind,λbg hy=>by
      rcases List.mem_append.1 hy with hy|hy
      .exact e.2.2.2 bg hy
      .obtain rfl:=List.mem_singleton.1 hy;rw[gs,bf];exact cz⟩
    clear ap bx j e9 fa e dd df dg dk dl dn dq b5 b7 A ba;go_wp2;exact⟨⟨f+1,_,_,O,by go_num,fe,fo⟩,by simp[C2];omega⟩
   |false=>
    rw[m]at u a8;rw[ab Z]at u;have t:Ce (dF ns=(2,(f:Int))):=by
     show dF ns=(2,(f:Int));unfold dF;rw[a7.out.2.2,aa Z,F.out,b1.out,<-u];rfl
    clear u m;go_wp2_with fail;refine(ap _).mono ?_;rintro q s ⟨rfl,j,bx⟩;rw[a8.out];have z:=k.fb.keep j (by rw[k.out.sz];omega);obtain⟨al,br,bs⟩:=kC z;have C:Ce (ma (w.heap.size+1) s 0 0/\A9 w.heap.size w s):=⟨z,k.bl.trans (j.mono k.bl.size)⟩;clear ap bx j z e dd df dg dk dl dn dq b5 b7 A ba;go_wp2;exact aD (lF rfl _ _ _ ⟨w.heap.size+1,0,A6⟩ _ _ rfl rfl (rH _ _ 2 f (qG C.1 2 f))) rfl ⟨(C.2.setCell I _).setCell I _,.inl ⟨(by rw[t.out];omega),(by rw[t.out];rfl)⟩⟩
  .obtain rfl:f=a+1:=O;rw[fI,iK]at u;have fn:Ce (a9=A6):=u.symm;have ep:=qF (show iK (gc ns) (a+1) 0=A6 by rw[b1.out];grind);have bc:g.map Im.N=ns:=by rw[e.out.2.2.1];exact dH (by rw[F.out];omega)
   have eq:∀(i:Nat) d,g[i]?=A5 d->ns[i]?=A5 d.N:=λi d m=>U;have cf:∀d∈g,M d.N.ks<=200:=λd m=>by
    obtain⟨i,ew,q⟩:=jd m;have K:ns[i]?=A5 d.N:=eq i d U;have ew:i<a+1:=by rw[<-F.out];grind
    have ee:=ep i nH O;unfold gc at ee;rw[er,K,jF]at ee;have fF:jD ns i d.N=B3:=U;unfold jD acE at fF;grind
   have el:EB (jk ns):=Bi ns (λN K fd L=>by
    rw[<-bc]at K;obtain⟨d,m,rfl⟩:=List.mem_map.1 K;obtain⟨i,ew,q⟩:=jd m;exact(e.1.ns.rng i d fd U L).1)
   obtain⟨ao,bn,rfl⟩:∃ao c,bD= Ax (A5 ⟨ao,0,A6⟩) (a+1) c:=by
    rcases bm e.1.ns.row with⟨h,_⟩|h
    .rw[e.out.2.1]at h;omega
    .rw[e.out.2.1]at h;exact h
   have bE:wr.cell? ⟨ar,1,A6⟩=A5 (Ax (A5 ⟨ao,0,A6⟩) (a+1) bn):=by rw[au _ _ _ _ _ _ e.out.1.lk.b];rfl
   have y:=FL wr l.heap.size _ g e.1.ns ns bc (a+1) e.2.1 O O cf;have cy:Ce (∀W,A9 wr.heap.size wr W->B7 A2 90 #[Ax (A5 ⟨ao,0,A6⟩) (a+1) bn] W λq gu=>q= B1 (afe (iK (jt (J0 ns)) (a+1) 0))/\A9 W.heap.size W gu):=
    λW f2=>Gz W l.heap.size _ g (e.1.ns.below f2) ns bc (a+1) e.2.1 O O cf
   obtain⟨cF,ca⟩:=aw (iK (ia (jk ns)) (a+1) 0);have x:dF ns=tf3 (jk ns) (J0 ns) (a+1) cF:=by
    unfold dF;rw[a7.out.2.2,aa Z,F.out,b1.out,fn.out];show tf3 (jk ns) (J0 ns) (a+1) (iK (ia (jk ns)) (a+1) 0)=_;rw[ca]
   rw[ca]at y;have gb:=k.sz;have al:=k.fb.keep e.1.bl O;have o:Ce (abv l ar B (Ax (A5 ⟨ao,0,A6⟩) (a+1) bn) g wr/\ma (w.heap.size+1) wr 0 0/\g.map Im.N=ns/\M g=a+1/\A9 w.heap.size w wr):=⟨e.1,al,bc,e.2.1,k.bl.trans (e.1.bl.mono k.bl.size)⟩;have fm:Ce (∀d∈g,dv w d.vn d.N.nm/\ag d.vn):=e.2.2.2;have a4:=aki el (kJ ns) (by rw[F.out];omega);rw[F.out,ou]at a4;clear u ep eq cf el b0 e al ca bc gb;cases cF with
   |some i=>
    have t:Ce (dF ns=(3,(i:Int))):=x;unfold Kk at y;clear x a4;go_wp2_with fail;refine y.mono ?_;rintro q s ⟨rfl,j⟩;have z:=o.2.1.below j;obtain⟨al,br,bs⟩:=kC z;have C:Ce (ma (w.heap.size+1) s 0 0/\A9 w.heap.size w s):=⟨z,o.2.2.2.2.trans (j.mono o.2.2.2.2.size)⟩;clear j z y bE;go_wp2;exact aD (lF rfl _ _ _ ⟨w.heap.size+1,0,A6⟩ _ _ rfl rfl (rH _ _ 3 i (qG C.1 3 i))) rfl ⟨(C.2.setCell I _).setCell I _,.inl ⟨(by rw[t.out];omega),(by rw[t.out];rfl)⟩⟩
   |none=>
    rw[tf3,ou]at x;unfold Kk at y;rw[ou]at y;have fB:((a+1:Nat):Int)-1=(a:Int):=O;rw[fB]at y x;by_cases L:(jk ns).getD a 0<((a+1:Nat):Int)
    .rw[ab (a4.2 L)]at x;rw[dB L]at y;have t:Ce (dF ns=(3,(a:Int))):=x;clear x a4 L;go_wp2_with fail;refine y.mono ?_;rintro q s ⟨rfl,j⟩;have z:=o.2.1.below j;obtain⟨al,br,bs⟩:=kC z;have C:Ce (ma (w.heap.size+1) s 0 0/\A9 w.heap.size w s):=⟨z,o.2.2.2.2.trans (j.mono o.2.2.2.2.size)⟩;clear j z y bE;go_wp2;exact aD (lF rfl _ _ _ ⟨w.heap.size+1,0,A6⟩ _ _ rfl rfl (rH _ _ 3 a (qG C.1 3 a))) rfl ⟨(C.2.setCell I _).setCell I _,.inl ⟨(by rw[t.out];omega),(by rw[t.out];rfl)⟩⟩
    .rw[aa (λh=>L (a4.1 h))]at x;rw[aG L]at y;obtain⟨fu,ek⟩:=aw (iK (jt (J0 ns)) (a+1) 0);rw[ek]at x cy;clear a4 L ek;go_wp2_with fail;refine y.mono ?_;rintro q s ⟨rfl,j⟩;have a5:=cy.out s j;have cs:=aq j bE;clear y bE;cases fu with
     |some i=>
      have t:Ce (dF ns=(4,(i:Int))):=x;unfold afe at a5;clear x;have a6:Ce (A9 wr.heap.size wr s):=j;clear j;go_wp2_with fail;refine a5.mono ?_;rintro q a0 ⟨rfl,a3⟩;have G:=a6.out.trans (a3.mono a6.size);have am:=o.2.1.below G;obtain⟨al,br,bs⟩:=kC am;have E:Ce (ma (w.heap.size+1) a0 0 0/\A9 w.heap.size w a0):=⟨am,o.2.2.2.2.trans (G.mono o.2.2.2.2.size)⟩;clear a3 G am a5 cs;go_wp2;exact aD (lF rfl _ _ _ ⟨w.heap.size+1,0,A6⟩ _ _ rfl rfl (rH _ _ 4 i (qG E.1 4 i))) rfl ⟨(E.2.setCell I _).setCell I _,.inl ⟨(by rw[t.out];omega),(by rw[t.out];rfl)⟩⟩
     |none=>
      have t:Ce (dF ns=(0,0)):=x;unfold afe at a5;clear x;have a6:Ce (A9 wr.heap.size wr s):=j;clear j;go_wp2_with fail;refine a5.mono ?_;rintro q a0 ⟨rfl,a3⟩;have G:=a6.out.trans (a3.mono a6.size);have hA:=aq a3 cs;have am:=o.2.1.below G;have cp:=o.1.ns.below G;obtain⟨d,m⟩:=dh o.2.2.2.1 (O:a<a+1);have fA:a0.cell? ⟨ao,a,A6⟩=A5 (nV d):=by have eF:=cp.row;rw[o.out.2.2.2.1]at eF;rw[eF.cellAt a O,dw,m];rfl
      obtain⟨al,br,bs⟩:=kC am;have E:Ce (ma (w.heap.size+1) a0 0 0/\A9 w.heap.size w a0/\mI a0 l.heap.size (Ax (A5 ⟨ao,0,A6⟩) (a+1) bn) g/\g[a]?=A5 d):=⟨am,o.2.2.2.2.trans (G.mono o.2.2.2.2.size),cp,m⟩;obtain⟨gv,bf⟩:=aw (nV d);rw[bf]at fA;have fq:Ce (nV d=gv):=bf;clear a3 G am a5 cs cp m bf;go_wp2;exact aD (lF rfl _ _ _ ⟨w.heap.size+1,0,A6⟩ _ _ rfl rfl (rH _ _ 0 0 (qG E.1 0 0))) rfl ⟨(E.2.1.setCell I _).setCell I _,.inr ⟨t,l.heap.size,_,g,d,by rw[fq.out];rfl,by rw[F.out,ou];exact E.2.2.2,o.2.2.1,E.2.2.1.putFt E.1 (by rw[k.out.sz];omega) 0 0,fm⟩⟩
theorem abw(a:Br->Prop)(w:B0)(v:Br)(ns:List Nd)(j:∀(b:Addr) (n c i:Nat) (N:Nd) (vn:Br),v= Ax (A5 b) n c->ns[i]?=A5 N->w.cell? ⟨(b.add (i*9)).block,(b.add (i*9)).off+7,A6⟩=A5 vn->a vn)(h:fj w v ns)(d:M ns<=1048576)(o:∀N∈ns,jK N)(l:oH w)(e:F0)(fr:Nat×Nat)(g:w.heap[0]?=A5 (A3 fG e fr))
  (m:∀W,A9 w.heap.size w W->F2 A2 W "strings.asciiSpace" G0 Ck):
  B7 A2 42 #[Ed #[v]] w (akJ a w ns):=by
 cases hb:kL ns with
 |true=>
  have f:dF ns=(1,0):=by unfold dF;grind
  refine(abu w v ns h d hb).mono ?_;rintro p q ⟨rfl,k⟩;exact⟨k,.inl ⟨U,by rw[f]⟩⟩
 |false=>exact Ks a w v ns j h d o l e fr g m hb
def adm(w:B0)(v:Br)(ns:List Nd)(h:fj w v ns)(n:M ns<=1048576)(q:∀N∈ns,jK N)(m:oH w)(a:F0)(fr:Nat×Nat)(l:w.heap[0]?=A5 (A3 fG a fr))
  (o:∀W,A9 w.heap.size w W->F2 A2 W "strings.asciiSpace" G0 Ck):
  B7 A2 42 #[Ed #[v]] w (abt w ns):=
 (abw (λ_=>True) w v ns (λ_ _ _ _ _ _ _ _ _=>trivial) h n q m a fr l o).mono λt u h=>⟨h.1,h.2.imp id λ⟨b,c,d,e,r,f,g,i,j,k⟩=>⟨b,c,d,e,r,f,g,i,j,λs p=>(k s p).1⟩⟩
def abx(w:B0)(v:Br)(ns:List Nd)(h:fj w v ns)(E:M ns<=1048576)(K:∀N∈ns,jK N)(a:oH w)(L:F0)(fr:Nat×Nat)(s:w.heap[0]?=A5 (A3 fG L fr))
  (G:∀W,A9 w.heap.size w W->F2 A2 W "strings.asciiSpace" G0 Ck):
  B7 A2 17 #[Ed #[v]] w λe w'=>e= B1 (Ed #[X Y (dF ns).1,X Y (dF ns).2])/\A9 w.heap.size w w':=by
 have A:∀u x,A9 w.heap.size w ((w.alloc u).alloc x):=λu x=>((ai _ w).alloc cJ u).alloc I x;have o:Ce (∀W,A9 w.heap.size w W->B7 A2 42 #[Ed #[v]] W (abt W ns)):=λW f=>
  adm W v ns (h.below f) E K (a.below f cJ) L fr ((f.block _ (ah s)).trans s) (λp ag=>G p (f.trans (ag.mono f.size)))
 obtain⟨j,k,rfl⟩:=h.form;obtain⟨m,F⟩:=aw (M ns);rw[F]at o⊢;obtain⟨c,q⟩:=aw ((dF ns).1);obtain⟨d,r⟩:=aw ((dF ns).2);have i:=fD q r;rw[q,r];clear h E K a s G F q r;go_in;go_wp2_with fail;have n:ma (w.heap.size+1) ((w.alloc (A3 #[Ax j m k] 26)).alloc (A3 #[X Y 0,X Y 0] 57)) 0 0:=by
  have:=ay (w.alloc (A3 #[Ax j m k] 26)) (A3 #[X Y 0,X Y 0] 57);rw[fp]at this;exact this
 have b:=A (A3 #[Ax j m k] 26) (A3 #[X Y 0,X Y 0] 57);generalize (w.alloc (A3 #[Ax j m k] 26)).alloc (A3 #[X Y 0,X Y 0] 57)=p at n b⊢;refine(o p b).mono ?_;rintro e g ⟨t,C⟩;obtain⟨H,rfl⟩:∃H,e= B1 (E2 #[H,Ed #[X Y c,X Y d]]):=by
  rcases C with⟨_,a⟩|⟨af,_,_,_,ak,a,_⟩
  .exact⟨_,by rw[a,i.out.1,i.out.2]⟩
  .refine⟨nV ak,?_⟩;rw[a,<-i.out.1,<-i.out.2,af]
 have l:=n.below t;obtain⟨al,am,an⟩:=kC l;have ao:w.heap.size+1<g.heap.size:=ah l;have ap:w.heap.size+1≠g.heap.size:=O;have B:A9 w.heap.size w g:=b.trans (t.mono b.size);have y:=fD B l;clear C t n b o B l A;go_wp2_with fail;have ad:=(qG y.2 c d).below ((ai _ ((g.setCell ⟨w.heap.size+1,0,A6⟩ (X Y c)).setCell ⟨w.heap.size+1,1,A6⟩ (X Y d))).alloc cJ (A3 #[X Y c,X Y d] 57));have z:A9 w.heap.size w ((g.setCell ⟨w.heap.size+1,0,A6⟩ (X Y c)).setCell ⟨w.heap.size+1,1,A6⟩ (X Y d)):=(y.1.setCell I _).setCell I _;exact aD (fE rfl _ _ (w.heap.size+1) _ _ _ _ rfl ad underlying57 rfl J) rfl ⟨rfl,z.alloc z.size _⟩
def Out.at_of(h:Out s c a ns)(e:s.size<=65536)(d:0<=z)(b:tokF s=([],z)):c=1/\a=z/\ns=[]:=by
 cases h with
 |big h=>omega
 |at_ _ _ h=>rw[b]at h;cases h;exact⟨rfl,rfl,rfl⟩
 |ok _ h _=>rw[b]at h;cases h;omega
def Out.ok_of{toks:List Tk}(h:Out s c a ns)(g:s.size<=65536)(b:tokF s=(toks, -1)):∃m R e,PF s toks m R e/\c=okC (ss s R)/\a=0/\ns=okN (ss s R):=by
 cases h with
 |big h=>omega
 |at_ _ f h=>rw[b]at h;cases h;omega
 |ok _ h d=>rw[b]at h;cases h;exact⟨_,_,_,d,rfl,rfl,rfl⟩
def sC(w:B0)(s:Bz)(cu:s.size<=4000000000)(cm:PL w)(bp:Out s c a ns):B7 A2 5 #[A0 s] w (PiP w c a ns):=by
 have hy:∀(ds:Fn)(first ca:Array Br)(w:B0),(Instr.makeFunc ds first ca).run A2 w= .ok (.func ds first ca) w:=λ_ _ _ _=>rfl;have ip:∀w:B0,(zeroValue 28).run A2 w= .ok (Ed #[X Y 0,X Y 0,Ax A6 0 0]) w:=λw=>J;have d0:=de w (A3 #[X Y 0,X Y 0,Ax A6 0 0] 28);have fA:=ay w (A3 #[X Y 0,X Y 0,Ax A6 0 0] 28);have f7:(w.alloc (A3 #[X Y 0,X Y 0,Ax A6 0 0] 28)).heap.size=w.heap.size+1:=fp _ _;have bg:=aj bp;by_cases hs:65536<s.size
 .have fm:(65536:Int)<(s.size:Int):=O;have af:Ce (c=2/\a=0/\ns=[]):=by
   cases bp with
   |big h=>exact⟨rfl,rfl,rfl⟩
   |at_ h _ _=>omega
   |ok h _ _=>omega
  clear bp bg;go_enter_defers func5,ntmps5
  go_wp2;exact⟨_,fE rfl _ _ w.heap.size _ _ _ _ rfl (ay w _) underlying28 rfl J,show PiP w c a ns _ _ from by rw[af.out.1,af.out.2.1,af.out.2.2];exact⟨_,[],rfl,rfl,Dw _ _ _,de w _⟩⟩
 .have fm:¬(65536:Int)<(s.size:Int):=O;obtain⟨dg,cc,C⟩:=cm.pow;have es:=JA (w.alloc (A3 #[X Y 0,X Y 0,Ax A6 0 0] 28)) dg cc ((d0.block _ (ah C)).trans C);have a0:=aj cm;clear bp cm C;go_enter_defers func5,ntmps5
  go_wp2_with fail;refine es.mono ?_;rintro b bc ⟨cf,rfl,cd,dc,b9⟩;rw[f7]at cd dc b9;have cg:A9 w.heap.size w bc:=d0.trans (b9.mono O);have d6:GQ bc (w.heap.size+1) cf (w.heap.size+1) [100,6]:=⟨cd,dc,Z,Z⟩;have eq:=JH bc (w.heap.size+1) cf (w.heap.size+1) s d6 (a0.lay.below cg cJ) O (by have:=a0.gn;omega);have cz:=(b9.block w.heap.size O).trans fA;clear es;go_wp2_with fail;refine eq.mono ?_;rintro b o ⟨(⟨E,dd,toks,b7,i5,d7,cB,rfl,bD,cp,hK,f5,ag⟩|⟨z,a7,rfl,ag⟩)⟩
  .have B:A9 w.heap.size w o:=cg.trans (ag.mono O);have a5:=(ag.block w.heap.size O).trans cz;have en:=ah a5;obtain⟨n,cI⟩:=aw (M toks);rw[cI]at bD f5;obtain⟨e5,fa,rfl⟩:=cG bD;obtain⟨bb,cb,br⟩:∃bb cb,jg E 6=B3->passOk (M E+45) cb E 6 bb/\M bb<=M E+45/\Gl bb (feedL dd 6).1:=by
    by_cases cu:jg E 6=B3
    .obtain⟨a9,eg,f3⟩:=cB.passOk Z Z cu;exact⟨a9,_,λ_=>⟨eg,yJ eg,f3⟩⟩
    .exact⟨[],0,λb=>absurd b cu⟩
   have b1:=λa9=>Hr (o.alloc a9) (w.heap.size+1) cf (w.heap.size+1) E bb ⟨6,(s.size:Nat),(s.size:Nat),0,0,⟨#[]⟩⟩ s cb (cp.below (de o a9)) ((a0.lay.below (B.trans ((de o a9).mono B.size)) cJ).tabs) O I I I I I (λb=>⟨(br b).1,by have:=(br b).2.1;omega,λa bt=>by have:=be ((br b).2.2.o1 a bt);omega⟩);unfold vTk at b1;simp only at b1;obtain⟨hj,cs,_⟩:=cp.g.ex;have fl:=ah cs;have y:=It bD cI d7 cB cs;have h8:=ah cz;have h9:=ag.size;clear eq d7 cB br bD cI cp cs d6 cd dc;go_wp2_with fail;refine(b1 _).mono ?_;have L:=de o (A3 #[X Y 6,X Y (s.size:Nat),X Y (s.size:Nat),X Y 0,X Y 0,A0 ⟨#[]⟩] 48);have df:=ay o (A3 #[X Y 6,X Y (s.size:Nat),X Y (s.size:Nat),X Y 0,X Y 0,A0 ⟨#[]⟩] 48);have f4:(o.alloc (A3 #[X Y 6,X Y (s.size:Nat),X Y (s.size:Nat),X Y 0,X Y 0,A0 ⟨#[]⟩] 48)).heap.size=o.heap.size+1:=fp _ _;have c6:=bz y.1 L;have ce:=(L.block _ fl).trans y.2.2.2.2;generalize o.alloc (A3 #[X Y 6,X Y (s.size:Nat),X Y (s.size:Nat),X Y 0,X Y 0,A0 ⟨#[]⟩] 48)=g7 at L df f4 c6 ce⊢;rintro b v ⟨(⟨bA,rfl,fz,cx,ak⟩|⟨bA,rfl,ak⟩)⟩
   .have bw:(feedL dd 6).2=B3:=by rw[<-y.out.2.2.2.1.may Z Z];exact bA
    have cA:=(ak.block w.heap.size O).trans ((L.block _ en).trans a5);have bn:A9 w.heap.size w v:=(B.trans (L.mono B.size)).trans (ak.mono O);obtain⟨ar,d,i1,q,bv,bt,ef⟩:=bg.ok_of (toks:=toks++[⟨6,(s.size:Nat),(s.size:Nat),b7,0,⟨#[]⟩⟩]) O (by unfold tokF;rw[y.out.2.2.1,aa I,ab bw]);have ez:=ark cx ce c6 Z Z;have eF:dL o.heap.size v 6 (s.size:Nat) (s.size:Nat) 0 0 ⟨#[]⟩:=lD cx df O;obtain⟨gs,gt,gu,gz,g0,g1,g3⟩:=aE eF;obtain⟨ge,fo,a7,f8,f9⟩:=eC aey;have hI:=ak.size;have ed:n=ar:=by have:=q.len;rw[aB,y.out.2.1]at this;simpa using this
    have m:=It q bv bt ef ed;have c7:=bz ez (de v (A3 #[X Y 6,X Y (s.size:Nat),X Y (s.size:Nat),X Y 0,X Y 0,A0 ⟨#[]⟩] 48));have hJ:=(de v (A3 #[X Y 6,X Y (s.size:Nat),X Y (s.size:Nat),X Y 0,X Y 0,A0 ⟨#[]⟩] 48)).size;have eL:=ay v (A3 #[X Y 6,X Y (s.size:Nat),X Y (s.size:Nat),X Y 0,X Y 0,A0 ⟨#[]⟩] 48);clear b1 fz cx df c6 ce eF q bv bt ef ed ez bw bA;go_wp2_with (at_builtin;refine wpList_append_own_at _ rfl _ _ 45 rfl bc.heap.size 48 ge _ 6 56 underlying45 fo a7 f8 f9 rfl Z _ _ _ rfl c7 ⟨v.heap.size,0,A6⟩ 1 1 [X Y 6,X Y (s.size:Nat),X Y (s.size:Nat),X Y 0,X Y 0,A0 ⟨#[]⟩] rfl rfl (World.news_of_block eL) (by intro i4 el;simp at el;rcases el with rfl|rfl|rfl|rfl|rfl|rfl<;>rfl) py O O ?_;intro i6 j c8 bx _ ff;obtain⟨G,am,rfl⟩:=ownsRow_succ c8);have ib:=bx.size;have em:∀k,(H3 e5 n fa).ownBlock=A5 k->bc.heap.size<=k:=λk u=>(c7.lt k u).1;have bo:A9 w.heap.size w j:=(bn.trans ((de v _).mono bn.size)).grown bx O (λk u=>by have:=em k u;omega);have a6:=(bx.block w.heap.size O (λb=>by have:=em _ b.symm;omega)).trans (((de v _).block _ O).trans cA);obtain⟨dg,cc,C⟩:=a0.pow;have ck:=(bo.block _ (ah C)).trans C;have hr:=ah C;obtain⟨bj,an,d8⟩:∃bj,j.heap[G]?=A5 (A3 bj 48 (0,0))/\TkR bj (xy (toks++[⟨6,(s.size:Nat),(s.size:Nat),b7,0,⟨#[]⟩⟩])) (n+1):=by
     rcases c8.2 with⟨c3,_⟩|⟨hh,ca,e9,c3,hw,bv,A,hn,hp,fd⟩
     .cases c3
     .cases c3;refine⟨e9,bv,ajk (ts:=toks++[⟨6,(s.size:Nat),(s.size:Nat),0,0,⟨#[]⟩⟩]) (by rw[vH];exact fd) (by rw[aB,y.out.2.1];rfl) (λc9 T ao=>?_)⟩;rcases aH c9 (M toks) with h|h
      .rw[mo h]at ao;rw[EK (T:=T) (by rw[mo h];exact ao)];exact⟨rfl,λ_=>rfl⟩
      .have b:c9=M toks:=by have:=(List.getElem?_eq_some_iff.1 ao).1;simp at this;omega
       subst b;rw[jr cJ,fI]at ao;cases ao;rw[EK (T:=⟨6,(s.size:Nat),(s.size:Nat),b7,0,⟨#[]⟩⟩) (by rw[jr cJ,fI];rfl)];exact⟨rfl,λh=>absurd rfl h⟩
    obtain⟨ad,K⟩:∃ad:Pe,(⟨0,j.heap.size,G,am,n+1,xy (toks++[⟨6,(s.size:Nat),(s.size:Nat),b7,0,⟨#[]⟩⟩])⟩:Pe)=ad:=⟨_,rfl⟩;have q:=m.1;have dq:Pp ad (j.alloc (A3 #[Ax (A5 ⟨G,0,A6⟩) (n+1) am,X Y 0] 51)) 0:=by
     rw[<-K];exact⟨by show n+1<=_;omega,⟨bj,(0,0),((de j _).block _ (ah an)).trans an,d8⟩,ay j _,by have:=bo.size;show _<j.heap.size;omega,dg,cc,((de j _).block _ (ah ck)).trans ck⟩
    obtain⟨c9,hS⟩:PI ad .stats 0 d ar:=ajw (by rw[<-K];exact q.k78) (by rw[<-K];show P _ (n+1) _ _ _ _;rw[m.out.2.2.2.2];exact q.p);have a8:=ast (ain (.inr (by rw[<-K];show(xy _ ar).k=6;rw[q.end_])) hS) (by rw[<-K];show ar<n+1;have:=m.2.2.2.2;omega) _ dq (by have:=q.sz;rw[dj];omega);have d5:(ad.tk ar).t=(s.size:Nat):=by rw[<-K];show(xy _ ar).t=_;rw[q.end_]
    have ch:ad.pb=j.heap.size:=by rw[<-K]
    unfold pV at a8;rw[d5,ch]at a8;have gd:(j.alloc (A3 #[Ax (A5 ⟨G,0,A6⟩) (n+1) am,X Y 0] 51)).heap.size=j.heap.size+1:=fp _ _;have cr:=de j (A3 #[Ax (A5 ⟨G,0,A6⟩) (n+1) am,X Y 0] 51);have d3:A9 w.heap.size w (j.alloc (A3 #[Ax (A5 ⟨G,0,A6⟩) (n+1) am,X Y 0] 51)):=bo.trans (cr.mono bo.size);have eh:=(cr.block _ (ah a6)).trans a6;have ih:=ah a6;clear hS dq q an d8 C ck c8 bx ff c7 eL gs gt gu gz g0 g1 g3;generalize j.alloc (A3 #[Ax (A5 ⟨G,0,A6⟩) (n+1) am,X Y 0] 51)=b8 at a8 gd cr d3 eh⊢;refine a8.mono ?_;rintro b e2 ⟨gp,rfl,a1⟩;obtain⟨e8,ev,ee⟩:=a1.nb;have f6:=a1.gr.size;have fF:=(a1.gr.block w.heap.size O (λb=>by rw[ch]at b;have:=cC b;omega)).trans eh;have fe:A9 w.heap.size w e2:=d3.grown a1.gr O (λk u=>by rw[ch]at u;have:=cC u;omega);have et:=Ci (zi b8.heap.size d) (N:=⟨1,0,(s.size:Nat),1,0,0,z0,[],[]⟩) e2 gp e8 [] (Ax A6 0 0) ev ⟨dA _ _ _ _,λdn b0=>(by cases b0)⟩ f6 (by have:=m.1.sz;rw[dj];simp;omega);have e4:=aj ee;clear a8 ev ee a1 d5;go_wp2_with fail;refine et.mono ?_;rintro b l ⟨iy,F,rfl,ap,cn,an,⟨fk,ec⟩,bk,fu,_⟩;rw[dI]at ap;obtain⟨e,g,rfl⟩:=cG ap.row;have d4:A9 w.heap.size w l:=fe.trans (bk.bl.mono O);have ei:=(bk.bl.block w.heap.size O).trans fF;have ii:=bk.bl.size;obtain⟨i,cw⟩:=aw (M F);rw[cw]at ap;have ew:fj l (Ax e i g) (ss s d):=by
     have:=ap.nds;rw[cn]at this;exact this
    have bf:Ce (Lw l b8.heap.size (Ax e i g) F/\F.map Mb.N=ss s d/\(nB' F).Nodup/\(kB F).Nodup):=⟨ap,cn,List.nodup_iff_count.2 λe3=>aK (an e3) (List.nodup_iff_count.1 (List.nodup_append.1 e4).1 e3),ec⟩;rw[cw];have ba:=de l (A3 #[Ax e i g] 26);have d1:A9 w.heap.size w (l.alloc (A3 #[Ax e i g] 26)):=d4.trans (ba.mono d4.size);have bh:=a0.below d1 cJ;have fv:M (ss s d)<=1048576:=by
     have:=m.1.sz;unfold ss;rw[Fo.flat_len,dj];omega
    obtain⟨gf,fb,d9⟩:=bh.lay.tabs.word;have c4:=abx (l.alloc (A3 #[Ax e i g] 26)) (Ax e i g) (ss s d) (ew.below ba) fv m.1.sm bh.lay.errs gf fb d9 (λg5 fg=>A1 bh.asc fg cJ);have cq:=ay l (A3 #[Ax e i g] 26);have cy:=(ba.block _ (ah ei)).trans ei;have hC:(l.alloc (A3 #[Ax e i g] 26)).heap.size=l.heap.size+1:=fp _ _;have bd:Ce (okC (ss s d)=(if(dF (ss s d)).1=0 then 0 else 2)/\okN (ss s d)=(if(dF (ss s d)).1=0 then ss s d else [])):=⟨rfl,rfl⟩;obtain⟨e0,cF⟩:=aw ((dF (ss s d)).1);obtain⟨i3,ek⟩:=aw ((dF (ss s d)).2);rw[cF]at bd;simp only[cF,ek]at c4;have ht:∀(e1 gm:Br)(w:B0),(Instr.field 57 (Ed #[e1,gm]) 0).run A2 w= .ok e1 w:=λ_ _ _=>J;clear et ap cn an fk ec bk fu ew d9 cF ek bh cw;go_wp2_with fail;refine c4.mono ?_;rintro b x ⟨rfl,a3⟩;have ea:=(a3.block _ (ah cq)).trans cq;have bE:=(a3.block _ (ah cy)).trans cy;have d2:A9 w.heap.size w x:=d1.trans (a3.mono O);have hD:=a3.size;have fq:∀k,k<l.heap.size->x.heap[k]?=l.heap[k]?:=λk u=>(a3.block k O).trans (ba.block k u);obtain⟨g8,g9,hd,he⟩:=row3 bE;have i2:x.cell? ⟨l.heap.size,0,A6⟩=A5 (Ax e i g):=by rw[au _ _ _ _ _ _ ea];rfl
    have hA:w.heap.size≠l.heap.size:=O;have hB:=ah bE;clear c4 cq cy ba ea;by_cases a4:e0=0
    .subst a4;go_wp2_with fail;refine C9 (f:=11) (args:=#[E0 (A5 ⟨w.heap.size,0,A6⟩)]) I (by simp[go_sem]) ?_;refine(afn ⟨w.heap.size,0,A6⟩ _).mono ?_;rintro b dk dl ⟨rfl,rfl,rfl⟩;have A:=set3 bE (X Y 0) (X Y 0) (Ax e i g);have H:=Ht d2 (X Y 0) (X Y 0) (Ax e i g);have eb:∀k,k≠w.heap.size->_:=λk u=>aoe (w:=x) (r:=w.heap.size) (k:=k) u (X Y 0) (X Y 0) (Ax e i g);have ep:x.heap.size<=(((x.setCell ⟨w.heap.size,0,A6⟩ (X Y 0)).setCell ⟨w.heap.size,1,A6⟩ (X Y 0)).setCell ⟨w.heap.size,2,A6⟩ (Ax e i g)).heap.size:=by simp[World.setCell]
     generalize ((x.setCell ⟨w.heap.size,0,A6⟩ (X Y 0)).setCell ⟨w.heap.size,1,A6⟩ (X Y 0)).setCell ⟨w.heap.size,2,A6⟩ (Ax e i g)=a2 at A H eb ep⊢;have aL:=de a2 (A3 #[X Y 0] 41);have h7:=H.size;have hH:x.heap.size<=a2.heap.size:=ep;have b:=bd.out;rw[ab trivial,ab trivial]at b;have c5:Lw (a2.alloc (A3 #[X Y 0] 41)) b8.heap.size (Ax e i g) F:=bf.1.mono λk hl fc=>(aL.block k O).trans ((eb k O).trans (fq k fc));refine⟨_,fE rfl _ _ w.heap.size _ _ _ _ rfl ((aL.block _ (ah A)).trans A) underlying28 rfl J,show PiP w c a ns _ _ from ?_⟩;rw[m.out.2.1,m.out.2.2.1,m.out.2.2.2.1,b.1,b.2];exact⟨_,F,rfl,bf.2.1,arj ⟨nK c5.row O,λdn b0=>⟨nK (c5.each dn b0).1 O,nK (c5.each dn b0).2 O⟩⟩ bf.2.2.1 bf.2.2.2,H.trans (aL.mono O)⟩
    .have ao:(e0==0)=B2:=by simpa using a4
     have af:Ce (okC (ss s d)=2/\okN (ss s d)=[]):=by
      have b:=bd.out;rw[aa a4,aa a4]at b;exact b
     clear a4 bd;go_wp2_with fail;refine C9 (f:=11) (args:=#[E0 (A5 ⟨w.heap.size,0,A6⟩)]) I (by simp[go_sem]) ?_;refine(afn ⟨w.heap.size,0,A6⟩ _).mono ?_;rintro b dk dl ⟨rfl,rfl,rfl⟩;have A:=set3 bE (X Y 2) (X Y 0) (Ax A6 0 0);have H:=Ht d2 (X Y 2) (X Y 0) (Ax A6 0 0);generalize ((x.setCell ⟨w.heap.size,0,A6⟩ (X Y 2)).setCell ⟨w.heap.size,1,A6⟩ (X Y 0)).setCell ⟨w.heap.size,2,A6⟩ (Ax A6 0 0)=a2 at A H⊢;have aL:=de a2 (A3 #[X Y 0] 41);refine⟨_,fE rfl _ _ w.heap.size _ _ _ _ rfl ((aL.block _ (ah A)).trans A) underlying28 rfl J,show PiP w c a ns _ _ from ?_⟩;rw[m.out.2.1,m.out.2.2.1,m.out.2.2.2.1,af.out.1,af.out.2];exact⟨_,[],rfl,rfl,Dw _ _ _,H.trans (aL.mono H.size)⟩
   .have cA:=(ak.block w.heap.size O).trans ((L.block _ en).trans a5);have bn:A9 w.heap.size w v:=(B.trans (L.mono B.size)).trans (ak.mono O);have bw:(feedL dd 6).2=B2:=by rw[<-y.out.2.2.2.1.may Z Z];exact bA
    obtain⟨rfl,rfl,rfl⟩:=bg.at_of (z:=(s.size:Nat)) O O (by unfold tokF;rw[y.out.2.2.1,aa I,aa (by rw[bw];simp)]);refine C9 (f:=11) (args:=#[E0 (A5 ⟨w.heap.size,0,A6⟩)]) I (by simp[go_sem]) ?_;refine(afo w.heap.size _ _ _ _ v cA).mono ?_;rintro b dk dl ⟨rfl,rfl,a6,e7⟩;have f2:=Ds E (s.extract s.size s.size);rw[im]at f2;exact⟨_,fE rfl _ _ w.heap.size _ _ _ _ rfl a6 underlying28 rfl J,⟨_,[],by unfold psV;simp only[wH];rw[(O:yL E (s.extract s.size s.size)=0),Int.natCast_zero,Int.add_zero],rfl,Dw _ _ _,bn.trans e7⟩⟩
  .have B:A9 w.heap.size w o:=cg.trans (ag.mono O);have a5:=(ag.block w.heap.size O).trans cz;obtain⟨rfl,rfl,rfl⟩:=bg.at_of O a7.bad (by unfold tokF;rw[ab a7.bad]);refine C9 (f:=11) (args:=#[E0 (A5 ⟨w.heap.size,0,A6⟩)]) I (by simp[go_sem]) ?_;refine(afo w.heap.size _ _ _ z o a5).mono ?_;rintro b dk dl ⟨rfl,rfl,fB,e6⟩;exact⟨_,fE rfl _ _ w.heap.size _ _ _ _ rfl fB underlying28 rfl J,⟨_,[],by rw[<-a7.at_];rfl,rfl,Dw _ _ _,B.trans e6⟩⟩
def anC(C:Cd):∃t,t.size<=59940/\Dx C 4 [] t:=by
 have⟨t,j,⟨_,l,i,k⟩,_,e⟩:=ari C ⟨0,0,0⟩ Z rfl;refine⟨t,by have:=akG i;omega,λa f b h=>?_⟩;have c:=aj (arh b h);show B7 A2 4 #[Ax f C.len b] a _;go_in;go_wp2_with fail;refine c.out.run e λw1 g=>?_;have d:=aj ((de a _).trans g.bel);go_wp2;go_ret;exact⟨rfl,d.out⟩
def Out.tm(h:Out s c a ns):Tm ns:=by
 cases h with
 |big _=>exact⟨Z,λb h=>by cases h⟩
 |at_ _ _ _=>exact⟨Z,λb h=>by cases h⟩
 |@ok k j f i h g d=>
  unfold okN;split
  .refine⟨?_,λb e=>⟨(d.sm b e).l1,(d.sm b e).l2⟩⟩;have:=d.sz;unfold ss;rw[Fo.flat_len,dj];omega
  .exact⟨Z,λb h=>by cases h⟩
def PiP.sl{e:Ending}{b:B0}(h:PiP w c a ns e b):∃u,e= B1 (Ed #[X Y c,X Y a,u])/\fj b u ns/\A9 w.heap.size w b:=by
 obtain⟨i,j,rfl,g,own,f⟩:=h;have d:=own.nds;rw[g]at d;exact⟨i,rfl,d,f⟩
def akK{u:Br}(h:fj w u ns):Sl u:=by obtain⟨a,b,rfl⟩:=h.form;exact⟨_,_,_,rfl⟩
def adn{D:Cd}{o p:Option Addr}{cap F:Nat}(ad:Code C w.heap.size w o)(af:Code D w.heap.size w p)(ap:PL w):B7 A2 3 #[Ax o C.len cap,Ax p D.len F] w λe w'=>e= B1 (G2 B3)/\A9 w.heap.size w w':=by
 obtain⟨f,a4,y⟩:=anC C;obtain⟨B,z,ao,h⟩:=akI f;have v:=h.tm;have P:∀a,A9 w.heap.size w a->PL a:=λa b=>ap.below b cJ;refine abo af (y ad) O ⟨λa b=>(sC a f O (P a b) h).mono λ_ _ d=>d.sl,λa=>(Gw a f O h).mono λ_ _ ⟨m,e,c,b⟩=>⟨m,e,c.nds,b⟩,λa g m K L=>aa5 a g m B z ao K L v.n v.l,λq=>?_⟩;cases h with
 |big _=>exact absurd q Z
 |ok _ _ _=>exact absurd q (by unfold okC;split<;>decide)
 |@at_ bc _ H k=>
  obtain⟨c,rfl,t⟩:=aq1 H k;obtain⟨u,an,s⟩:=aqv t k;have x:(f.extract 0 c).size<=65536:=by rw[im];omega
  obtain⟨a9,a8,ba,G,ar⟩:=ano x an;refine⟨c,u,rfl,t,O,λa=>(adi a _ x).mono λe w' ⟨d,b⟩=>⟨?_,b⟩,λa b=>?_,λam a n b a5=>?_⟩
  .rw[G]at d;rw[ar];exact d
  .obtain⟨E,A,a7,r⟩:=akI (f.extract 0 c++u);refine(sC a _ (by rw[ax];omega) (P a b) r).mono λe w' d=>?_;obtain⟨g,j,nd,i⟩:=d.sl;refine⟨E,A,g,j,?_,akK nd,i⟩;cases r with
   |big _=>decide
   |at_ _ aL ak=>rw[ak]at s;simp only at s;omega
   |ok _ _ _=>unfold okC;split<;>decide
  .have av:(f.extract 0 (c+1)).size=c+1:=by rw[im];omega
   have al:=ac6 (T:=f.extract 0 (c+1)++n) am (λa6 a2=>Bv O n O) k;have ag:Out (f.extract 0 (c+1)++n) 1 (c:Int) []:= .at_ (by rw[ax];omega) O al;refine(sC a _ (by rw[ax];omega) (P a b) ag).mono λe w' d=>?_;obtain⟨g,j,nd,i⟩:=d.sl;exact⟨g,j,akK nd,i⟩
def uK(w:B0)(c d:Option Addr)(a b f g:Nat)(h:1048576<a\/1048576<b)(k:a<=9223372036854775807)(l:b<=9223372036854775807):B7 A2 3 #[Ax c a f,Ax d b g] w λe w'=>e= B1 (G2 B3)/\A9 w.heap.size w w':=by
 have i:(1048576:Int)<(a:Int)\/(¬(1048576:Int)<(a:Int)/\(1048576:Int)<(b:Int)):=O;rcases i with j|⟨j,m⟩;all_goals
  go_in;go_wp2;go_ret;exact⟨rfl,ai _ _⟩
