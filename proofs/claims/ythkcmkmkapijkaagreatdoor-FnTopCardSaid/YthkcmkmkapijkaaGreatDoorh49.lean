import Derived.Test.YthkcmkmkapijkaaGreatDoorh05
import Derived.Test.YthkcmkmkapijkaaGreatDoorh48
import Derived.Lib.SmallJoins
set_option linter.all false
set_option maxRecDepth 100000
set_option maxHeartbeats 1600000
open Go.Proofs.Tryz
open Go.Proofs.Tryz renaming prog->M
namespace Go.Proofs.YthkcmkmkapijkaaGreatDoor
open Go.ChangeMaps (open_string shut_string)
open Go.ChangeShapes Go.WideShapes Go.ChangeAt Go.WideMaps Go.WideElems Go.RowKit
variable{W:World}
def Ds{H c P w d}:∀(b)(a:List (DataW H))(ps),DataW.TrodVars c P w d b a ps->a.length=b.length
 |[],[],_,_=>rfl|[],_::_,_,h=>by cases h
 |_::_,[],_,h=>by cases h
 |_::b,_::a,_,h=>by
  obtain⟨_,_,_,_,_,_,_,_,_,_,h,_⟩:=h;rw[dD,dD,Ds b a _ h]
theorem awr{a:zOA}{c s}(i:c<=1048576){fuel H t}{d:DataW H}{p}(w:DataW.trod t M W 0 (λ_=>true) true fuel 22 [.slice a c s]=some (d,p)):∃C:Cd,C.len=c/\Code C W.heap.size W a:=by
 have r:∀b:Nat,0<=(λ_:Nat=>(0:Int)) b/\(λ_:Nat=>(0:Int)) b<256:=λ_=>⟨Lu 0,by show(0:Int)<256;decide⟩;obtain⟨e,_⟩|⟨A,_,_,g,e,_,_,_,q,_,n,y⟩:=open_ints underlying22 underlying5 J w
 .simp at e;exact⟨⟨c,_,i,r⟩,R,.inl e.2.1⟩
 .simp at e;obtain⟨rfl,rfl,rfl⟩:=e;obtain u|hpos:=F7 c
  .exact⟨⟨c,_,i,r⟩,R,.inl u⟩
  .obtain⟨h,k,z⟩:=A;have m:=n 0 (by simp at q;omega);have x:z=none:=by simpa [Addr.add] using World.cell?_spot m
   subst x;have l:∀j,(⟨h,k,none⟩:Addr).add j=⟨h,k+j,none⟩:=λj=>by unfold Addr.add;split<;>simp_all
   have v:∀b,0<=g.getD b 0/\g.getD b 0<256:=λb=>by
    by_cases f:b<g.length
    .have o:=bounds_u8<|y (g.getD b 0) (by rw[List.getD,bm f];exact pd f);exact⟨o.1,O⟩
    .rw[List.getD,BC O];decide
   refine⟨⟨c,_,i,v⟩,R,.inr ⟨h,k,R,?_,λb f=>?_⟩⟩
   .have:=Ca W _ m;rw[l]at this;exact this
   .have o:=n b (by simp at q;have:b<c:=f;omega);rw[l]at o;exact o
def ayG{a:zOA}{c e fuel H f}{d:DataW H}{p}(g:DataW.trod f M W 0 (λ_=>true) true fuel 22 [.slice a c e]=some (d,p)):c<=9223372036854775807:=by
 obtain⟨b,_⟩|⟨_,_,_,_,b,_,_,h,_,_,_,_⟩:=open_ints underlying22 underlying5 J g
 .simp[Value.cells]at b;omega
 .simp[Value.cells]at b;unfold maxLen at h;omega
def ayH:M.globalNamed "strings.asciiSpace" =some 8:=J
def aws(a:laidMetH M [("strings.asciiSpace",Rows.laid_strings_asciiSpace)] W):Lib.TabIs M W "strings.asciiSpace" .u8 Lib.asciiSpaceTab:=by
 rw[MakeChecks.laidMetH_plain _ _ _ J]at a;have b:laidMet M [("strings.asciiSpace",Lib.tabData .u8 Lib.asciiSpaceTab)] W:=a;exact Lib.tabIs_of_head ayH J underlying344 underlying5 J J b
theorem aks(n)(a7:n.Started)(H)(e:TypeId×Value->H):
  ReturnsInHanded {} Tryz.checked n 3 .any (λw args=>(Rows.fnTopSpec.pre e M Tryz.f3 [] false w args/\laidMetH M Rows.fnTopRow.laid w)/\sizedMet e M Tryz.f3 (OpenSpec.ofChange Rows.fnTopSpec) false w args)
   (Rows.fnTopSpec.post e M Tryz.f3 false true false false):=by
 refine returnsInHanded_of_change_and (λ_ _ _ ar h=>h.of_heap ar) own a7 J func3
  (ChangeSpec.witness_shaped (X:=λw _=>laidMetH _ _ w) false _ #[fe] 8 R (World.shaped_of_RefB J J) J J J<|aca n _) ?_
 intro b K args L r _ C z _ _ c _;have B:∀(E:Nat) t v,Tryz.f3.params[E]?=some t->args[E]?=some v->Value.okWide M b .any K t v:=C;have ap:=z;obtain⟨a3,a5,x,y,rfl,_,_⟩:=z;have u:DataW.TrodAll e M b 0 (λ_=>true) true Tryz.f3.params.toList args.toList L a3:=x;rw[params3]at u B;obtain⟨G,_,_,_,a4,_,_,rfl,rfl,s,a6⟩:=trodAll_cons u;obtain⟨rfl,rfl,rfl⟩:=trodAll_nil a6;obtain rfl:args=#[G]:=by cases args;simp_all
 obtain⟨f,g,i,j,k,rfl⟩:∃f g i j k,r=[f,g,i,j,k]:=by
  have a:=Ds _ _ _ y
  match r,a with
  |[f,g,i,j,k],_=>exact⟨f,g,i,j,k,R⟩
 have F:=s;have a1:∀a∈a4,a.block<b.heap.size:=by obtain⟨a2,av⟩:=F;exact DataW.trod_lt a2 _ _ _ av
 obtain⟨o,m,p,rfl⟩:=okWide_slice underlying22<|B 0 _ G R R;obtain⟨_,A⟩:=s;have ax:=ayG A;have l:Kh b:=arH (c.filter λa=>a.1== "loop.example/warp/impl.wordTexts") (c.filter λa=>a.1== "loop.example/warp/impl.markTexts") (c.filter λa=>a.1== "loop.example/warp/impl.binaryTexts") (c.filter λa=>a.1== "strconv.ErrSyntax") (c.filter λa=>a.1== "strconv.ErrRange") (c.filter λa=>a.1== "internal/strconv.uint64pow10")<|c.filter λa=>a.1== "math/bits.deBruijn64tab";have al:AnL b:=⟨aAl<|c.filter λa=>a.1== "errors.errorType",aAk<|c.filter λa=>a.1== "loop.example/warp/impl.errLarge"⟩;have⟨a8,ad,ao⟩:=arK<|c.filter λa=>a.1== "loop.example/warp/impl.powers";have am:=aws<|c.filter λa=>a.1== "strings.asciiSpace";clear x C;have ak:14<=b.heap.size:=by
  obtain⟨_,_,_,d⟩:=l.errs;unfold World.cell? at d;obtain h|h:=cG 13 b.heap.size
  .exact h
  .rw[Lf h]at d;simp at d
 refine(show Calls M 3 #[.slice o m p] b λq a9=>q= .returned (.bool true)/\Below b.heap.size b a9 by
  by_cases af:m<=1048576
  .obtain⟨_,rfl,an⟩:=awr af A;exact asq an ⟨l,ak,⟨a8,ad,ao⟩,am⟩ al (λ_ d=>uJ l.pow d O)
  .exact abG b o m p O ax).mono λq _ ⟨an,d⟩=>?_
 subst an;exact⟨_,R,_,_,_,_,_,a5,ap,trodAll_mk1<|shut_bool underlying4 _,(trodAll_cons_mk (Below.trod agF J (aL J) F d a1) trodAll_mk0),Below.trodVars agF d J y,d.frame _,λh=>by cases h⟩
