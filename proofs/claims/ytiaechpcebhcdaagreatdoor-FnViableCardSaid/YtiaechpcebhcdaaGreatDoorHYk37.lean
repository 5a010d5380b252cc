import Derived.Test.YtiaechpcebhcdaaGreatDoorHYk36
import Derived.Test.YtiaechpcebhcdaaGreatDoorHYk05
import Derived.Lib.SmallJoins
set_option linter.all false
set_option maxRecDepth 100000
open Go.Proofs.Tryz
open Go.Proofs.Tryz renaming prog->M
namespace Go.Proofs.YtiaechpcebhcdaaGreatDoor
open Go.ChangeMaps (open_string shut_string)
open Go.ChangeShapes Go.WideShapes Go.ChangeAt Go.WideMaps Go.WideElems Go.RowKit
variable{W:World}
def agK{H:Type}{enc:TypeId×Value->H}{P:Program}{w:World}{k:Nat->Bool}{a b c d:String}{j:List (DataW H)}{ps:List MemPlace}(h:DataW.TrodVars enc P w k [a,b,c,d] j ps):∃e f g i,j=[e,f,g,i]:=by
 match j,h with
 |[e,f,g,i],_=>exact⟨e,f,g,i,rfl⟩
 |[],h=>exact h.elim
 |[_],h=>obtain⟨_,_,_,_,_,_,_,_,_,_,h,_⟩:=h;exact h.elim
 |[_,_],h=>obtain⟨_,_,_,_,_,_,_,_,_,_,h,_⟩:=h;obtain⟨_,_,_,_,_,_,_,_,_,_,h,_⟩:=h;exact h.elim
 |[_,_,_],h=>obtain⟨_,_,_,_,_,_,_,_,_,_,h,_⟩:=h;obtain⟨_,_,_,_,_,_,_,_,_,_,h,_⟩:=h;obtain⟨_,_,_,_,_,_,_,_,_,_,h,_⟩:=h;exact h.elim
 |_::_::_::_::_::_,h=>obtain⟨_,_,_,_,_,_,_,_,_,_,h,_⟩:=h;obtain⟨_,_,_,_,_,_,_,_,_,_,h,_⟩:=h;obtain⟨_,_,_,_,_,_,_,_,_,_,h,_⟩:=h;obtain⟨_,_,_,_,_,_,_,_,_,_,h,_⟩:=h;exact h.elim
theorem akL{a:Option Addr}{c cap:Nat}(i:c<=1048576){fuel:Nat}{H:Type}{enc:TypeId×Value->H}{d:DataW H}{p:List MemPlace}(v:DataW.trod enc M W 0 (λ_=>true) true fuel 22 [.slice a c cap]=some (d,p)):∃C:Cd,C.len=c/\Code C W.heap.size W a:=by
 have r:∀b:Nat,0<=(λ_:Nat=>(0:Int)) b/\(λ_:Nat=>(0:Int)) b<256:=λ_=>⟨Int.le_refl 0,by show(0:Int)<256;decide⟩;rcases open_ints underlying22 underlying5 J v with⟨e,_⟩|⟨z,F,A,f,e,_,B,E,q,_,n,x⟩
 .simp at e;exact⟨⟨c,_,i,r⟩,rfl,.inl e.2.1⟩
 .simp at e;obtain⟨rfl,rfl,rfl⟩:=e;rcases rp c with s|hpos
  .exact⟨⟨c,_,i,r⟩,rfl,.inl s⟩
  .obtain⟨h,k,y⟩:=z;have m:=n 0 (by simp at q;omega);have w:y=none:=by simpa [Addr.add] using World.cell?_spot m
   subst w;have l:∀j,(⟨h,k,none⟩:Addr).add j=⟨h,k+j,none⟩:=λj=>by unfold Addr.add;split<;>simp_all
   have t:∀b,0<=f.getD b 0/\f.getD b 0<256:=λb=>by
    by_cases g:b<f.length
    .have u:=bounds_u8 (x (f.getD b 0) (by rw[List.getD,bi g];exact xd g));exact⟨u.1,O⟩
    .rw[List.getD,CH O];decide
   refine⟨⟨c,λb=>f.getD b 0,i,t⟩,rfl,.inr ⟨h,k,rfl,?_,λb g=>?_⟩⟩
   .have:=C5 W _ m;rw[l]at this;exact this
   .have o:=n b (by simp at q;have:b<c:=g;omega);rw[l]at o;exact o
def aon{a:Option Addr}{c cap:Nat}{fuel:Nat}{H:Type}{enc:TypeId×Value->H}{d:DataW H}{p:List MemPlace}(e:DataW.trod enc M W 0 (λ_=>true) true fuel 22 [.slice a c cap]=some (d,p)):c<=9223372036854775807:=by
 rcases open_ints underlying22 underlying5 J e with⟨b,_⟩|⟨m,l,g,n,b,_,i,f,k,_,h,j⟩
 .simp[Value.cells]at b;omega
 .simp[Value.cells]at b;unfold maxLen at f;omega
def atc:Tryz.prog.globalNamed "strings.asciiSpace" =some 4:=J
def arm(a:laidMetH M [("strings.asciiSpace",Rows.laid_strings_asciiSpace)] W):Lib.TabIs M W "strings.asciiSpace" .u8 Lib.asciiSpaceTab:=by
 rw[MakeChecks.laidMetH_plain _ _ _ J]at a;have b:laidMet M [("strings.asciiSpace",Lib.tabData .u8 Lib.asciiSpaceTab)] W:=a;exact Lib.tabIs_of_head atc (t:=275) J underlying275 underlying5 J J b
theorem agL(os:Os)(bg:os.Started)(H:Type)(enc:TypeId×Value->H):
  ReturnsInHanded {} Tryz.checked os 3 .any (λw args=>(Rows.fnViableSpec.pre enc M Tryz.f3 [] false w args/\laidMetH M Rows.fnViableRow.laid w)/\sizedMet enc M Tryz.f3 (OpenSpec.ofChange Rows.fnViableSpec) false w args)
   (Rows.fnViableSpec.post enc M Tryz.f3 false true false false):=by
 refine returnsInHanded_of_change_and (C:=Tryz.checked) (X:=λw _=>laidMetH M Rows.fnViableRow.laid w) (λ_ _ _ a6 h=>h.of_heap a6) own bg J func3
  (ChangeSpec.witness_shaped (enc:=enc) (C:=Tryz.checked) (os:=os) (X:=λw _=>laidMetH M Rows.fnViableRow.laid w) false (World.doorLaid M 126 os) #[.slice none 0 0,.slice none 0 0] 8 rfl (World.shaped_of_RefB J J) J J J (Lt os _)) ?_
 intro a ak args al bD bl E z _ _ k _;have n:∀(F:Nat) t v,Tryz.f3.params[F]?=some t->args[F]?=some v->Value.okWide M a .any ak t v:=E;have a3:=z;obtain⟨a9,bc,u,y,rfl,b0,b1⟩:=z;have s:DataW.TrodAll enc M a 0 (λ_=>true) true Tryz.f3.params.toList args.toList al a9:=u;rw[params3]at s n;obtain⟨af,b4,bn,bp,ba,b2,bE,rfl,rfl,q,bd⟩:=trodAll_cons s;obtain⟨ag,b5,bo,br,bb,b3,a4,rfl,rfl,r,bf⟩:=trodAll_cons bd;obtain⟨rfl,rfl,rfl⟩:=trodAll_nil bf;subst a4;obtain rfl:args=#[af,ag]:=by cases args;simp_all
 obtain⟨bv,bw,bx,bA,rfl⟩:=agK y;have G:=q;have a7:∀b∈ba,b.block<a.heap.size:=by obtain⟨o,m⟩:=G;exact DataW.trod_lt o _ _ _ m
 obtain⟨f,d,i,rfl⟩:=okWide_slice underlying22 (n 0 22 af rfl rfl);obtain⟨bs,A⟩:=q;have L:=aon A;have K:=r;have a8:∀b∈bb,b.block<a.heap.size:=by obtain⟨o,m⟩:=K;exact DataW.trod_lt o _ _ _ m
 obtain⟨g,e,j,rfl⟩:=okWide_slice underlying22 (n 1 22 ag rfl rfl);obtain⟨bt,B⟩:=r;have ad:=aon B;have x:Kv a:=aqK (k.filter λb=>b.1 != "loop.example/warp/impl.powers" &&b.1 != "unicode.White_Space" &&b.1 != "strings.asciiSpace");obtain⟨bh,am,a2⟩:=anj (k.filter λb=>b.1== "loop.example/warp/impl.powers");have ar:=arm (k.filter λb=>b.1== "strings.asciiSpace");clear u E;have ap:12<=a.heap.size:=by
  have l:=x.brj;unfold World.cell? at l;rcases aH 11 a.heap.size with h|h
  .exact h
  .rw[adp h]at l;simp at l
 refine(show Calls M 3 #[.slice f d i,.slice g e j] a λp bj=>p= .returned (.bool true)/\Below a.heap.size a bj by
  by_cases an:d<=1048576
  .by_cases ao:e<=1048576
   .obtain⟨C,rfl,av⟩:=akL an A;obtain⟨D,rfl,aL⟩:=akL ao B;exact adn av aL ⟨x,ap,⟨bh,am,a2⟩,ar⟩
   .exact uK a f g d e i j (.inr O) L ad
  .exact uK a f g d e i j (.inl O) L ad).mono λp bk ⟨a5,c⟩=>?_
 subst a5;exact⟨_,rfl,_,_,_,[],_,bc,a3,trodAll_mk1 (shut_bool underlying4 _),(trodAll_cons_mk (Below.trod IE J (be J) G c a7) (trodAll_cons_mk (Below.trod IE J (be J) K c a8) trodAll_mk0)),Below.trodVars IE c J y,c.frame _,λh=>by cases h⟩
