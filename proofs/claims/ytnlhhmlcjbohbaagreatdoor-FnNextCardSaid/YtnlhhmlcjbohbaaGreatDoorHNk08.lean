import Derived.Test.YtnlhhmlcjbohbaaGreatDoorHNk07
import Derived.WalkSmall
set_option linter.all false
set_option maxRecDepth 100000
set_option maxHeartbeats 3200000
open Option renaming some->M,none->U
open Go.Value renaming int->O,string->R,ownBlock->X,slice->Y
open Go.IntKind renaming i64->Q
open Go renaming Value->S,World->V
namespace Go.Proofs.YtnlhhmlcjbohbaaGreatDoor
open Go.RowKit
variable{B j n:Nat}{W W':World}{c:List Nat}{tk:Nat->Tk}{v:Value}
theorem De(s:ByteArray)(ad:s.size<=4100)(w:V):
  Calls Tryz.prog 38 #[R s] w fun e w'=>e= .returned (R (ey (cD s)))/\Below w.heap.size w w':=by
 go_in;go_wp2_with fail;go_loopw [4,5] (fun z r wr=>∃b g:Nat,b<=s.size/\r= O Q b/\wr.ownsRow w.heap.size 5 1 z g (B8 (qt s b))/\Below w.heap.size w wr) (fun _ r _=>s.size-(intOf r).toNat)
 case atStart=>exact⟨0,1,aF _,rfl,zK w 34,(ah _ _).alloc (ae _) _⟩
 case round=>
  obtain⟨b,g,t,rfl,h,c⟩:=hrel;have v:=yw h;have y:=aah s b t;have L:g<=20000:=by omega
  clear v y;by_cases x:b<s.size
  ·have i:Hid (qt s (b+1)=qt s b++esc (s[b].toNat:Int)):=vL s b x;obtain⟨a,q⟩:∃a:Int,a=(s[b].toNat:Int):=⟨_,rfl⟩;have I:0<=a:=by omega
   have J:a<256:=by have:=s[b].toNat_lt;omega
   rw[<-q]at i;have K:∀w,(Instr.index 9 (R s) (O Q (b:Int))).run Tryz.prog w= .ok (O .u8 a) w:=by
    intro w;rw[q];go_simp
   clear q;by_cases k:a=10
   ·subst k;go_wp2_with (at_builtin;refine mz rfl (.tmp 24) (.tmp 25) rfl w.heap.size _ g (qt s b) rfl h c.size (by omega) [92,110] 2 rfl (by decide) (by decide) _ rfl rfl ?_;intro m j w1 f d);go_roundw
    case rel=>exact⟨b+1,_,by omega,by go_num,by rw[i.out];exact f,c.trans d⟩
    case measure=>simp[intOf];omega
   have C:(a==10)=false:=by simp[k]
   by_cases l:a=9
   ·subst l;go_wp2_with (at_builtin;refine mz rfl (.tmp 30) (.tmp 31) rfl w.heap.size _ g (qt s b) rfl h c.size (by omega) [92,116] 2 rfl (by decide) (by decide) _ rfl rfl ?_;intro m j w1 f d);go_roundw
    case rel=>exact⟨b+1,_,by omega,by go_num,by rw[i.out];exact f,c.trans d⟩
    case measure=>simp[intOf];omega
   have E:(a==9)=false:=by simp[l]
   by_cases n:a=34
   ·subst n;go_wp2_with (at_builtin;refine mz rfl (.tmp 40) (.tmp 42) rfl w.heap.size _ g (qt s b) rfl h c.size (by omega) [92,34] 2 rfl (by decide) (by decide) _ rfl rfl ?_;intro m j w1 f d);go_roundw
    case rel=>exact⟨b+1,_,by omega,by go_num,by rw[i.out];exact f,c.trans d⟩
    case measure=>simp[intOf];omega
   have F:(a==34)=false:=by simp[n]
   by_cases o:a=92
   ·subst o;go_wp2_with (at_builtin;refine mz rfl (.tmp 40) (.tmp 42) rfl w.heap.size _ g (qt s b) rfl h c.size (by omega) [92,92] 2 rfl (by decide) (by decide) _ rfl rfl ?_;intro m j w1 f d);go_roundw
    case rel=>exact⟨b+1,_,by omega,by go_num,by rw[i.out];exact f,c.trans d⟩
    case measure=>simp[intOf];omega
   have G:(a==92)=false:=by simp[o]
   by_cases e5:a<32\/126<a
   ·have p:Hid (esc a=[92,120,qA (a / 16),qA (a%16)]):=by unfold esc Hid;rw[aa k,aa l,aa (by omega),ab e5]
    clear k l n o;have af:=aff (a / 16) (by omega) (by omega);have ag:=aff (a%16) (by omega) (by omega);have H:=arj a (by omega) (by omega);rcases e5 with e5|e5;all_goals
     go_wp2_with fail;go_region_held3 (fun w'=>True) (trivial) ((refine ab4 (by rfl) _ _ (by rfl) w.heap.size _ g (qt s b) (by rfl) h c.size (by omega) [92,120,_,_] 4 (by rfl) (by decide) (by decide) _ (by rfl) (by rfl) ?_;intro m j w1 f d))
     all_goals
      go_wp2;go_roundw
      case rel=>exact⟨b+1,_,by omega,by go_num,by rw[i.out,p.out];assumption,c.trans (by assumption)⟩
      case measure=>simp[intOf];omega
   ·have p:Hid (esc a=[a]):=by unfold esc Hid;rw[aa k,aa l,aa (by omega),aa e5]
    have A:¬a<32:=by omega
    have B:¬126<a:=by omega
    clear k l n o e5;go_wp2_with (at_builtin;refine mz rfl (.tmp 17) (.tmp 19) rfl w.heap.size _ g (qt s b) rfl h c.size (by omega) [a] 1 rfl (by decide) (by decide) _ rfl rfl ?_;intro m j w1 f d);go_roundw
    case rel=>exact⟨b+1,_,by omega,by go_num,by rw[i.out,p.out];exact f,c.trans d⟩
    case measure=>simp[intOf];omega
  ·have u:b=s.size:=by omega
   subst u;go_wp2_with (at_builtin;refine mz rfl (.tmp 62) (.tmp 63) rfl w.heap.size _ g (qt s s.size) rfl h c.size (by omega) [34] 1 rfl (by decide) (by decide) _ rfl rfl ?_;intro m j w1 f d;have ak:=oA f);go_ret;exact⟨rfl,c.trans d⟩
theorem Fx(s:ByteArray)(a:s.size<=4000)(w:V):
  Calls Tryz.prog 38 #[R s] w fun e w'=>e= .returned (R (ey (cD s)))/\Below w.heap.size w w':=De s (by omega) w
theorem ej.pos{k:Nat}{ns:List ByteArray}(h:ej tk n k ns j):k<=j/\j<n:=by
 induction h with
 |stop _ h=>exact⟨ae _,h⟩
 |go _ _ _ _ a=>omega
theorem Prm.pos{k:Nat}{ns:List ByteArray}{r:Bool}(h:Prm tk n k ns r j):k+1<=j/\j<n:=by
 induction h with
 |close _ h=>omega
 |rest _ _ h=>omega
 |last _ _ h=>omega
 |go _ _ _ _ a=>omega
def lj:A8->Nat
 | .more _ _ _=>0
 | .post _ _=>0
 | .moreE=>0
 | .moreB=>0
 | .stats=>0
 | .entries=>0
 |_=>1
def slk:A8->Nat
 | .more _ _ _=>0
 | .post _ _=>0
 | .moreE=>0
 | .moreB=>0
 | .stats=>0
 | .entries=>0
 | .entry=>1
 | .stat=>1
 | .branch=>1
 |_=>2
def bas:A8->Nat
 | .more _ _ x=>x.sz
 | .post _ x=>x.sz
 |_=>0
theorem aj7(N:Nd)(ks:Fo)(s:Tk)(e:Int):(qi N ks s e).sz<=(one N ks).sz+1:=by
 unfold qi;split
 ·rw[de];omega
 ·omega
theorem P.pos{i:Nat}{t:A8}{a:Fo}(h:P tk n t i a j):i+lj t<=j/\j<n/\a.sz+slk t+3*i<=bas t+3*j:=by
 induction h
 case bopen i k j N ks a h1 h2 h3 h4 h5 h6 ih1 ih2=>
  have:=aj7 N ks (tk i) (tk k).t;simp only[lj,slk,bas,de,Fo.sz_app,Fo.sz]at *;omega
 case body h1 h2 h3 h4 ih=>
  have:=h3.pos;simp only[lj,slk,bas,de,Fo.sz_app,Fo.sz]at *;omega
 case tlet0 h1 h2 h3 h4 h5=>have:=h4.pos;simp only[lj,slk,bas,de,Fo.sz_app,Fo.sz]at *;omega
 case tlet h1 h2 h3 h4 h5 h6 ih=>have:=h4.pos;simp only[lj,slk,bas,de,Fo.sz_app,Fo.sz]at *;omega
 case tfor h1 h2 h3 h4 h5 h6 h7 ih1 ih2=>have:=h4.pos;simp only[lj,slk,bas,de,Fo.sz_app,Fo.sz]at *;omega
 case teach h1 h2 h3 h4 h5 h6 h7 h8 h9 ih1 ih2=>have:=h4.pos;simp only[lj,slk,bas,de,Fo.sz_app,Fo.sz]at *;omega
 case ttry h1 h2 h3 h4 h5 h6 h7 h8 ih1 ih2=>have:=h7.pos;simp only[lj,slk,bas,de,Fo.sz_app,Fo.sz]at *;omega
 all_goals
  simp only[lj,slk,bas,de,Fo.sz_app,Fo.sz]at *;omega
open Go.Maps Go.WideMaps
theorem ll{base e size g:Nat}{i:List S}(o:W.ownsRow base e size v n i){cs:Array S}{t:TypeId}{fr:Nat×Nat}(c:W.heap[g]?=M (.cells cs t fr))(h:t≠e):v.ownBlock≠M g:=fun a=>by
 rcases o.2 with⟨b,_⟩|⟨d,j,k,b,_,f,_⟩
 ·rw[b]at a;simp[X]at a
 ·rw[b]at a;obtain rfl:d=g:=by simpa [X] using a
  rw[f]at c;cases c;exact h rfl
theorem Hf{base e size:Nat}{a:List S}(o:W.ownsRow base e size v n a){g:Nat}(b:v.ownBlock≠M g)(q:Nat)(u:S):(W.setCell ⟨g,q,U⟩ u).ownsRow base e size v n a:=
 o.kept (row:=M g) ⟨rfl,rfl,rfl,by simp[World.setCell],fun h f c=>aC _ _ _ _ (fun e=>c (by rw[e]))⟩ (by
  cases hv:v.ownBlock with
  |none=>exact .inl rfl
  |some d=>exact .inr (fun e=>b (by rw[hv,e])))
theorem Hg:(Tryz.prog.info? 111).map (fun i=>(i.zero,i.size,i.bytes))=M (M (.agg #[O Q 0,O Q 0,O Q 0,O Q 0,O Q 0,O Q 0,R ⟨#[]⟩,Y U 0 0,Y U 0 0]),9,112):=by kernel_rfl
abbrev yK(N:Nd)(vn vk:S):Array S:=#[O Q N.k,O Q N.f,O Q N.t,O Q N.l,O Q N.op,O Q N.n,R N.x,vn,vk]
structure TkC (cs:Array S) (T:Tk) (q:Nat) (l:Int):Prop where
 c0:cs[q*6]?=M (.int .i64 T.k)
 c1:cs[q*6+1]?=M (.int .i64 T.f)
 c2:cs[q*6+2]?=M (.int .i64 T.t)
 c3:cs[q*6+3]?=M (.int .i64 l)
 c4:cs[q*6+4]?=M (.int .i64 T.n)
 c5:cs[q*6+5]?=M (.string T.x)
 hl:T.k≠6->l=T.l
def TkR(cs:Array S)(tk:Nat->Tk)(n:Nat):Prop:=∀a,a<n->∃b,TkC cs (tk a) a b
structure Pe where
 base:Nat
 pb:Nat
 tb:Nat
 cap:Nat
 n:Nat
 tk:Nat->Tk
section
end
def Fr(s:Nat)(v:S):Prop:=∀a,v.ownBlock=M a->s<=a
theorem Fr.le{s t:Nat}(h:Fr s v)(c:t<=s):Fr t v:=fun a b=>bg c (h a b)
abbrev pV(a:Pe):S:= .pointer (M ⟨a.pb,0,U⟩)
def Af(b:Nat):Deferred:={target:= .collected b,args:=#[]}
structure qj (B:Nat) (c:List Nat) (W:V):Prop where
 nd:c.Nodup
 lo:∀b∈c,B<=b
 at_:∀b∈c,W.heap[b]?=M (.deferred (M []))
structure Hh (c:List Nat) (W W':V):Prop where
 os:W'.os=W.os
 tape:W'.tape=W.tape
 output:W'.output=W.output
 size:W'.heap.size=W.heap.size
 same:∀k,k ∉ c->W'.heap[k]?=W.heap[k]?
theorem pq{g:Fence}{P:Program}{fn:Func}{tmps:Array S}{i:Ending->V->Prop}(B:Nat):∀(c:List Nat)(W:V),qj B c W->(∀W',Hh c W W'->LeavesInM g n P fn tmps i [] .returning W')->LeavesInM g n P fn tmps i (c.map Af) .returning W
 |[],W,_,h=>h W ⟨rfl,rfl,rfl,rfl,fun _ _=>rfl⟩
 |b::c,W,f,h=>by
  have k:=f.at_ b (by simp);have j:=List.nodup_cons.1 f.nd;refine⟨by simp,.inl ⟨b,_,rfl,run_takeDeferred k,?_⟩⟩;refine pq B c _ ⟨j.2,fun e a=>f.lo e (by simp[a]),fun e a=>?_⟩ (fun W' d=>?_)
  ·exact(World.putObj_heap_other (by rintro rfl;exact j.1 a)).trans (f.at_ e (by simp[a]))
  ·refine h W' ⟨d.os,d.tape,d.output,d.size.trans (by simp),fun e a=>?_⟩;simp at a;exact(d.same e a.2).trans (World.putObj_heap_other a.1)
theorem Hh.below{w:V}(h:Hh c W W')(a:Below B w W)(e:∀b∈c,B<=b)(i:B<=w.heap.size):Below B w W':=
 ⟨h.os.trans a.os,h.tape.trans a.tape,h.output.trans a.output,by rw[h.size];exact a.size,fun d f=>(h.same d (fun g=>by have:=e d g;omega)).trans (a.block d f)⟩
theorem qj.below(h:qj B c W)(d:Below W.heap.size W W'):qj B c W':=
 ⟨h.nd,h.lo,fun a b=>(d.block a (Array.getElem?_eq_some_iff.1 (h.at_ a b)).1).trans (h.at_ a b)⟩
theorem qj.keeps(h:qj B c W)(b:KeepsOthers W W'):qj B c W':=
 ⟨h.nd,h.lo,fun a d=>b.same a _ (h.at_ a d) rfl⟩
def N23(st:List Int):Prop:=∀a∈st,a≠2/\a≠3
def c23(s t:Int):Bool:=match eL 8 [s] t 0 with|some (b,_,_)=>b.all (fun a=>decide (a≠2/\a≠3))|none=>true
theorem aj8:((List.range 34).all fun s=>(List.range 78).all fun t=>c23 ((s:Int)+100) ((t:Int)+1))=true:=by decide+kernel
def e23(s:Int):Bool:=decide (((xE s 2).1=[]/\(xE s 2).2=true)↔((xE s 3).1=[]/\(xE s 3).2=true))&&match eL 8 [s] 2 0,eL 8 [s] 3 0 with|some (_,some a,_),some (_,some b,_)=>a==b|_,_=>true
theorem aj9:((List.range 34).all fun s=>e23 ((s:Int)+100))=true:=by decide+kernel
theorem aay{t:Int}(f:1<=t)(g:t<=78):∀(st:List Int),Cn st->N23 st->N23 (feedL st t).1
 |[],_,h=>by rw[feedL];exact h
 |s::r,o,h=>by
  have d:N23 r:=fun a hx=>h a (cL _ hx);have j:=o s bB;by_cases i:s<100
  ·rw[jb i];exact d
  by_cases c:(xE s t).1=[]/\(xE s t).2=true
  ·rw[lH (by omega) c];exact aay f g r (fun a hx=>o a (cL _ hx)) d
  ·obtain⟨l,k,m,e,_⟩:=uA (by omega) j f g c;have b:=List.all_eq_true.1 (List.all_eq_true.1 aj8 (s-100).toNat (by rw[ix];omega)) (t-1).toNat (by rw[ix];omega);rw[show(((s-100).toNat:Nat):Int)+100=s by omega,show(((t-1).toNat:Nat):Int)+1=t by omega]at b;unfold c23 at b;rw[lI (by omega) c e];rw[e]at b;intro a hx;rcases List.mem_append.1 hx with hx|hx
   ·exact aG (List.all_eq_true.1 b a hx)
   ·exact d a hx
theorem ama:∀(st:List Int),Cn st->N23 st->(feedL st 2).2=(feedL st 3).2
 |[],_,h=>by rw[feedL,feedL]
 |s::r,o,h=>by
  have k:=o s bB;by_cases j:s<100
  ·have:=h s bB;rw[jb j,jb j,aD this.1,aD this.2]
  have b:=List.all_eq_true.1 aj9 (s-100).toNat (by rw[ix];omega);rw[show(((s-100).toNat:Nat):Int)+100=s by omega]at b;unfold e23 at b;rw[cd]at b;have e:=aG b.1;by_cases a:(xE s 2).1=[]/\(xE s 2).2=true
  ·rw[lH (by omega) a,lH (by omega) (e.1 a)];exact ama r (fun f d=>o f (cL _ d)) (fun f d=>h f (cL _ d))
  ·obtain⟨p,m,u,g,_⟩:=uA (by omega) k (by omega) (by omega) a;obtain⟨q,n,v,i,_⟩:=uA (t:=3) (by omega) k (by omega) (by omega) (fun c=>a (e.2 c));rw[lI (by omega) a g,lI (by omega) (fun c=>a (e.2 c)) i];have l:=b.2;rw[g,i]at l;exact beq_iff_eq.1 l
section
variable {E : Pe} {W : World} {i : Nat} {L : List Mb} {B : List (Nat × Array Value)}
structure TkW (W:V) (E:Pe) (q:Nat):Prop where
 c0:W.cell? ⟨E.tb,q*6,U⟩=M (.int .i64 (E.tk q).k)
 c1:W.cell? ⟨E.tb,q*6+1,U⟩=M (.int .i64 (E.tk q).f)
 c2:W.cell? ⟨E.tb,q*6+2,U⟩=M (.int .i64 (E.tk q).t)
 c3:W.cell? ⟨E.tb,q*6+3,U⟩=M (.int .i64 (E.tk q).l)
 c4:W.cell? ⟨E.tb,q*6+4,U⟩=M (.int .i64 (E.tk q).n)
 c5:W.cell? ⟨E.tb,q*6+5,U⟩=M (.string (E.tk q).x)
end
section
variable {E : Pe} {W : World} {i : Nat} {L : List Mb} {B : List (Nat × Array Value)}
end
abbrev mj(k:Int)(T:Tk):Array S:=#[O Q k,O Q T.f,O Q T.t,O Q T.l,O Q T.n,R T.x]
abbrev s0:S:= Y U 0 0
section
variable {E : Pe} {W w w' : World} {i j : Nat} {L L1 L' : List Mb} {B B' : List (Nat × Array Value)}
end
section
variable {E : Pe} {i j : Nat}
end
section
variable {E : Pe} {W w w' : World} {i j : Nat} {L L1 L' : List Mb} {B B' : List (Nat × Array Value)}
end
theorem af5:(Tryz.prog.info? 3).map (fun i=>(i.zero,i.size,i.bytes))=M (M (O Q 0),1,8):=by kernel_rfl
theorem Df:(Tryz.prog.info? 9).map (fun i=>(i.zero,i.size,i.bytes))=M (M (R ⟨#[]⟩),1,16):=by kernel_rfl
section
variable {E : Pe} {W w w' : World} {i j : Nat} {L L1 L' : List Mb} {B B' : List (Nat × Array Value)}
end
