import Derived.Test.YtbkolnpplhbdmaaGreatDoorHPl13
set_option linter.all false
set_option maxRecDepth 100000
set_option maxHeartbeats 25600000
open Go.Value renaming slice->M,int->U,pointer->A0,string->A3,string->B4,agg->B7,int->Ck
open Go.IntKind renaming i64->O
open Option renaming none->Z,some->Ad
open Go.AllReadyH renaming cons->Ak,nil->A1
open List renaming set->Ax
open Go renaming wpAnyH_ready->A2,Value->Bn,wp_region_held_drew->Br,World->B1,Calls->B3,TypeId->B6
open Go.World renaming setCell->A5
open Go.Proofs.Tryz renaming prog->A9
open Go.RowKit renaming Hid->Bc,intOf->Ce
open Go.Obj renaming cells->Bk
open Bool renaming false->B0,true->B2
namespace Go.Proofs.YtbkolnpplhbdmaaGreatDoor
open Go.RowKit Go.Maps Go.WideMaps
variable{E:Pe}{R X:Fo}{W:World}{i j k m n:Nat}{o:Obj}
def Trw(st t:B6):Prop:=∃a b,Tryz.prog.underlying st=Ad (.slice t)/\(Tryz.prog.info? t).map (λi=>(i.zero,i.size,i.bytes))=Ad (Ad a,1,b)/\a.cells.size=1/\b<=100
def tI:Trw 32 3:=⟨U O 0,8,Tryz.underlying32,by kernel_rfl,rfl,by decide⟩
def tS:Trw 31 9:=⟨A3 ⟨#[]⟩,16,Tryz.underlying31,by kernel_rfl,rfl,by decide⟩
section
variable {E : Pe} {W w w' : World} {G : Option Nat} {L L1 : List Mb} {i j b q : Nat} {D : Fo} {zs : List Int} {B : Bxs} {R : Rws} {k : Int} {t : TypeId} {cs : Array Value}
def Sq.rd(S:Bc (Sq E W G L w i L1 D zs ((b,t,cs)::B) R)):(∀q,w.cell? ⟨b,q,Z⟩=cs[q]?)/\(∀q,w.frozen? ⟨b,q,Z⟩=B0)/\b<w.heap.size:=by
 have a:=Sq.hd S;exact⟨λq=>by rw[aj _ _ _ _ _ _ a],λq=>cH _ _ _ _ _ a,ai a⟩
def Sq.fin(S:Bc (Sq E W G L w i L1 D zs B R)):Bc (Sq E W G L w i L1 D zs [] R):=S.sub (λb a=>by cases a) vF
def Sq.fin0(S:Bc (Sq E W G L w i L1 D zs B R)):Bc (Sq E W G L w i L1 D zs [] []):=Sq.fin (Sq.less S (List.nil_sublist _))
def Sq.ln(S:Bc (Sq E W G L w i L1 D zs B R)):L1.length=L.length+D.sz:=S.ac.len
def apd{t:Int}{b:Bool}(h:jE t=b)(w:B1):B3 A9 200 #[U O t] w (jt w (.bool b)):=h ▸ tu w t
def ape(k:Int)(w:B1):B3 A9 233 #[U O k] w (jt w (U O (aa3 k))):=by
 unfold aa3;by_cases a:k=25
 .subst a;go_in;go_wp2;go_ret;exact⟨rfl,rfl⟩
 by_cases b:k=50
 .subst b;go_in;go_wp2;go_ret;exact⟨rfl,rfl⟩
 by_cases c:k=69
 .subst c;go_in;go_wp2;go_ret;exact⟨rfl,rfl⟩
 .rw[aa a,aa b,aa c];have d:(k==25)=B0:=by simp[a]
  have e:(k==50)=B0:=by simp[b]
  have f:(k==69)=B0:=by simp[c]
  go_in;go_wp2;go_ret;exact⟨rfl,rfl⟩
def asH{t:Int}{b:Bool}(h:eE t=b)(w:B1):B3 A9 138 #[U O t] w (jt w (.bool b)):=h ▸ tw w t
def arn(a b c d e f:Bn)(w:B1):(Instr.field 49 (B7 #[a,b,c,d,e,f]) 0).run A9 w= .ok a w:=by kernel_rfl
def Sq.rn{b:Option Addr}{c:Nat}{xs:List Bn}(S:Bc (Sq E W G L w i L1 D zs B ((t,M b n c,xs)::R))):xs.length=n:=by
 obtain⟨d,e,a⟩:=di (S.rw _ (.head _)).2.1;simp at a;exact a.2.1.symm
def Sq.at2{r:B6×Bn×List Bn}{a:Option Addr}{c q:Nat}{k:List Int}{x:Int}(S:Bc (Sq E W G L w i L1 D zs B (r::(3,M a n c,k.map iv)::R)))(h:k[q]?=Ad x):∃g,a=Ad ⟨g,0,Z⟩/\w.cell? ⟨g,q,Z⟩=Ad (U O x):=by
 have j:=(S.rw _ (.tail _ (.head _))).2.1;have e:=(List.getElem?_eq_some_iff.1 h).1;rcases bJ j with⟨d,_⟩|⟨g,l,f⟩
 .simp at d;rw[d]at e;simp at e
 .simp only[Value.slice.injEq]at f;obtain⟨rfl,_,_⟩:=f;have b:=j.cells rfl q (U O x) (by rw[cD,h];rfl);rw[show(⟨g,0,Z⟩:Addr).add q=⟨g,q,Z⟩ by unfold Addr.add;split<;>simp_all]at b;exact⟨g,rfl,b⟩
section
variable {ops : Array Oper} {rest : List Oper} {o : Oper} {a : Act} {Q : Exit → Act → World → Prop} {av : Option Addr} {n cv : Nat} {xs : List Value}
def Sq.apG{st:B6}{u:Bn}(T:Trw st t)(S:Bc (Sq E W G L w i L1 D zs B ((t,M av n cv,xs)::R)))(al:n<=50000000)(F:u.oneCell'=B2)(y:o.guard=Z)(s x:Operand)(A:o.op= .call {callee:= .builtin .append,args:=#[s,x],argTypes:=#[st,st]})(C:a.eval s= M av n cv)(I:a.eval x= M (Ad ⟨m,0,Z⟩) 1 1)(e:w.heap.size=m)
  (h:∀g b w1,Bc (Sq E W G L w1 i L1 D zs B ((t,M (Ad ⟨g,0,Z⟩) (n+1) b,xs++[u])::R))->wpList A9 ops Q rest (a.put o.dst (M (Ad ⟨g,0,Z⟩) (n+1) b)) w1):wpList A9 ops Q (o::rest) a (w.alloc (Bk #[u] t)):=by
 subst e;obtain⟨ak,d,k,l,p,q⟩:=T;have⟨af,z,J,K,ad⟩:=fh l;have c:=Sq.below S (dC w (Bk #[u] t));have j:=(c.rw _ (.head _)).2.1;simp only[Sq.rn S]at j;have e:(n+1)*d<=50000001*100:=Nat.mul_le_mul (by omega) q;refine wpList_append_own_at _ y s x st A W.heap.size t af ak 1 d k z J K ad p (by decide) _ _ _ C j ⟨w.heap.size,0,Z⟩ 1 1 [u] I rfl (cell_one_new _ _ _) (by intro an H;rw[List.mem_singleton.1 H];exact F) (by unfold maxLen;omega) (by omega) (Sq.low c).2 ?_;intro ao w1 f v _ r;obtain⟨g,b,rfl⟩:=ownsRow_succ f;exact h g b w1 (Sq.put c v (by simpa [Sq.rn S] using f) r)
def Sq.app{l:List Int}{z:Int}(S:Bc (Sq E W G L w i L1 D (l++[z]) B ((3,M av n cv,xs)::R)))(t:L1.length<=50000000)(f:o.guard=Z)(s x:Operand)(j:o.op= .call {callee:= .builtin .append,args:=#[s,x],argTypes:=#[32,32]})(k:a.eval s= M av n cv)(m:a.eval x= M (Ad ⟨w.heap.size,0,Z⟩) 1 1)(p:xs=l.map iv)
  (h:∀g b w1,Bc (Sq E W G L w1 i L1 D (l++[z]) B ((3,M (Ad ⟨g,0,Z⟩) (n+1) b,(l++[z]).map iv)::R))->wpList A9 ops Q rest (a.put o.dst (M (Ad ⟨g,0,Z⟩) (n+1) b)) w1):wpList A9 ops Q (o::rest) a (w.alloc (Bk #[U O z] 3)):=by
 subst p;have d:=Sq.rn S;have e:=congrArg List.length S.tp;have q:=D.len_le;have r:=S.ac.len;rw[Fo.tops_len,aG]at e;rw[bq]at d;exact Sq.apG tI S (by omega) rfl f s x j k m rfl λg b w1 c=>h g b w1 (by rw[eJ];exact c)
end
end
abbrev tkV(k:Int)(T:Tk):Bn:= B7 (qh k T)
abbrev fnV(T:Tk):Bn:= B7 #[U O 36,U O T.f,U O 0,U O T.l,U O 0,U O 0,A3 ⟨#[]⟩,s0,s0]
abbrev ndA(k op n:Int)(x:ByteArray)(T:Tk)(vn vk:Bn):Array Bn:=#[U O k,U O T.f,U O 0,U O T.l,U O op,U O n,A3 x,vn,vk]
section
variable (E : Pe)
abbrev CX(p:Int)(i:Nat)(x:Fo)(j:Nat):Prop:=CI E 148 #[pV E,U O p] i x j
abbrev CU(i:Nat)(x:Fo)(j:Nat):Prop:=CI E 204 #[pV E] i x j
abbrev CB(i:Nat)(x:Fo)(j:Nat):Prop:=CI E 152 #[pV E] i x j
abbrev CK(i:Nat)(x:Fo)(j:Nat):Prop:=CI E 141 #[pV E] i x j
abbrev CLx(i:Nat)(x:Fo)(j:Nat):Prop:=CL E 146 #[pV E] i x j
abbrev CSs(i:Nat)(x:Fo)(j:Nat):Prop:=CL E 38 #[pV E,U O 43] i x j
abbrev CBd(T:Tk)(i:Nat)(x:Fo)(j:Nat):Prop:=CI E 149 #[pV E,fnV T] i x j
abbrev CBr(k:Int)(i:Nat)(x:Fo)(j:Nat):Prop:=CI E 150 #[pV E,tkV k (E.tk i)] (i+1) x j
inductive Wu (i:Nat):FuncId->Fo->Nat->Prop
 |leaf {k nk:Int}:(k=24/\nk=20)\/(k=29/\nk=21)\/(k=17/\nk=22)\/(k=49/\nk=27)->(E.tk i).k=k->i+1<E.n->Wu i 204 (one (jx nk (E.tk i) (E.tk i).t) .nil) (i+1)
 |int:(E.tk i).k=2->i+1<E.n->Wu i 204 (one (nd 23 (E.tk i) (E.tk i).t 0 (E.tk i).n z0 []) .nil) (i+1)
 |word {k nk:Int}:(k=3/\nk=24)\/(k=4/\nk=25)->(E.tk i).k=k->i+1<E.n->Wu i 204 (one (nd nk (E.tk i) (E.tk i).t 0 0 (E.tk i).x []) .nil) (i+1)
 |pre {k:Int}{x:Fo}{j:Nat}:k=25\/k=50\/k=62\/k=69->(E.tk i).k=k->i<E.n->CU E (i+1) x j->i+1<=j->j<=E.n->Wu i 204 (one (nd 30 (E.tk i) (E.tk (j-1)).t (aa3 k) 0 z0 []) x) j
 |fn {x:Fo}{j:Nat}:(E.tk i).k=18->i<E.n->CBd E (E.tk i) (i+1) x j->Wu i 204 x j
 |base {k:Int}{x:Fo}{j:Nat}:k=1\/k=40->(E.tk i).k=k->i<E.n->CB E i x j->Wu i 204 x j
 |block {k:Nat}{x:Fo}:(E.tk i).k=42->i<E.n->CSs E (i+1) x k->(E.tk k).k=43->k+1<E.n->Wu i 141 (one (jx 1 (E.tk i) (E.tk k).t) x) (k+1)
end
def qx{f:FuncId}(h:Wu E i f X j):CI E f #[pV E] i X j:=by
 cases h
 case' leaf h _ _=>rcases h with⟨rfl,rfl⟩|⟨rfl,rfl⟩|⟨rfl,rfl⟩|⟨rfl,rfl⟩
 case' word h _ _=>rcases h with⟨rfl,rfl⟩|⟨rfl,rfl⟩
 case' pre h _ _ _ _ _=>rcases h with rfl|rfl|rfl|rfl
 case' base h _ _ _=>rcases h with rfl|rfl
 all_goals
  intro n l m h g;have a:=am h;try simp only[bz,Fo.sz_app,Fo.sz]at g
  go_in
  repeat' (go_wp2_with fail;first
   |(go_at_call 74;refine dt (Sq.kind a (by assumption)) λc a=>?_)
   |(go_at_call 143;refine dt (Sq.take (by first|exact a|exact Sq.set a) (by assumption)) λc a=>?_;(try have e:=Sq.rd a))
   |(go_at_call 200;first|refine fC (apd (b:=B2) (by decide) _) ?_|refine fC (apd (b:=B0) (by decide) _) ?_)
   |(go_at_call 233;refine fC (ape _ _) ?_)
   |(go_at_call 144;refine dt (Sq.node (by first|exact a|exact Sq.box a)) λc a=>?_;(try have e:=Sq.rd a))
   |(go_at_call 147;refine(Sq.add (by first|exact a|exact Sq.lit1 (Sq.box a)|exact Sq.box a) (.inl ⟨rfl,rfl⟩) (by first|exact .inl ⟨rfl,rfl⟩|exact .inr (.head _)) (by have:=Sq.ln a;simp only[Fo.sz_app,Fo.sz]at this;omega)).mono ?_;rintro q c ⟨k,rfl,d,a⟩)
   |(refine Sq.cq (by first|exact a|exact Sq.box a) (by assumption) (by have:=Sq.ln a;simp only[Fo.sz_app,Fo.sz]at this;omega) ?_;(first|rintro c _ d _ _ ⟨k,rfl,rfl,rfl⟩ a|rintro c _ d r _ ⟨o,p,rfl,rfl⟩ a);(try have e:=Sq.rd a)))
  all_goals
   go_wp2;go_ret;exact⟨_,_,_,_,rfl,⟨_,rfl,rfl,rfl⟩,Sq.fin a⟩
section
variable (E : Pe)
inductive Ws (i:Nat):FuncId->Array Value->Nat->Fo->Nat->Prop
 |blk {x:Fo}{j:Nat}:(E.tk i).k=42->i<E.n->CK E i x j->Ws i 76 #[pV E] i x j
 |smp {k:Int}{x:Fo}{j:Nat}:k=1\/k=40->(E.tk i).k=k->i<E.n->CI E 142 #[pV E] i x j->Ws i 76 #[pV E] i x j
 |let0 {ns:List ByteArray}{k:Nat}:(E.tk i).k=22->i<E.n->CM E (i+1) ns k->1<=k->k<E.n->(E.tk k).k≠47->Ws i 76 #[pV E] i (one (nd 2 (E.tk i) (E.tk (k-1)).t 0 0 z0 ns) .nil) k
 |let1 {ns:List ByteArray}{k j:Nat}{x:Fo}:(E.tk i).k=22->i<E.n->CM E (i+1) ns k->k<E.n->(E.tk k).k=47->CLx E (k+1) x j->1<=j->j<=E.n->Ws i 76 #[pV E] i (one (nd 2 (E.tk i) (E.tk (j-1)).t 0 0 z0 ns) x) j
 |con {ns:List ByteArray}{k j:Nat}{x:Fo}:(E.tk i).k=13->i<E.n->CM E (i+1) ns k->k<E.n->(E.tk k).k=47->CX E 0 (k+1) x j->1<=j->j<=E.n->Ws i 76 #[pV E] i (one (nd 3 (E.tk i) (E.tk (j-1)).t 0 0 z0 ns) x) j
 |iff {x:Fo}{j:Nat}:(E.tk i).k=20->i<E.n->CBr E 20 i x j->Ws i 76 #[pV E] i x j
 |whl {x y:Fo}{k j:Nat}:(E.tk i).k=31->i<E.n->CX E 0 (i+1) x k->CK E k y j->1<=j->j<=E.n->Ws i 76 #[pV E] i (one (jx 8 (E.tk i) (E.tk (j-1)).t) (x.app y)) j
 |for_ {x:Fo}{j:Nat}:(E.tk i).k=19->i<E.n->CI E 151 #[pV E,tkV 19 (E.tk i)] (i+1) x j->Ws i 76 #[pV E] i x j
 |leaf {k nk:Int}:(k=11/\nk=11)\/(k=23/\nk=12)->(E.tk i).k=k->i+1<E.n->Ws i 76 #[pV E] i (one (jx nk (E.tk i) (E.tk i).t) .nil) (i+1)
 |ret0:(E.tk i).k=27->i+1<E.n->eE (E.tk (i+1)).k=false->Ws i 76 #[pV E] i (one (jx 13 (E.tk i) (E.tk i).t) .nil) (i+1)
 |ret1 {x:Fo}{j:Nat}:(E.tk i).k=27->i+1<E.n->eE (E.tk (i+1)).k=true->CLx E (i+1) x j->1<=j->j<=E.n->Ws i 76 #[pV E] i (one (jx 13 (E.tk i) (E.tk (j-1)).t) x) j
 |try_ {ns:List ByteArray}{x y:Fo}{k k1 j:Nat}:(E.tk i).k=30->i<E.n->CK E (i+1) x k->(E.tk k).k=12->k<E.n->CM E (k+1) ns k1->CK E k1 y j->1<=j->j<=E.n->Ws i 76 #[pV E] i (one (nd 14 (E.tk i) (E.tk (j-1)).t 0 0 z0 ns) (x.app y)) j
 |thr {x:Fo}{j:Nat}:(E.tk i).k=28->i<E.n->CX E 0 (i+1) x j->1<=j->j<=E.n->Ws i 76 #[pV E] i (one (jx 15 (E.tk i) (E.tk (j-1)).t) x) j
 |dfr {x:Fo}{j:Nat}:(E.tk i).k=14->i<E.n->CB E (i+1) x j->1<=j->j<=E.n->Ws i 76 #[pV E] i (one (jx 16 (E.tk i) (E.tk (j-1)).t) x) j
 |bno {q:Int}{x y:Fo}{k k1:Nat}:q=20\/q=15->(E.tk i).k=q->i<E.n->CX E 0 (i+1) x k->CK E k y k1->1<=k1->k1<E.n->(E.tk k1).k≠15->(E.tk k1).k≠16->Ws i 150 #[pV E,tkV q (E.tk i)] (i+1) (one (jx 7 (E.tk i) (E.tk (k1-1)).t) (x.app y)) k1
 |belif {q:Int}{x y z:Fo}{k k1 j:Nat}:q=20\/q=15->(E.tk i).k=q->i<E.n->CX E 0 (i+1) x k->CK E k y k1->k1<E.n->(E.tk k1).k=15->CBr E 15 k1 z j->1<=j->j<=E.n->Ws i 150 #[pV E,tkV q (E.tk i)] (i+1) (one (jx 7 (E.tk i) (E.tk (j-1)).t) ((x.app y).app z)) j
 |belse {q:Int}{x y z:Fo}{k k1 j:Nat}:q=20\/q=15->(E.tk i).k=q->i<E.n->CX E 0 (i+1) x k->CK E k y k1->k1<E.n->(E.tk k1).k=16->CK E (k1+1) z j->1<=j->j<=E.n->Ws i 150 #[pV E,tkV q (E.tk i)] (i+1) (one (jx 7 (E.tk i) (E.tk (j-1)).t) ((x.app y).app z)) j
 |lfor {ns:List ByteArray}{x y:Fo}{k k1 j:Nat}:(E.tk i).k=19->i<E.n->CM E (i+1) ns k->k<E.n->(E.tk k).k=47->CLx E (k+1) x k1->CK E k1 y j->1<=j->j<=E.n->Ws i 151 #[pV E,tkV 19 (E.tk i)] (i+1) (one (nd 9 (E.tk i) (E.tk (j-1)).t 0 0 z0 ns) (x.app y)) j
 |leach {ns:List ByteArray}{x y:Fo}{k k1 j:Nat}:(E.tk i).k=19->i<E.n->CM E (i+1) ns k->k<E.n->(E.tk k).k=21->CX E 0 (k+1) x k1->CK E k1 y j->1<=j->j<=E.n->Ws i 151 #[pV E,tkV 19 (E.tk i)] (i+1) (one (nd 10 (E.tk i) (E.tk (j-1)).t 0 0 z0 ns) (x.app y)) j
end
def jl{d:Nat}{f:FuncId}{args:Array Bn}(h:Ws E i f args d X j):CI E f args d X j:=by
 cases h
 case' smp h _ _ _=>rcases h with rfl|rfl
 case' leaf h _ _=>rcases h with⟨rfl,rfl⟩|⟨rfl,rfl⟩
 case' bno h _ _ _ _ _ _ _ _=>rcases h with rfl|rfl
 case' belif h _ _ _ _ _ _ _ _ _=>rcases h with rfl|rfl
 case' belse h _ _ _ _ _ _ _ _ _=>rcases h with rfl|rfl
 all_goals
  intro q o p h l;have a:=am h;have t:=arn;try simp only[bz,Fo.sz_app,Fo.sz]at l
  try have v:=beq_eq_false_iff_ne.2 (by assumption:(E.tk _).k≠15)
  go_in
  repeat' (go_wp2_with (at_builtin;refine Sq.app a (by have:=Sq.ln a;simp only[Fo.sz_app,Fo.sz]at this;(try simp only[Fo.sz]);omega) rfl _ _ rfl rfl rfl rfl ?_;intro u r b a;have m:=Sq.rd a);(first
   |(go_at_call 74;first|refine dt (Sq.kind (by first|exact a|exact Sq.box a|exact Sq.lit2 (Sq.set a)) (by assumption)) λb a=>?_|refine dt (Sq.kind (by first|exact a|exact Sq.box a|exact Sq.lit2 (Sq.set a)) rfl) λb a=>?_)
   |(go_at_call 143;refine dt (Sq.take (by first|exact a|exact Sq.set a|exact Sq.box a) (by assumption)) λb a=>?_)
   |(go_at_call 75;first|refine dt (Sq.isY (by first|exact a|exact Sq.set a) (by assumption)) λb a=>?_|refine dt (Sq.isN (by first|exact a|exact Sq.set a) (by assumption)) λb a=>?_)
   |(go_at_call 138;refine fC (asH (by assumption) _) ?_)
   |(go_at_call 144;refine dt (Sq.node (by first|exact a|exact Sq.box a)) λb a=>?_)
   |(go_at_call 147;refine(Sq.add (by first|exact a|exact Sq.set a|exact Sq.lit1 (Sq.box a)|exact Sq.lit2 (Sq.set a)|exact Sq.box a) (by first|exact .inl ⟨rfl,rfl⟩|exact .inr (.head _)|exact .inr (.tail _ (.head _))) (by first|exact .inl ⟨rfl,rfl⟩|exact .inr (.head _)) (by have:=Sq.ln a;simp only[Fo.sz_app,Fo.sz]at this;(try simp only[Fo.sz]);omega)).mono ?_;rintro s b ⟨n,rfl,c,a⟩)
   |(refine Sq.cq (by first|exact a|exact Sq.set a|exact Sq.box a|exact Sq.lit2 (Sq.set a)) (by assumption) (by have:=Sq.ln a;simp only[Fo.sz_app,Fo.sz]at this;(try simp only[Fo.sz]);omega) ?_;(first|rintro b _ c _ _ ⟨n,rfl,rfl,rfl⟩ a|rintro b _ c w _ ⟨e,g,rfl,rfl⟩ a|(rintro b _ c _ _ ⟨e,g,rfl,rfl,rfl⟩ a;rw[Fo.app_nil,dk]at a))));(try have m:=Sq.rd a))
  all_goals
   go_wp2;go_ret;exact⟨_,_,_,_,rfl,⟨_,rfl,rfl,rfl⟩,Sq.fin a⟩
inductive Pt (E:Pe):Nat->Nat->List ByteArray->Bool->Nat->Prop where
 |stop {k:Nat}:(E.tk k).k=41->k<E.n->Pt E 0 k [] false k
 |name {m k j:Nat}{ns:List ByteArray}{r:Bool}:(E.tk k).k=1->k<E.n->Pt E m (k+1) ns r j->Pt E (m+1) k ((E.tk k).x::ns) r j
 |rest {m k j:Nat}{ns:List ByteArray}{r:Bool}:(E.tk k).k=49->k<E.n->Pt E m (k+1) ns r j->Pt E (m+1) k ns true j
 |com {m k j:Nat}{ns:List ByteArray}{r:Bool}:(E.tk k).k=46->k<E.n->Pt E m (k+1) ns r j->Pt E (m+1) k ns r j
def Pt.of{ns:List ByteArray}{r:Bool}(h:Prm E.tk E.n k ns r j):∃m,Pt E m k ns r (j-1)/\(E.tk (j-1)).k=41/\k+1<=j/\j<E.n:=by
 induction h with
 |close b a=>exact⟨0,.stop b (by omega),b,by omega,a⟩
 |rest b a c=>exact⟨1,.rest b (by omega) (.stop a (by omega)),a,by omega,c⟩
 |last b a c=>exact⟨1,.name b (by omega) (.stop a (by omega)),a,by omega,c⟩
 |go b a c i d=>
  obtain⟨m,e,f,l,g⟩:=d;exact⟨m+2,.name b (by omega) (.com a (by omega) e),f,by omega,g⟩
def opR(b:Bool):Int:=if b=B2 then 1 else 0
section
variable {E : Pe} {i j : Nat}
def apf{T:Tk}{g:List ByteArray}{r:Bool}{x:Fo}(al:(E.tk i).k=40)(a5:i<E.n)(ar:Pt E m (i+1) g r k)(G:(E.tk k).k=41)(a8:k+1<E.n)(av:CK E (k+1) x j)(a6:k+1<=j)(a7:j<=E.n):CBd E T i (one (nd 36 T (E.tk (j-1)).t (opR r) 0 z0 g) x) j:=by
 intro F H C ad ao;have a:=am ad;have I:=am ar;have a9:=a.lo.2.2.2;rw[bz]at ao;go_in;go_wp2_with fail;refine dt (Sq.take (Sq.nil (t:=9) (Sq.box a)) al) λb a=>?_;go_wp2;go_loopg [5] m (λgk ba wr=>∃(d:Nat) (D q:List ByteArray) (u:Int) (s:Bool) (h:Option Addr) (n l:Nat),Bc (Pt E gk d q s k/\Sq E F H C wr d C .nil [] [(F.heap.size,34,ndA 36 u 0 ⟨#[]⟩ T (M h n l) s0)] [(9,M h n l,D.map B4)]/\D++q=g/\(∃v,u=opR v/\(v||s)=r)/\n<=d))
 case atStart=>exact⟨i+1,[],g,0,r,Z,0,0,I,a,rfl,⟨B0,rfl,by simp⟩,by omega⟩
 case round=>
  obtain⟨d,D,q,u,s,h,n,l,B⟩:=hrel;obtain⟨af,a,w,y,a4⟩:=B.out;have e:=gF w y;clear w y B;cases af with
  |stop c z=>
   go_wp2_with fail;refine dt (Sq.kind a G) λb a=>?_;go_wp2_with fail;refine dt (Sq.take a G) λb a=>?_;go_wp2_with fail;refine Sq.cq a av (by omega) ?_;rintro b _ J _ _ ⟨a1,rfl,rfl,rfl⟩ a;have A:=Sq.rd a;have ap:=Sq.ln a;rw[show(Fo.nil.app x)=x from rfl]at ap;go_wp2_with fail;refine(Sq.add (Sq.lit2 (Sq.set a)) (.inr (.tail _ (.head _))) (.inr (.head _)) (by omega)).mono ?_;rintro a2 b ⟨a1,rfl,J,a⟩;go_wp2_with fail;go_ret;obtain⟨w,v,y,ak⟩:=e.out;obtain rfl:D=g:=by simpa using w
   obtain rfl:v=r:=by simpa using ak
   subst y;exact⟨_,_,_,_,rfl,⟨_,rfl,rfl,rfl⟩,Sq.fin a⟩
  |@name p _ _ aK _ c z o=>
   have f:=am o;go_wp2_with fail;refine dt (Sq.kind a c) λb a=>?_;go_wp2_with fail;refine dt (Sq.take a c) λb a=>?_;have A:=Sq.rd a;go_wp2_with (at_builtin;refine Sq.apG tS (Sq.box a) (by omega) rfl rfl _ _ rfl rfl rfl (by simp) ?_;intro a3 K b a;have a:=Sq.tail a;have A:=Sq.rd a);go_roundg p
   case measure=>omega
   case rel=>exact⟨d+1,D++[(E.tk d).x],aK,u,s,_,n+1,K,f,by rw[eJ];exact Sq.set a,by rw[bC];exact e.1,e.2,by omega⟩
  |@rest p _ _ _ a0 c z o=>
   have f:=am o;go_wp2_with fail;refine dt (Sq.kind a c) λb a=>?_;go_wp2_with fail;refine dt (Sq.take a c) λb a=>?_;have A:=Sq.rd a;go_wp2;go_roundg p
   case measure=>omega
   case rel=>exact⟨d+1,D,q,1,a0,h,n,l,f,Sq.below (Sq.set a) (dC _ _),e.1,⟨B2,rfl,by obtain⟨v,_,L⟩:=e.2;rw[<-L];simp⟩,by omega⟩
  |@com p _ _ _ _ c z o=>
   have f:=am o;go_wp2_with fail;refine dt (Sq.kind a c) λb a=>?_;go_wp2_with fail;refine dt (Sq.take a c) λb a=>?_;go_wp2;go_roundg p
   case measure=>omega
   case rel=>exact⟨d+1,D,q,u,s,h,n,l,f,Sq.below a (dC _ _),e.1,e.2,by omega⟩
end
def aro(k:Int)(b:gG k=B2)(d:k<=78)(w:B1):B3 A9 205 #[U O k] w (jt w (.tuple #[U O (Bj k),U O (Ky k)])):=by
 have c:=aB b;have a:k=10\/k=26\/k=61\/k=62\/k=63\/k=64\/k=65\/k=66\/k=67\/k=68\/k=69\/k=70\/k=71\/k=72\/k=73\/k=74\/k=75\/k=76\/k=77\/k=78:=by omega
 rcases a with rfl|rfl|rfl|rfl|rfl|rfl|rfl|rfl|rfl|rfl|rfl|rfl|rfl|rfl|rfl|rfl|rfl|rfl|rfl|rfl;all_goals
  go_in;go_wp2;first
   |(go_ret;exact⟨rfl,rfl⟩)
   |(go_ret2;exact⟨rfl,rfl⟩)
def apg{t:Int}{b:Bool}(h:gG t=b)(w:B1):B3 A9 203 #[U O t] w (jt w (.bool b)):=h ▸ Bm w t
inductive Ms (E:Pe) (C:Int->Nat->Fo->Nat->Prop) (p:Int) (s:Tk):Nat->Fo->Nat->Fo->Nat->Prop where
 |stop {x:Fo}{k:Nat}:k<E.n->(gG (E.tk k).k=true->Bj (E.tk k).k<p)->Ms E C p s 0 x k x k
 |go {m k k1 j:Nat}{x y R:Fo}:k<E.n->gG (E.tk k).k=true->p<=Bj (E.tk k).k->C (Ky (E.tk k).k) (k+1) y k1->k+1<=k1->k1<=E.n->Ms E C p s m (one (sn (E.tk k).k s (E.tk (k1-1)).t) (x.app y)) k1 R j->Ms E C p s (m+1) x k R j
def Ms.le{C:Int->Nat->Fo->Nat->Prop}{p:Int}{s:Tk}{x:Fo}(h:Ms E C p s m x k R j):x.sz<=R.sz:=by
 induction h with
 |stop=>exact ag _
 |go _ _ _ _ _ _ _ a=>rw[bz,Fo.sz_app]at a;omega
def arp(k j:Nat)(h:k<W.heap.size):(W.alloc o).cell? ⟨k,j,Z⟩=W.cell? ⟨k,j,Z⟩:=World.cell?_alloc_past _ _ _ h
section
variable {E : Pe} {i j : Nat}
def aph{p:Int}{x:Fo}(ak:(E.tk i).k≠6)(an:i<E.n)(o:∀q,(E.tk q).k<=78)(ar:CU E i x k)(B:Ms E (CX E) p (E.tk i) m x k R j):CX E p i R j:=by
 intro f C J ad ba;have a:=am ad;have a3:=a.cells;have t:=a.tkw an ak;unfold TkW at t;have bd:=a.lo;have I:=am B;have bh:=B.le;have a9:(i:Int)<(E.n:Int):=by omega
 have a8:(0:Int)<=(i:Int):=by omega
 have bj:IntKind.i64.wrap (i:Int)=(i:Int):=by rw[dr];omega
 go_in;go_wp2_with fail;go_region_held3 (λa0=>∀k j,k<f.heap.size->a0.cell? ⟨k,j,Z⟩=f.cell? ⟨k,j,Z⟩) (first|exact arp|exact λ_ _ _=>rfl) (fail)
 replace a:=Sq.below (Sq.box (cs:=qh (E.tk i).k (E.tk i)) (t:=49) a) (bF (ah _ _));generalize World.drew _=d at a⊢;go_wp2_with fail;refine Sq.cq a ar (by omega) ?_;rintro d _ u _ _ ⟨g,rfl,rfl,rfl⟩ a;go_wp2;go_loopg [6] m (λgk aK wr=>∃(k:Nat) (l:Fo) (s:Int) (K:List Mb),aK= U O s/\Bc (Ms E (CX E) p (E.tk i) gk l k R j/\Sq E f C J wr k K l [s] [(f.heap.size,49,qh (E.tk i).k (E.tk i))] []))
 case atStart=>exact⟨k,_,g,_,rfl,I,a⟩
 case round=>
  obtain⟨b,l,s,a1,rfl,G⟩:=hrel;have⟨af,a⟩:=G.out;cases af with
  |stop w y=>
   cases c:gG (E.tk j).k with
   |false=>
    go_wp2_with fail;refine dt (Sq.kind a rfl) λd a=>?_;go_wp2_with fail;refine fC (apg c _) ?_;go_wp2;go_ret;exact⟨_,_,_,_,rfl,⟨_,rfl,rfl,rfl⟩,Sq.fin a⟩
   |true=>
    have bf:=y c;go_wp2_with fail;refine dt (Sq.kind a rfl) λd a=>?_;go_wp2_with fail;refine fC (apg c _) ?_;go_wp2_with fail;refine dt (Sq.kind a rfl) λd a=>?_;go_wp2_with fail;refine fC (aro _ c (o _) _) ?_;go_wp2;go_ret;exact⟨_,_,_,_,rfl,⟨_,rfl,rfl,rfl⟩,Sq.fin a⟩
  |@go av _ e _ _ bl a2 w c y L a6 a7 z=>
   have F:=am z;have ap:=z.le;rw[bz,Fo.sz_app]at ap;have bb:¬Bj (E.tk b).k<p:=by omega
   have al:(E.tk b).k≠6:=λv=>by rw[v]at c;revert c;decide
   have bk:IntKind.i64.wrap ((E.tk b).k-60)=(E.tk b).k-60:=by rw[dr];have:=o b;have:(E.tk b).k=10\/(E.tk b).k=26\/60<(E.tk b).k:=aB c;omega
   go_wp2_with fail;refine dt (Sq.kind a rfl) λd a=>?_;go_wp2_with fail;refine fC (apg c _) ?_;go_wp2_with fail;refine dt (Sq.kind a rfl) λd a=>?_;go_wp2_with fail;refine fC (aro _ c (o _) _) ?_;go_wp2_with fail;refine dt (Sq.take a rfl w al) λd a=>?_;go_wp2_with fail;refine Sq.cq (Sq.box a) L (by have:=Sq.ln a;omega) ?_;rintro d _ u _ _ ⟨g,rfl,rfl,rfl⟩ a;have r:=Sq.rd a;have bn:=Sq.rd (Sq.tail a);have ao:=Sq.ln a;rw[Fo.sz_app]at ao;go_wp2_with fail;refine dt (Sq.node a) λd a=>?_;have r:=Sq.rd a;have H:Bc (((E.tk b).k=10\/(E.tk b).k=26)\/((E.tk b).k≠10/\(E.tk b).k≠26)):=by show _\/_;omega
   rcases H.out with(hK|hK)|⟨hK,A⟩
   case' inl.inl=>rw[hK]at r;have h:=am (show sn (E.tk b).k (E.tk i) (E.tk (e-1)).t=jx 28 (E.tk i) (E.tk (e-1)).t by rw[hK];rfl)
   case' inl.inr=>rw[hK]at r;have h:=am (show sn (E.tk b).k (E.tk i) (E.tk (e-1)).t=jx 29 (E.tk i) (E.tk (e-1)).t by rw[hK];rfl)
   case' inr=>have a4:=beq_eq_false_iff_ne.2 hK;have a5:=beq_eq_false_iff_ne.2 A;have h:=am (show sn (E.tk b).k (E.tk i) (E.tk (e-1)).t=nd 31 (E.tk i) (E.tk (e-1)).t ((E.tk b).k-60) 0 z0 [] by unfold sn;rw[aa hK,aa A])
   all_goals
    go_wp2_with fail;refine(Sq.add (Sq.lit1 (Sq.box a)) (.inl ⟨rfl,rfl⟩) (.inr (.head _)) (by omega)).mono ?_;rintro v d ⟨g,rfl,u,a⟩;go_wp2;go_roundg av
    case measure=>omega
    case rel=>exact⟨e,_,g,_,rfl,F,by rw[h.out];exact Sq.tail (Sq.tail a)⟩
end
inductive LH (E:Pe) (C D:Nat->Fo->Nat->Prop) (s:Tk):Nat->Fo->Nat->Fo->Nat->Prop where
 |stop {X:Fo}{k:Nat}:k<E.n->yJ (E.tk k).k=false->LH E C D s 0 X k X k
 |dot {m k j:Nat}{X R:Fo}:(E.tk k).k=48->(E.tk (k+1)).k=1->k+2<E.n->LH E C D s m (one (nd 33 s (E.tk (k+1)).t 0 0 (E.tk (k+1)).x []) X) (k+2) R j->LH E C D s (m+1) X k R j
 |sq {m k k1 j:Nat}{X Y R:Fo}:(E.tk k).k=44->k<E.n->C (k+1) Y k1->(E.tk k1).k=45->k1+1<E.n->LH E C D s m (one (jx 32 s (E.tk k1).t) (X.app Y)) (k1+1) R j->LH E C D s (m+1) X k R j
 |call0 {m k j:Nat}{X R:Fo}:(E.tk k).k=40->(E.tk (k+1)).k=41->k+2<E.n->LH E C D s m (one (jx 34 s (E.tk (k+1)).t) X) (k+2) R j->LH E C D s (m+1) X k R j
 |call {m k k1 j:Nat}{X Y R:Fo}:(E.tk k).k=40->k+1<E.n->(E.tk (k+1)).k≠41->D (k+1) Y k1->(E.tk k1).k=41->k1+1<E.n->LH E C D s m (one (jx 34 s (E.tk k1).t) (X.app Y)) (k1+1) R j->LH E C D s (m+1) X k R j
def LH.le{C D:Nat->Fo->Nat->Prop}{s:Tk}(h:LH E C D s m X k R j):X.sz<=R.sz:=by
 induction h with
 |stop=>exact ag _
 |dot _ _ _ _ a=>rw[bz]at a;omega
 |sq _ _ _ _ _ _ a=>rw[bz,Fo.sz_app]at a;omega
 |call0 _ _ _ _ a=>rw[bz]at a;omega
 |call _ _ _ _ _ _ _ a=>rw[bz,Fo.sz_app]at a;omega
inductive Su (E:Pe) (i:Nat):Int->Fo->Nat->Prop
 |name:Su E i 1 (one (nd 26 (E.tk i) (E.tk i).t 0 0 (E.tk i).x []) .nil) (i+1)
 |held {N:Nd}{ks:Fo}{k:Nat}{q:Int}:CX E 0 (i+1) (one N ks) k->(E.tk k).k=41->i+1<=k->q=34\/q=27->N.k=q->Su E i 40 (one (jx 37 (E.tk i) (E.tk k).t) (one N ks)) (k+1)
 |par {N:Nd}{ks:Fo}{k:Nat}:CX E 0 (i+1) (one N ks) k->(E.tk k).k=41->i+1<=k->(N.k==34)=false->(N.k==27)=false->Su E i 40 (one N ks) (k+1)
section
variable {E : Pe} {W w : World} {G : Option Nat} {L L1 : List Mb} {i j : Nat} {D : Fo} {zs : List Int} {B : Bxs} {R : Rws}
def Sq.top{N:Nd}{ks:Fo}{z:Int}(S:Bc (Sq E W G L w i L1 (one N ks) [z] B R)):∃q g a:Nat,z=(q:Int)/\w.cell? ⟨E.pb,2,Z⟩=Ad (M (Ad ⟨g,0,Z⟩) L1.length a)/\w.cell? ⟨g,q*9,Z⟩=Ad (U O N.k)/\q<L1.length:=by
 have⟨o,e,b⟩:=S.row;have l:=S.tp;have h:=S.ac.len;have⟨m,d,c,_⟩:=S.ac;have q:(L1.map Mb.N)[L.length+ks.sz]?=Ad {N with ks:=ks.tops L.length}:=by
  rw[d,eJ,c,uD,eD (by rw[bq];omega),bq,Nat.add_sub_cancel_left,eD (by rw[Fo.flat_len];exact ag _),Fo.flat_len,fx];rfl
 rw[cD]at q;have⟨p,j,f⟩:=Option.map_eq_some_iff.1 q;rw[bz]at h;rcases bJ b with⟨n,rfl⟩|⟨g,a,rfl⟩
 .omega
 .exact⟨L.length+ks.sz,g,a,(gL l).1.symm,by rw[aj _ _ _ _ _ _ e];rfl,by rw[(we b j).1,f],by omega⟩
def aiv{a3:Int}{R:Fo}(ba:(E.tk i).k=a3)(bx:i<E.n)(aK:Su E i a3 X k)(bA:k<E.n)(I:LH E (CX E 0) (CLx E) (E.tk i) m X k R j):CB E i R j:=by
 intro an ad al A bD;have a:=am A;have ak:=am I;have y:=I.le;clear A I;cases aK
 case' held A _=>rcases A with rfl|rfl
 all_goals
  simp only[bz,Fo.sz]at y;go_in;go_wp2_with fail;refine dt (Sq.take a ba) λa5 a=>?_;go_wp2_with fail;first
   |(go_at_call 144
     refine dt (Sq.node (Sq.box a)) λb a=>?_;have e:=Sq.rd a;go_wp2_with fail;refine(Sq.add (Sq.box a) (.inl ⟨rfl,rfl⟩) (.inl ⟨rfl,rfl⟩) (by omega)).mono ?_;rintro v b ⟨p,rfl,f,a⟩;replace a:=Sq.tail a)
   |(refine Sq.cq (Sq.box a) (by assumption) (by rw[bz];omega) ?_
     rintro b _ f _ _ ⟨p,rfl,rfl,rfl⟩ a;go_wp2_with fail;refine dt (Sq.take a (by assumption)) λb a=>?_;have e:=Sq.rd a;have F:=a.cells;have s:=Sq.ln a;rw[show(Fo.nil.app (one _ _))=one _ _ from rfl,bz]at s;obtain⟨q,w,z,rfl,bj,a4,b2⟩:=Sq.top a;have bb:(0:Int)<=(q:Int):=by omega
     have bd:(q:Int)<(f.length:Int):=by omega
     (try rw[(by assumption:Nd.k _=_)]at a4)
     go_wp2_with fail;try
      go_at_call 144
      refine dt (Sq.node a) λb a=>?_;go_wp2_with fail;refine(Sq.add (Sq.lit1 (Sq.box a)) (.inl ⟨rfl,rfl⟩) (.inr (.head _)) (by omega)).mono ?_;rintro v b ⟨p,rfl,f,a⟩;replace a:=Sq.tail a
     clear F bj a4 e)
  (try go_wp2_with fail)
  go_loopg [3] m (λgk bk wr=>∃(k:Nat) (X:Fo) (r J:Int) (a7:List Mb),bk= U O r/\Bc (LH E (CX E 0) (CLx E) (E.tk i) gk X k R j/\Sq E an ad al wr k a7 X [r] [(a5.heap.size,49,qh J (E.tk i))] []))
  case atStart=>exact⟨_,_,_,_,_,rfl,ak,a⟩
  case round=>
   clear a ak;obtain⟨bh,ao,r,J,bn,rfl,af⟩:=hrel;obtain⟨ar,a⟩:=af.out;clear af;have e:=Sq.rd a;have s:=Sq.ln a;have bE:=ar.le;go_wp2_with fail;refine dt (Sq.node a) λbl a=>?_;go_wp2_with fail;cases ar with
   |stop d h=>
    have aK:=mA h;have bv:((E.tk j).k==48)=B0:=by simp;omega
    have bt:((E.tk j).k==44)=B0:=by simp;omega
    have br:((E.tk j).k==40)=B0:=by simp;omega
    refine dt (Sq.kind (Sq.lit1 (Sq.box a)) rfl) λb a=>?_;go_wp2_with fail;go_ret;exact⟨_,_,_,_,rfl,⟨_,rfl,rfl,rfl⟩,Sq.fin0 a⟩
   |@dot o _ _ _ _ d h x c=>
    have l:=am c;clear c;refine dt (Sq.kind (Sq.lit1 (Sq.box a)) d) λb a=>?_;go_wp2_with fail;refine dt (Sq.take a d) λb a=>?_;go_wp2_with fail;refine dt (Sq.take a h) λb a=>?_;have e:=Sq.rd a;go_wp2_with fail;refine(Sq.add (Sq.box (Sq.set a)) (.inl ⟨rfl,rfl⟩) (.inr (.head _)) (by omega)).mono ?_;rintro v b ⟨p,rfl,f,a⟩;replace a:=Sq.tail (Sq.tail a);go_wp2_with fail;go_roundg o
    case measure=>omega
    case rel=>exact⟨_,_,_,_,_,rfl,l,a⟩
   |@sq o _ a2 _ _ B _ d h x H ap c=>
    have l:=am c;have y:=c.le;clear c;rw[bz,Fo.sz_app]at y;refine dt (Sq.kind (Sq.lit1 (Sq.box a)) d) λb a=>?_;go_wp2_with fail;refine dt (Sq.take a d) λb a=>?_;go_wp2_with fail;refine Sq.cq a x (by omega) ?_;rintro b _ f _ _ ⟨p,rfl,rfl,rfl⟩ a;have s:=Sq.ln a;rw[Fo.sz_app]at s;go_wp2_with fail;refine dt (Sq.take a H) λb a=>?_;have e:=Sq.rd a;go_wp2_with (at_builtin;refine Sq.apG tI (Sq.set a) (by simp) rfl rfl _ _ rfl rfl rfl (by simp[A5]) ?_;intro w z b a;have e:=Sq.rd a);refine(Sq.add (Sq.set a) (.inl ⟨rfl,rfl⟩) (.inr (.head _)) (by omega)).mono ?_;rintro v b ⟨p,rfl,f,a⟩;replace a:=Sq.tail a;go_wp2_with fail;go_roundg o
    case measure=>omega
    case rel=>exact⟨_,_,_,_,_,rfl,l,a⟩
   |@call0 o _ _ _ _ d h x c=>
    have l:=am c;clear c;refine dt (Sq.kind (Sq.lit1 (Sq.box a)) d) λb a=>?_;go_wp2_with fail;refine dt (Sq.take a d) λb a=>?_;have e:=Sq.rd a;go_wp2_with fail;refine dt (Sq.kind (Sq.set a) h) λb a=>?_;go_wp2_with fail;refine dt (Sq.take a h) λb a=>?_;have e:=Sq.rd a;go_wp2_with fail;refine(Sq.add a (.inl ⟨rfl,rfl⟩) (.inr (.head _)) (by omega)).mono ?_;rintro v b ⟨p,rfl,f,a⟩;replace a:=Sq.tail a;go_wp2_with fail;go_roundg o
    case measure=>omega
    case rel=>exact⟨_,_,_,_,_,rfl,l,a⟩
   |@call o _ a2 _ _ B _ d h x H ap bw c=>
    have bs:((E.tk (bh+1)).k !=41)=B2:=by simp[x]
    have l:=am c;have y:=c.le;clear c;rw[bz,Fo.sz_app]at y;refine dt (Sq.kind (Sq.lit1 (Sq.box a)) d) λb a=>?_;go_wp2_with fail;refine dt (Sq.take a d) λb a=>?_;have e:=Sq.rd a;go_wp2_with fail;refine dt (Sq.kind (Sq.set a) rfl) λb a=>?_;go_wp2_with fail;refine Sq.cq a H (by omega) ?_;rintro b _ f g _ ⟨a8,F,rfl,rfl⟩ a;have s:=Sq.ln a;rw[Fo.sz_app]at s;have a1:=congrArg List.length a.tp;have bf:=Fo.len_le (ao.app B);rw[Fo.tops_len,aG]at a1;rw[Fo.sz_app]at bf;obtain⟨t,a9⟩:=aC g.length;rw[a9]at a a1⊢;go_wp2_with fail;go_loopw [95] (λK wr=>∃(q G:Nat) (C:Option Addr),q<=t/\K= U O q/\Bc (Sq E an ad al wr a2 f (ao.app B) ([r]++g) [(bl.heap.size,34,ndA 34 0 0 ⟨#[]⟩ (E.tk i) s0 (M C (q+1) G)),(a5.heap.size,49,qh J (E.tk i))] [(3,M C (q+1) G,iv r::(g.take q).map iv),(3,M a8 t F,g.map iv)])) (λK _=>t-(Ce K).toNat)
    case atStart=>exact⟨0,1,_,aD _,rfl,Sq.swap a⟩
    case round=>
     clear a;obtain⟨q,G,C,b1,rfl,a⟩:=hrel;by_cases b0:q<t
     .obtain⟨L,a0⟩:∃L,g[q]?=Ad L:=⟨g[q]'(by omega),aw _⟩;obtain⟨w,rfl,bo⟩:=Sq.at2 a a0;have bb:(0:Int)<=(q:Int):=by omega
      have bd:(q:Int)<(t:Int):=by omega
      have e:=Sq.rd a;go_wp2_with (at_builtin;refine Sq.apG tI a (by omega) rfl rfl _ _ rfl rfl rfl rfl ?_;intro w z b a;have e:=Sq.rd a);have a6:Bc (iv r::(g.take q).map iv++[Ck O L]=iv r::(g.take (q+1)).map iv):=by show _=_;rw[iC,a0,eJ];rfl
      replace a:=Sq.set (q:=8) (u:= M (Ad ⟨w,0,Z⟩) (q+1+1) z) a;rw[a6.out]at a;exact⟨⟨q+1,z,Ad ⟨w,0,Z⟩,by omega,by go_num,a⟩,by simp[Ce];omega⟩
     .obtain rfl:q=t:=by omega
      rw[show g.take q=g from dl (by omega)]at a;replace a:=Sq.less a (show List.Sublist [_] [_,_] from .cons_cons _ (.cons _ .slnil));go_wp2_with fail;refine dt (Sq.take a ap) λb a=>?_;have e:=Sq.rd a;go_wp2_with fail;refine(Sq.add a (.inl ⟨rfl,rfl⟩) (.inr (.head _)) (by omega)).mono ?_;rintro v b ⟨p,rfl,f,a⟩;replace a:=Sq.tail a;go_wp2_with fail;go_roundg o
      case measure=>omega
      case rel=>exact⟨_,_,_,_,_,rfl,l,a⟩
end
inductive Ls (E:Pe) (C:Nat->Fo->Nat->Prop):Nat->Nat->Fo->Nat->Prop where
 |stop {k:Nat}:(E.tk k).k≠46->k<E.n->Ls E C 0 k .nil k
 |go {m k k1 j:Nat}{x R:Fo}:(E.tk k).k=46->k<E.n->C (k+1) x k1->Ls E C m k1 R j->Ls E C (m+1) k (x.app R) j
inductive Ss (E:Pe) (C:Nat->Fo->Nat->Prop):Nat->Nat->Fo->Nat->Prop where
 |stop {k:Nat}:k<E.n->Ss E C 0 k .nil k
 |sep {m k j:Nat}{R:Fo}:(E.tk k).k=5->k<E.n->Ss E C m (k+1) R j->Ss E C (m+1) k R j
 |go {m k k1 j:Nat}{x R:Fo}:(E.tk k).k≠5->(E.tk k).k≠6->(E.tk k).k≠43->k<E.n->C k x k1->Ss E C m k1 R j->Ss E C (m+1) k (x.app R) j
inductive Es (E:Pe) (C:Nat->Fo->Nat->Prop):Nat->Nat->Fo->Nat->Prop where
 |stop {k:Nat}:(E.tk k).k=43->k<E.n->Es E C 0 k .nil k
 |com {m k k1 j:Nat}{x R:Fo}:(E.tk k).k≠43->k<E.n->C k x k1->(E.tk k1).k=46->k1<E.n->Es E C m (k1+1) R j->Es E C (m+1) k (x.app R) j
 |last {m k k1 j:Nat}{x R:Fo}:(E.tk k).k≠43->k<E.n->C k x k1->(E.tk k1).k≠46->k1<E.n->Es E C m k1 R j->Es E C (m+1) k (x.app R) j
def szL{a b c:Fo}(h:a.app b=c)(d:n+c.sz<=m):n+(a.sz+b.sz)<=m:=by rw[<-h,Fo.sz_app]at d;exact d
def Sq.six{w:B1}{a:Option Nat}{L c:List Mb}{b:Nat}{D:Fo}{l:List Int}{B:Bxs}{R:Rws}{t:B6}{m n o p q r:Bn}(S:Bc (Sq E W a L w i c D l ((b,t,#[m,n,o,p,q,r])::B) R))(d e f g h j:Bn):∃k,((((((w.setCell ⟨b,0,Z⟩ d).setCell ⟨b,1,Z⟩ e).setCell ⟨b,2,Z⟩ f).setCell ⟨b,3,Z⟩ g).setCell ⟨b,4,Z⟩ h).setCell ⟨b,5,Z⟩ j)=k/\Bc (Sq E W a L k i c D l ((b,t,#[d,e,f,g,h,j])::B) R):=⟨_,rfl,Sq.set (Sq.set (Sq.set (Sq.set (Sq.set (Sq.set S)))))⟩
section
variable {E : Pe} {i j : Nat}
def alz{x:Fo}(L:CX E 0 i x k)(K:Ls E (CX E 0) m k R j):CLx E i (x.app R) j:=by
 intro B t y H r;have a:=am H;have w:=am K;go_in;go_wp2_with fail;refine Sq.cq a L (by rw[Fo.sz_app]at r;omega) ?_;rintro e _ o _ _ ⟨f,rfl,rfl,rfl⟩ a;go_wp2;go_loopg [3,4] m (λgk an al wr=>∃(k:Nat) (D g:Fo) (s:Int) (b:Option Addr) (d c:Nat) (z:List Mb) (n:List Int),an= U O s/\al= M b d c/\Bc (Ls E (CX E 0) gk k g j/\Sq E B t y wr k z D n [] [(3,M b d c,n.map iv)]/\D.app g=x.app R))
 case atStart=>exact⟨k,_,R,f,_,1,1,_,_,rfl,rfl,w,Sq.lit (xs:=[iv f]) a,rfl⟩
 case round=>
  obtain⟨ap,D,g,s,b,d,c,o,n,rfl,rfl,v⟩:=hrel;have⟨I,a,p⟩:=v.out;have ad:=szL p r;have q:=am p;cases I with
  |stop h l=>
   go_wp2_with fail;refine dt (Sq.isN a h l) λe a=>?_;go_wp2;go_ret;rw[<-q.out,Fo.app_nil];exact⟨M b d c,_,_,_,rfl,⟨b,c,by rw[<-Sq.rn a,bq],rfl⟩,a⟩
  |@go ak _ af _ ar A h l F G=>
   rw[Fo.sz_app]at ad;have u:=am G;go_wp2_with fail;refine dt (Sq.isY a h l) λe a=>?_;go_wp2_with fail;refine Sq.cq a F (by have:=Sq.ln a;omega) ?_;rintro e _ o _ _ ⟨f,rfl,rfl,rfl⟩ a;have J:=Sq.ln a;rw[Fo.sz_app]at J;go_wp2_with (at_builtin;refine Sq.app a (by omega) rfl _ _ rfl rfl rfl rfl ?_;intro ao C e a);go_roundg ak
   case measure=>omega
   case rel=>exact⟨af,_,A,f,_,d+1,C,_,_,rfl,rfl,u,a,by rw[Fo.app_app];exact q⟩
def adB{u:Int}(v:u=43\/u=6)(ad:(E.tk j).k=u)(al:Ss E (CI E 76 #[pV E]) m i R j):CL E 38 #[pV E,U O u] i R j:=by
 intro F x r K af;have a:=am K;have z:=am al;go_in;go_wp2;go_loopg [5,6] m (λgk ap aK wr=>∃(k:Nat) (D g:Fo) (c:Option Addr) (e d:Nat) (A:List Mb) (l:List Int),ap= M c e d/\Bc (Ss E (CI E 76 #[pV E]) gk k g j/\Sq E F x r wr k A D l [] [(3,M c e d,l.map iv)]/\D.app g=R))
 case atStart=>exact⟨i,.nil,R,Z,0,0,r,[],rfl,z,Sq.nil a,rfl⟩
 case round=>
  obtain⟨w,D,g,c,e,d,B,l,rfl,y⟩:=hrel;have⟨L,a,t⟩:=y.out;have an:=szL t af;have p:=am t;cases L with
  |stop b=>
   have s:(u !=u)=B0:=by simp
   go_wp2_with fail;refine dt (Sq.kind a ad b) λf a=>?_;go_wp2;go_ret;rw[<-p.out,Fo.app_nil];exact⟨M c e d,_,_,_,rfl,⟨c,d,by rw[<-Sq.rn a,bq],rfl⟩,a⟩
  |@sep q _ _ _ h b o=>
   have n:=am o;have s:((5:Int)!=u)=B2:=by rcases v with rfl|rfl<;>rfl
   go_wp2_with fail;refine dt (Sq.kind a h b) λf a=>?_;go_wp2_with fail;refine dt (Sq.isY a h b) λf a=>?_;go_wp2;go_roundg q
   case measure=>omega
   case rel=>exact⟨w+1,D,g,c,e,d,_,l,rfl,n,a,p⟩
  |@go q _ ao _ a0 C h H I b J o=>
   rw[Fo.sz_app]at an;have n:=am o;have s:((E.tk w).k !=u)=B2:=by rcases v with rfl|rfl<;>simp[H,I]
   go_wp2_with fail;refine dt (Sq.kind a rfl b) λf a=>?_;go_wp2_with fail;refine dt (Sq.isN a h b) λf a=>?_;go_wp2_with fail;refine Sq.cq a J (by have:=Sq.ln a;omega) ?_;rintro f _ B _ _ ⟨a1,rfl,rfl,rfl⟩ a;have ak:=Sq.ln a;rw[Fo.sz_app]at ak;go_wp2_with (at_builtin;refine Sq.app a (by omega) rfl _ _ rfl rfl rfl rfl ?_;intro ar G f a);go_roundg q
   case measure=>omega
   case rel=>exact⟨ao,_,C,_,e+1,G,_,_,rfl,n,a,by rw[Fo.app_app];exact p⟩
def wv{ns:List ByteArray}(I:(E.tk i).k=1)(ak:i<E.n)(K:FE E.tk E.n (i+1) ns j):CM E i ((E.tk i).x::ns) j:=by
 intro y s m C al;have a:=am C;have w:=am K;have an:=a.lo.2.2.2;go_in;go_wp2_with fail;refine dt (Sq.take a I) λe a=>?_;have a:=Sq.lit1 (xs:=[A3 (E.tk i).x]) (t:=9) (Sq.box (cs:=qh 1 (E.tk i)) (t:=49) a);go_wp2;go_loopg [4] ns.length (λgk L wr=>∃(k:Nat) (D g:List ByteArray) (c:Option Addr) (n d r:Nat),L= M c n d/\gk=g.length/\Bc (FE E.tk E.n k g j/\Sq E y s m wr k m .nil [] [(e.heap.size,49,qh 1 (E.tk r))] [(9,M c n d,D.map B4)]/\D++g=(E.tk i).x::ns/\i+2*D.length=k+1))
 case atStart=>exact⟨i+1,[(E.tk i).x],ns,_,1,1,i,rfl,rfl,w,a,rfl,by simp⟩
 case round=>
  obtain⟨b,D,g,c,n,d,r,rfl,H,v⟩:=hrel;have⟨F,a,G,af⟩:=v.out;have p:=am G;cases F with
  |stop h o=>
   go_wp2_with fail;refine dt (Sq.isN a h o) λe a=>?_;go_wp2;go_ret;obtain rfl:D=(E.tk i).x::ns:=by simpa using p.out
   exact⟨M c n d,_,_,_,rfl,⟨c,d,by rw[<-Sq.rn a,bq];rfl,rfl,rfl⟩,Sq.fin a⟩
  |@go _ _ q h o A B=>
   have u:=am B;have J:n<=50000000:=by have:=Sq.rn a;rw[bq]at this;omega
   go_wp2_with fail;refine dt (Sq.isY a h (by omega)) λe a=>?_;go_wp2_with fail;refine dt (Sq.take a A) λe a=>?_;have ar:=Sq.rd a;have⟨ap,ao,a⟩:=Sq.six a (iv 1) (iv (E.tk (b+1)).f) (iv (E.tk (b+1)).t) (iv (E.tk (b+1)).l) (iv (E.tk (b+1)).n) (A3 (E.tk (b+1)).x);have aK:=Sq.rd a;go_wp2_with (at_builtin;refine Sq.apG tS a J rfl rfl _ _ rfl rfl rfl rfl ?_;intro ad z e a);go_roundg q.length
   case measure=>simp at H;omega
   case rel=>exact⟨b+2,D++[(E.tk (b+1)).x],q,_,n+1,z,b+1,rfl,rfl,u,by rw[eJ];exact a,by rw[bC];exact p,by simp;omega⟩
def aiw{d:Fo}(l:(E.tk i).k=42)(a2:i<E.n)(ak:Es E (CI E 234 #[pV E]) m (i+1) d j)(v:(E.tk j).k=43)(a3:j+1<E.n):CU E i (one (jx 35 (E.tk i) (E.tk j).t) d) (j+1):=by
 intro F x e K ad;have a:=am K;have A:=am ak;go_in;go_wp2_with fail;refine dt (Sq.kind a l) λc a=>?_;go_wp2_with fail;refine dt (Sq.kind a l) λc a=>?_;go_wp2_with fail;refine dt (Sq.take a l) λc a=>?_;go_wp2_with fail;refine fC (apd (b:=B0) (by decide) _) ?_;go_wp2_with fail;refine dt (Sq.node (Sq.box a)) λc a=>?_;go_wp2_with fail;rw[bz]at ad;go_loopg [10] m (λgk a5 wr=>∃(k:Nat) (D f:Fo) (g:Option Addr) (n h:Nat) (B:List Mb) (o:List Int),Bc (Es E (CI E 234 #[pV E]) gk k f j/\Sq E F x e wr k B D o [(c.heap.size,34,ndA 35 0 0 ⟨#[]⟩ (E.tk i) s0 (M g n h))] [(3,M g n h,o.map iv)]/\D.app f=d))
 case atStart=>exact⟨i+1,.nil,d,Z,0,0,e,[],A,Sq.nil (Sq.drop1 (Sq.box a)),rfl⟩
 case round=>
  obtain⟨an,D,f,g,n,h,p,o,z⟩:=hrel;have⟨L,a,s⟩:=z.out;have al:=szL s (show e.length+d.sz<=49999999 by omega);have u:=am s;cases L
  case stop q H=>
   go_wp2_with fail;refine dt (Sq.kind a v) λc a=>?_;go_wp2_with fail;refine dt (Sq.take a v) λc a=>?_;have w:=Sq.rd a;go_wp2_with fail;refine(Sq.add a (.inl ⟨rfl,rfl⟩) (.inr (.head _)) (by have:=Sq.ln a;omega)).mono ?_;rintro ar c ⟨ap,rfl,p,a⟩;go_wp2;go_ret;obtain rfl:D=d:=by rw[<-u.out,Fo.app_nil]
   exact⟨_,_,_,_,rfl,⟨_,rfl,rfl,rfl⟩,Sq.fin a⟩
  all_goals
   rename_i ao a4 a6 C r a0 _ q H I J;rw[Fo.sz_app]at al;have y:=am J;have a1:((E.tk an).k !=43)=B2:=by simp[q]
   go_wp2_with fail;refine dt (Sq.kind a rfl) λc a=>?_;go_wp2_with fail;refine Sq.cq a I (by have:=Sq.ln a;omega) ?_;rintro c _ p _ _ ⟨ap,rfl,rfl,rfl⟩ a;have af:=Sq.ln a;rw[Fo.sz_app]at af;have w:=Sq.rd a;go_wp2_with (at_builtin;refine Sq.app a (by omega) rfl _ _ rfl rfl rfl rfl ?_;intro aK G c a;have w:=Sq.rd a);first
    |refine dt (Sq.isY (Sq.set a) r) λc a=>?_
    |refine dt (Sq.isN (Sq.set a) r) λc a=>?_
   go_wp2;go_roundg ao
   case measure=>omega
   case rel=>exact⟨_,_,C,_,n+1,G,_,_,y,a,by rw[Fo.app_app];exact u⟩
end
def Sm(E:Pe)(i:Nat)(x:Fo)(k:Nat)(X:Fo)(j:Nat):Prop:=((E.tk k).k≠46/\(E.tk k).k≠47/\k<E.n/\j=k/\X=one (jx 6 (E.tk i) (E.tk (k-1)).t) x)\/
 ∃R b a m,((E.tk k).k=46\/(E.tk k).k=47)/\Ls E (CB E) m k R a/\(E.tk a).k=47/\a<E.n/\CLx E (a+1) b j/\k<E.n/\j<=E.n/\X=one (nd 5 (E.tk i) (E.tk (j-1)).t 0 ((x.app R).len:Nat) z0 []) ((x.app R).app b)
section
variable {W V w : World}
def bdN(w:B1)(n:Nat):cg w (w.drewN n):=⟨rfl,rfl,rfl,ag _,λ_ _=>rfl⟩
def adC(h:cg W V)(k:cg V w):cg W w:=h.trans (k.mono h.size)
end
section
variable {E : Pe} {i j k : Nat}
def LI{q:Int}{x:Fo}(ct:q=1\/q=40)(cw:(E.tk i).k=q)(b0:i<E.n)(cd:CB E i x k)(cb:Sm E i x k X j)(cu:i+1<=j):CI E 142 #[pV E] i X j:=by
 intro e ad G F a3;have S:=am F;have bD:(E.tk i).k≠6:=by omega
 have br:=λB (an:cg e B)=>(Sq.below S an).cells;have t:=λB (an:cg e B)=>(Sq.below S an).tkw b0 bD;unfold TkW at t;have cF:=S.lo;have ap:=am cb;have b2:(i:Int)<(E.n:Int):=by omega
 have b1:(0:Int)<=(i:Int):=by omega
 have cc:IntKind.i64.wrap (i:Int)=(i:Int):=by rw[dr];omega
 go_in;go_wp2_with fail;refine Br (S:=λB=>cg e B) (by kernel_rfl) (bF (ah _ _)) (λb=>?_);simp only[iD,bc,dE,Nat.reduceAdd,jn,jA,jB,dI,dJ];refine dL 0 (A0 (Ad ⟨E.pb,0,Z⟩)) rfl rfl b (λl h=>by go_simp) ?_;simp only[Ax];refine dL 1 (A0 (Ad ⟨E.pb,0,Z⟩)) rfl rfl b (λl h=>by go_simp) ?_;simp only[Ax];refine dL 2 (A0 (Ad ⟨E.pb,0,Z⟩)) rfl rfl b (λl h=>by go_simp) ?_;simp only[Ax];refine dL 3 (M (Ad ⟨E.tb,0,Z⟩) E.n E.cap) rfl rfl b (λl h=>by go_simp) ?_;simp only[Ax];refine dL 4 (A0 (Ad ⟨E.pb,0,Z⟩)) rfl rfl b (λl h=>by go_simp) ?_;simp only[Ax];refine dL 5 (A0 (Ad ⟨E.pb,0,Z⟩)) rfl rfl b (λl h=>by go_simp) ?_;simp only[Ax];refine dL 6 (A0 (Ad ⟨E.pb,1,Z⟩)) rfl rfl b (λl h=>by go_simp) ?_;simp only[Ax];refine dL 7 (U O (i:Int)) rfl rfl b (λl h=>by go_simp) ?_;simp only[Ax];refine dL 8 (A0 (Ad ⟨E.tb,i*6,Z⟩)) rfl rfl b (λl h=>by go_simp) ?_;simp only[Ax];refine dL 9 (B7 (qh (E.tk i).k (E.tk i))) rfl rfl b (λl h=>by go_simp) ?_;simp only[Ax];refine A2 (rs:=[10,11]) (by kernel_rfl) (by simp) (Ak rfl (λA d=>?_) (Ak rfl (λA d=>?_) A1))
 case' refine_1=>
  go_simp;refine dt (CJ _ _ (E.tk i) _) λw5 H=>?_;have s:=adC (bF (ah _ _)) H;have y:=Sq.box (cs:=ndA 5 0 0 ⟨#[]⟩ (E.tk i) s0 s0) (t:=34) (Sq.below S s);refine d.out _ _ s (λb=>?_);try simp only[co,cA,cC]
  refine A2 (rs:=[11]) (by kernel_rfl) (by simp) (Ak rfl (λA d=>?_) A1);go_simp;refine d.out _ _ (adC s (dC _ _)) (λb=>?_);try simp only[co,cA,cC]
  refine A2 (rs:=[12]) (by kernel_rfl) (by simp) (Ak rfl (λA d=>?_) A1);go_simp;refine d.out _ _ (adC s (dC _ _)) (λb=>?_);refine wpAnyH_done (by kernel_rfl) ?_ _;generalize w5.alloc _=cl at y⊢;generalize w5.heap.size=al at y⊢
 case' refine_2=>
  go_simp;have bn:=Sq.below (Sq.box (cs:=#[U O 0,U O 0,U O 0,U O 0,U O 0,U O 0,A3 ⟨#[]⟩,s0,s0]) (t:=34) S) (bF (ah _ _));refine d.out _ _ (bF (dC _ _)) (λb=>?_);try simp only[co,cA,cC]
  refine A2 (rs:=[10]) (by kernel_rfl) (by simp) (Ak rfl (λA d=>?_) A1);go_simp;refine dt (CJ _ _ (E.tk i) _) λw5 H=>?_;have s:=adC (bF (dC e _)) H;have ar:=Sq.below bn H;refine d.out _ _ s (λb=>?_);try simp only[co,cA,cC]
  have v:=Sq.rd ar;refine A2 (rs:=[12]) (by kernel_rfl) (by simp) (Ak rfl (λA d=>?_) A1);go_simp;have y:Bc (Sq E e ad G _ i G .nil [] [(e.heap.size,34,ndA 5 0 0 ⟨#[]⟩ (E.tk i) s0 s0)] []):=Sq.set (q:=8) (u:=s0) (Sq.set (q:=7) (u:=s0) (Sq.set (q:=6) (u:= A3 ⟨#[]⟩) (Sq.set (q:=5) (u:= U O 0) (Sq.set (q:=4) (u:= U O 0) (Sq.set (q:=3) (u:= U O (E.tk i).l) (Sq.set (q:=2) (u:= U O 0) (Sq.set (q:=1) (u:= U O (E.tk i).f) (Sq.set (q:=0) (u:= U O 5) ar))))))));have c:=ag e.heap.size;refine d.out _ _ (((((((((s.setCell c _).setCell c _).setCell c _).setCell c _).setCell c _).setCell c _).setCell c _).setCell c _).setCell c _) (λb=>?_);refine wpAnyH_done (by kernel_rfl) ?_ _;generalize A5 _ _ _=cl at y⊢;generalize e.heap.size=al at y⊢
 all_goals
  go_wp2_with fail;have a6:x.sz<=X.sz/\k<E.n:=by
   rcases ap.out with⟨_,_,F,_,rfl⟩|⟨r,L,a9,m,_,_,_,_,_,F,_,rfl⟩
   .exact⟨by rw[bz];omega,F⟩
   .exact⟨by rw[bz,Fo.sz_app,Fo.sz_app];omega,F⟩
  refine Sq.cq y cd (by omega) ?_;rintro a _ af _ _ ⟨c,rfl,rfl,rfl⟩ S;have K:=Sq.ln S;rw[show(Fo.nil.app x)=x from rfl]at K;have br:=S.cells;have⟨c7,cB,t⟩:=S.tok a6.2;have b2:(k:Int)<(E.n:Int):=by omega
  have b1:(0:Int)<=(k:Int):=by omega
  have cc:IntKind.i64.wrap (k:Int)=(k:Int):=by rw[dr];omega
  go_wp2_with fail;rcases ap.out with⟨bx,J,b3,rfl,rfl⟩|⟨r,L,a9,m,hkk,ca,J,cy,bE,cz,b3,rfl⟩
  .have c8:((E.tk j).k !=46)=B2:=by simp[bx]
   have c9:((E.tk j).k !=47)=B2:=by simp[J]
   rw[bz]at a3;go_quiet (fail)
   replace S:=Sq.below S (bdN a nq);generalize a.drewN nq=a at S⊢;have v:=Sq.rd S;go_wp2_with fail;refine(Sq.add (Sq.litm (m:=a.heap.size) (Sq.set (Sq.set S)) (by simp[A5])) (.inl ⟨rfl,rfl⟩) (.inr (.head _)) (by omega)).mono ?_;rintro bs a ⟨c,rfl,af,S⟩;go_wp2;go_ret;exact⟨_,_,_,_,rfl,⟨_,rfl,rfl,rfl⟩,Sq.fin S⟩
  simp only[bz,Fo.sz_app]at a3 a6;have bf:=am ca;rcases hkk with hkk|hkk;all_goals
   rw[hkk]at t;go_quiet (fail)
   replace S:=Sq.below S (bdN a nq);generalize a.drewN nq=a at S⊢;have v:=Sq.rd S;go_wp2;go_loopg [4] m (λgk ck wr=>∃(k:Nat) (D ak:Fo) (ba:Int) (o:Option Addr) (n p:Nat) (bj:List Mb) (w:List Int),ck= U O ba/\Bc (Ls E (CB E) gk k ak a9/\Sq E e ad G wr k bj D w [(al,34,ndA 5 0 (n:Int) ⟨#[]⟩ (E.tk i) s0 (M o n p))] [(3,M o n p,w.map iv)]/\D.app ak=x.app r))
   case atStart=>exact⟨k,x,r,c,_,1,1,_,_,rfl,bf,Sq.litm (m:=a.heap.size) (xs:=[iv c]) (Sq.set (Sq.set S)) (by simp[A5]),rfl⟩
   case round=>
    obtain⟨c6,D,ak,ba,o,n,p,cp,w,rfl,bd⟩:=hrel;have⟨bw,S,a1⟩:=bd.out;have a8:=congrArg Fo.sz a1;have a2:=am a1;rw[Fo.sz_app,Fo.sz_app]at a8;have K:=Sq.ln S;have b8:=Sq.rn S;rw[bq]at b8;have b9:=congrArg List.length S.tp;rw[Fo.tops_len]at b9;have c0:=D.len_le;cases bw with
    |stop aK a0=>
     obtain rfl:D=x.app r:=by rw[<-a2.out,Fo.app_nil]
     go_wp2_with fail;refine dt (Sq.isN S (by rw[J];decide)) λa S=>?_;go_wp2_with fail;refine dt (Sq.take S J) λa S=>?_;go_wp2_with fail;refine Sq.cq S bE (by omega) ?_;rintro a _ bk g _ ⟨bo,c5,rfl,rfl⟩ S;have b7:=Sq.ln S;rw[Fo.sz_app]at b7;have a4:=congrArg List.length S.tp;have b4:=Fo.len_le ((x.app r).app L);rw[Fo.tops_len,aG]at a4;rw[Fo.sz_app]at b4;have⟨z,bA⟩:=aC g.length;rw[bA]at S a4⊢;go_wp2;go_loopw [76] (λao wr=>∃(q p:Nat) (o:Option Addr),q<=z/\ao= U O q/\Bc (Sq E e ad G wr j bk ((x.app r).app L) (w++g) [(al,34,ndA 5 0 (n:Int) ⟨#[]⟩ (E.tk i) s0 (M o (n+q) p))] [(3,M o (n+q) p,w.map iv++(g.take q).map iv),(3,M bo z c5,g.map iv)])) (λao _=>z-(Ce ao).toNat)
     case atStart=>exact⟨0,p,o,aD _,rfl,by rw[Cj,List.map_nil,dk];exact Sq.swap S⟩
     case round=>
      obtain⟨q,p,o,c1,rfl,S⟩:=hrel;by_cases cI:q<z
      .obtain⟨cn,a7⟩:∃x,g[q]?=Ad x:=⟨g[q]'(by omega),aw _⟩;obtain⟨C,rfl,cr⟩:=Sq.at2 S a7;have c2:(0:Int)<=(q:Int):=by omega
       have c3:(q:Int)<(z:Int):=by omega
       have v:=Sq.rd S;go_wp2_with (at_builtin;refine Sq.apG tI S (by omega) rfl rfl _ _ rfl rfl rfl rfl ?_;intro C I a S;have v:=Sq.rd S);have bh:Bc (w.map iv++(g.take q).map iv++[Ck O cn]=w.map iv++(g.take (q+1)).map iv):=by show _=_;rw[iC,a7,eJ,bC];rfl
       replace S:=Sq.set (q:=8) (u:= M (Ad ⟨C,0,Z⟩) (n+q+1) I) S;rw[bh.out]at S;exact⟨⟨q+1,I,Ad ⟨C,0,Z⟩,by omega,by go_num,S⟩,by simp[Ce];omega⟩
      .obtain rfl:q=z:=by omega
       rw[show g.take q=g from dl (by omega),<-eJ]at S;replace S:=Sq.less S (show List.Sublist [_] [_,_] from .cons_cons _ (.cons _ .slnil));have v:=Sq.rd S;go_wp2_with fail;refine(Sq.add S (.inl ⟨rfl,rfl⟩) (.inr (.head _)) (by omega)).mono ?_;rintro bs a ⟨c,rfl,af,S⟩;go_wp2;go_ret;rw[show n=(x.app r).len by omega]at S;exact⟨_,_,_,_,rfl,⟨_,rfl,rfl,rfl⟩,Sq.fin S⟩
    |@go cf _ ce _ da bl aK a0 bt bv=>
     have bb:=am bv;rw[Fo.sz_app]at a8;have c4:IntKind.i64.wrap ((n:Int)+1)=(n:Int)+1:=by rw[dr];omega
     go_wp2_with fail;refine dt (Sq.isY S aK a0) λa S=>?_;go_wp2_with fail;refine Sq.cq S bt (by omega) ?_;rintro a _ af _ _ ⟨c,rfl,rfl,rfl⟩ S;have K:=Sq.ln S;rw[Fo.sz_app]at K;have v:=Sq.rd S;go_wp2_with (at_builtin;refine Sq.app S (by omega) rfl _ _ rfl rfl rfl rfl ?_;intro C I a S;have v:=Sq.rd S);go_roundg cf
     case measure=>omega
     case rel=>exact⟨ce,_,bl,c,Ad ⟨C,0,Z⟩,n+1,I,_,_,rfl,bb,by rw[show((n+1:Nat):Int)=(n:Int)+1 by omega];exact Sq.set (Sq.set S),by rw[Fo.app_app];exact a2⟩
end
inductive Enp (E:Pe) (i:Nat):Fo->Nat->Prop
 |item {x:Fo}{j:Nat}:(E.tk i).k≠48->(E.tk i).k≠44->CX E 0 i x j->1<=j->j<=E.n->Enp E i (one (jx 40 (E.tk i) (E.tk (j-1)).t) x) j
 |named {x:Fo}{j:Nat}:Hid ((E.tk i).k=48)->(E.tk (i+1)).k=1->(E.tk (i+2)).k=47->i+2<E.n->CX E 0 (i+3) x j->1<=j->j<=E.n->Enp E i (one (nd 42 (E.tk i) (E.tk (j-1)).t 0 0 (E.tk (i+1)).x []) x) j
 |pair {x y:Fo}{k j:Nat}:Hid ((E.tk i).k=44)->CX E 0 (i+1) x k->(E.tk k).k=45->(E.tk (k+1)).k=47->k+1<E.n->CX E 0 (k+2) y j->1<=j->j<=E.n->Enp E i (one (jx 41 (E.tk i) (E.tk (j-1)).t) (x.app y)) j
def arq(k j:Nat)(h:k<W.heap.size):(W.alloc o).cell? ⟨k,j,Z⟩=W.cell? ⟨k,j,Z⟩:=World.cell?_alloc_past _ _ _ h
section
variable {E : Pe} {i j : Nat}
def Ji(q:(E.tk i).k≠6)(v:i<E.n)(u:Enp E i X j):CI E 234 #[pV E] i X j:=by
 intro o x y s m;have a:=am s;have B:=a.cells;have t:=a.tkw v q;unfold TkW at t;have G:=a.lo;have F:(i:Int)<(E.n:Int):=by omega
 have C:(0:Int)<=(i:Int):=by omega
 have I:IntKind.i64.wrap (i:Int)=(i:Int):=by rw[dr];omega
 go_in;go_wp2_with fail;go_region_held3 (λw=>∀k j,k<o.heap.size->w.cell? ⟨k,j,Z⟩=o.cell? ⟨k,j,Z⟩) (first|exact arq|exact λ_ _ _=>rfl) (fail)
 replace a:=Sq.below (Sq.box (cs:=qh (E.tk i).k (E.tk i)) (t:=49) a) (bF (ah _ _));generalize World.drew _=b at a⊢;have c:=Sq.rd a;go_wp2_with fail;refine dt (Sq.node a) λb a=>?_;replace a:=Sq.box (cs:=ndA 40 0 0 ⟨#[]⟩ (E.tk i) s0 s0) (t:=34) a;go_wp2_with fail;cases u
 case item=>
  rw[bz]at m;refine dt (Sq.isN a (by assumption)) λb a=>?_;go_wp2_with fail;refine dt (Sq.isN a (by assumption)) λb a=>?_;go_wp2_with fail;refine Sq.cq a (by assumption) (by omega) ?_;rintro b _ e _ _ ⟨f,rfl,rfl,rfl⟩ a;have d:=Sq.ln a;simp only[Fo.sz_app,Fo.sz]at d;have c:=Sq.rd a;go_wp2_with (at_builtin;refine Sq.apG tI (Sq.nil a) (by simp) rfl rfl _ _ rfl rfl rfl rfl ?_;intro l h b a;have c:=Sq.rd a);refine(Sq.add (Sq.set a) (.inl ⟨rfl,rfl⟩) (.inr (.head _)) (by omega)).mono ?_;rintro p b ⟨f,rfl,e,a⟩;go_wp2;go_ret;exact⟨_,_,_,_,rfl,⟨_,rfl,rfl,rfl⟩,Sq.fin a⟩
 case named=>
  rw[bz]at m;refine dt (Sq.isY a (by assumption:Bc ((E.tk i).k=48)).out) λb a=>?_;go_wp2_with fail;refine dt (Sq.take a (by assumption)) λb a=>?_;go_wp2_with fail;refine dt (Sq.take (Sq.box a) (by assumption)) λb a=>?_;have J:=Sq.rd a;have K:=Sq.rd (Sq.tail a);have H:¬(E.tk i).k=6:=q;have g:=a.bd;simp only[dw,List.nodup_cons,gK,not_or]at g;have z:=g.1.1;have A:=dB g.1.1;go_wp2_with fail;refine Sq.cq (Sq.set (Sq.set (Sq.swapB a))) (by assumption) (by omega) ?_;rintro b _ e _ _ ⟨f,rfl,rfl,rfl⟩ a;have d:=Sq.ln a;simp only[Fo.sz_app,Fo.sz]at d;have c:=Sq.rd a;go_wp2_with (at_builtin;refine Sq.apG tI (Sq.nil a) (by simp) rfl rfl _ _ rfl rfl rfl rfl ?_;intro l h b a;have c:=Sq.rd a);refine(Sq.add (Sq.set a) (.inl ⟨rfl,rfl⟩) (.inr (.head _)) (by omega)).mono ?_;rintro p b ⟨f,rfl,e,a⟩;go_wp2;go_ret;exact⟨_,_,_,_,rfl,⟨_,rfl,rfl,rfl⟩,Sq.fin a⟩
 case pair=>
  have r:=(by assumption:Bc ((E.tk i).k=44));rw[bz,Fo.sz_app]at m;refine dt (Sq.isN a (by rw[r.out];decide)) λb a=>?_;go_wp2_with fail;refine dt (Sq.isY a r.out) λb a=>?_;go_wp2_with fail;refine Sq.cq a (by assumption) (by omega) ?_;rintro b _ e _ _ ⟨f,rfl,rfl,rfl⟩ a;have d:=Sq.ln a;simp only[Fo.sz_app,Fo.sz]at d;go_wp2_with fail;refine dt (Sq.take a (by assumption)) λb a=>?_;go_wp2_with fail;refine dt (Sq.take a (by assumption)) λb a=>?_;have c:=Sq.rd a;go_wp2_with (at_builtin;refine Sq.apG tI (Sq.nil (Sq.set a)) (by simp) rfl rfl _ _ rfl rfl rfl (by simp[A5]) ?_;intro l h b a;have c:=Sq.rd a);refine Sq.cq (Sq.set a) (by assumption) (by omega) ?_;rintro b _ e _ _ ⟨f,rfl,rfl,rfl⟩ a;have d:=Sq.ln a;simp only[Fo.sz_app,Fo.sz]at d;have c:=Sq.rd a;go_wp2_with (at_builtin;refine Sq.apG tI a (by simp) rfl rfl _ _ rfl rfl rfl rfl ?_;intro l h b a;have c:=Sq.rd a);refine(Sq.add (Sq.set a) (.inl ⟨rfl,rfl⟩) (.inr (.head _)) (by omega)).mono ?_;rintro p b ⟨f,rfl,e,a⟩;go_wp2;go_ret;exact⟨_,_,_,_,rfl,⟨_,rfl,rfl,rfl⟩,Sq.fin a⟩
def alA{x:Fo}(g:(E.tk i).k=18)(w:(E.tk (i+1)).k=1)(I:(E.tk (i+2)).k=40)(h:i+2<E.n)(z:CBd E (E.tk (i+2)) (i+2) x j)(L:1<=j)(ad:j<=E.n):CI E 76 #[pV E] i (one (nd 4 (E.tk i) (E.tk (j-1)).t 0 0 z0 [(E.tk (i+1)).x]) x) j:=by
 intro G C F v y;have S:=am v;rw[bz]at y;go_in;go_wp2_with fail;refine dt (Sq.kind S g) λc S=>?_;go_wp2_with fail;refine dt (Sq.kind S g) λc S=>?_;go_wp2_with fail;refine dt (Sq.kind S g) λc S=>?_;go_wp2_with fail;refine dt (Sq.take S g) λc S=>?_;go_wp2_with fail;refine dt (Sq.node (Sq.box S)) λc S=>?_;replace S:=Sq.box (cs:=ndA 4 0 0 ⟨#[]⟩ (E.tk i) s0 s0) (t:=34) S;go_wp2_with fail;refine dt (Sq.take S w) λc S=>?_;have A:=Sq.rd S;go_wp2_with fail;replace S:=Sq.litm (m:=c.heap.size+1) (xs:=[A3 (E.tk (i+1)).x]) (t:=9) (Sq.below (Sq.set (q:=7) (u:= M (Ad ⟨c.heap.size+1,0,Z⟩) 1 1) S) (dC _ (Bk (qh 1 (E.tk (i+1))) 49))) (by simp[A5]);generalize World.alloc (World.alloc _ _) _=al at S⊢;have o:=S.cells;have t:=S.tkw (q:=i+2) h (by omega);have p:=S.lo.2.2.2;rw[show((i+1+1:Nat):Int)=(i:Int)+2 by omega]at o;have K:(i:Int)+2<(E.n:Int):=by omega
 have J:(0:Int)<=(i:Int)+2:=by omega
 have af:((i:Int)+2).toNat=i+2:=by omega
 have ak:IntKind.i64.wrap ((i:Int)+2)=(i:Int)+2:=by rw[dr];omega
 refine Br (S:=λl=>l.cell? ⟨E.pb,0,Z⟩=Ad (M (Ad ⟨E.tb,0,Z⟩) E.n E.cap)/\TkW E (i+2) l) (by kernel_rfl) ⟨o.1,t⟩ (λa=>?_);unfold TkW at *;simp only[iD,bc,dE,Nat.reduceAdd,jn,jA,jB,dI,dJ];refine dL 0 (A0 (Ad ⟨E.pb,0,Z⟩)) rfl rfl a (λe d=>by go_simp) ?_;simp only[Ax];refine dL 1 (A0 (Ad ⟨E.pb,0,Z⟩)) rfl rfl a (λe d=>by go_simp) ?_;simp only[Ax];refine dL 2 (A0 (Ad ⟨E.pb,0,Z⟩)) rfl rfl a (λe d=>by go_simp) ?_;simp only[Ax];refine dL 3 (A0 (Ad ⟨E.pb,0,Z⟩)) rfl rfl a (λe d=>by go_simp) ?_;simp only[Ax];refine dL 4 (M (Ad ⟨E.tb,0,Z⟩) E.n E.cap) rfl rfl a (λe d=>by go_simp) ?_;simp only[Ax];refine dL 5 (A0 (Ad ⟨E.pb,0,Z⟩)) rfl rfl a (λe d=>by go_simp) ?_;simp only[Ax];refine dL 6 (A0 (Ad ⟨E.pb,0,Z⟩)) rfl rfl a (λe d=>by go_simp) ?_;simp only[Ax];refine dL 7 (A0 (Ad ⟨E.pb,1,Z⟩)) rfl rfl a (λe d=>by go_simp) ?_;simp only[Ax];refine A2 (rs:=[8]) (by kernel_rfl) (by simp) (Ak rfl (λf b=>?_) A1);go_simp;refine b.out _ _ a (λa=>?_);try simp only[co,cA,cC]
 refine A2 (rs:=[9]) (by kernel_rfl) (by simp) (Ak rfl (λf b=>?_) A1);go_simp;refine b.out _ _ a (λa=>?_);try simp only[co,cA,cC]
 refine A2 (rs:=[10]) (by kernel_rfl) (by simp) (Ak rfl (λf b=>?_) A1);go_simp;refine b.out _ _ a (λa=>?_);try simp only[co,cA,cC]
 refine A2 (rs:=[11]) (by kernel_rfl) (by simp) (Ak rfl (λf b=>?_) A1);go_simp;refine dt (CJ _ _ (E.tk (i+2)) _) λc s=>?_;replace S:=Sq.below (Sq.below S (bF (ah _ _))) s;refine b.out _ _ ⟨S.cells.1,S.tkw h (by omega)⟩ (λa=>?_);try simp only[co,cA,cC]
 refine A2 (rs:=[12]) (by kernel_rfl) (by simp) (Ak rfl (λf b=>?_) A1);go_simp;refine Sq.cq S z (by omega) ?_;rintro c _ r _ _ ⟨B,rfl,rfl,rfl⟩ S;refine b.out _ _ ⟨S.cells.1,S.tkw h (by omega)⟩ (λa=>?_);try simp only[co,cA,cC]
 refine A2 (rs:=[13]) (by kernel_rfl) (by simp) (Ak rfl (λf b=>?_) A1);go_simp;refine b.out _ _ a (λa=>?_);refine wpAnyH_done (by kernel_rfl) ?_ _;have A:=Sq.rd S;have p:=Sq.ln S;simp only[Fo.sz_app,Fo.sz]at p;go_wp2_with fail;refine(Sq.add (Sq.lit2 (Sq.set S)) (nm:=[(E.tk (i+1)).x]) (.inr (.tail _ (.head _))) (.inr (.head _)) (by omega)).mono ?_;rintro H c ⟨B,rfl,r,S⟩;go_wp2;go_ret;exact⟨_,_,_,_,rfl,⟨_,rfl,rfl,rfl⟩,Sq.fin S⟩
end
def Sq.new{b d:Nat}{tk:Nat->Tk}{e:Array Bn}{fr:Nat×Nat}(f:W.heap[b]?=Ad (Bk e 49 fr))(l:TkR e tk n)(m:n<=1048576){c:B1}(k:(W.alloc o).alloc (Bk #[M (Ad ⟨b,0,Z⟩) n d,U O 0,M Z 0 0] 109)=c):Bc (Sq ⟨W.heap.size,W.heap.size+1,b,d,n,tk⟩ c Z [] c 0 [] .nil [] [] []):=by
 have⟨q,i,j,r⟩:=CD k;have:=ai f;have p:=(j.block _ this).trans f;have h:c.heap[W.heap.size+1]?=Ad (pC ⟨W.heap.size,W.heap.size+1,b,d,n,tk⟩ ((0:Nat):Int) (M Z 0 0)):=i;refine⟨⟨by show W.heap.size<=W.heap.size+1;omega,by show W.heap.size+1<_;omega,by show b<_;omega,m⟩,⟨e,fr,p,l⟩,⟨_,h,fs _ _ _ _⟩,⟨λs a=>?_,λg a=>(by cases a)⟩,λt a=>(by cases a),Ac.nil _ _,rfl,ah _ _,λ_ _ _ _=>rfl,λg a=>(by cases a),vF,λg a=>(by cases a),.nil⟩;have:=(nbI h).1 a;simp[Value.ownBlock]at this
def alC(s:ByteArray)(W:B1)(r x n j:Nat)(tk:Nat->Tk)(bd:Array Bn)(fr:Nat×Nat)(b8:W.heap[r]?=Ad (Bk bd 49 fr))(b1:TkR bd tk n)(b7:n<=1048576)(c2:s.size<=1048576)(hS:CL ⟨W.heap.size,W.heap.size+1,r,x,n,tk⟩ 38 #[pV ⟨W.heap.size,W.heap.size+1,r,x,n,tk⟩,U O 6] 0 R j)(cF:R.sz<=40000000):
  B3 A9 18 #[A3 s,M (Ad ⟨r,0,Z⟩) n x] W λe w'=>∃v L,e= .returned (B7 #[v])/\Lw w' W.heap.size v L/\L.map Mb.N=(one ⟨1,0,(s.size:Nat),1,0,0,⟨#[]⟩,[],[]⟩ R).flat 0/\cg W w':=by
 have⟨cu,bf⟩:=aC ((W.alloc (Bk #[M Z 0 0] 26)).alloc (Bk #[M (Ad ⟨r,0,Z⟩) n x,U O 0,M Z 0 0] 109));have S:=Sq.new (tk:=tk) b8 b1 b7 bf;obtain⟨k,F⟩:∃k:Pe,(⟨W.heap.size,W.heap.size+1,r,x,n,tk⟩:Pe)=k:=⟨_,rfl⟩;rw[F]at S hS;have G:Bc (k.pb=W.heap.size+1):=by rw[<-F];rfl
 have bh:Bc (k.base=W.heap.size):=by rw[<-F];rfl
 rw[show pV k= A0 (Ad ⟨W.heap.size+1,0,Z⟩) by rw[<-F]]at hS;obtain⟨cp, -,bA,b9⟩:=CD bf;have a6:=gF cp bA;have a8:=Sq.box (cs:=#[U O 1,U O 0,U O (s.size:Nat),U O 1,U O 0,U O 0,A3 ⟨#[]⟩,s0,s0]) (t:=34) S;rw[b9]at a8;go_in;go_wp2_with fail;refine Sq.cq a8 hS (by simp;omega) ?_;rintro c4 _ a7 K _ ⟨a,b,rfl,rfl⟩ S;have c6:=Sq.rd S;have⟨d,b5⟩:=aC K.length;rw[b5]at S⊢;replace S:=Sq.set (q:=8) (u:= M a d b) S;go_wp2_with fail;generalize A5 _ _ _=f at S⊢;have⟨v,E,ap⟩:=S.row;obtain⟨w,y,rfl⟩:=di ap;have aK:=E;rw[G.out]at E;have an:f.cell? ⟨W.heap.size+1,2,Z⟩=Ad (M w a7.length y):=by rw[aj _ _ _ _ _ _ E];rfl
 have⟨h,bk⟩:=aC a7.length;rw[bk]at an E ap aK;have a1:f.heap[W.heap.size+1+1]?=Ad (Bk #[U O 1,U O 0,U O (s.size:Nat),U O 1,U O 0,U O 0,A3 ⟨#[]⟩,M Z 0 0,M a d b] 34 (0,0)):=Sq.hd S;refine Br (S:=λaf=>af.heap[W.heap.size+1+1]?=Ad (Bk #[U O 1,U O 0,U O (s.size:Nat),U O 1,U O 0,U O 0,A3 ⟨#[]⟩,M Z 0 0,M a d b] 34 (0,0))) (by kernel_rfl) a1 (λm=>?_);simp only[iD,bc,dE,Nat.reduceAdd,jn,jA,jB,dI,dJ];refine dL 0 (A0 (Ad ⟨W.heap.size+1,0,Z⟩)) rfl rfl m (λw' o=>by go_simp) ?_;simp only[Ax];refine dL 1 (A0 (Ad ⟨W.heap.size+1,0,Z⟩)) rfl rfl m (λw' o=>by go_simp) ?_;simp only[Ax];refine dL 2 (A0 (Ad ⟨W.heap.size+1,0,Z⟩)) rfl rfl m (λw' o=>by go_simp) ?_;simp only[Ax];refine dL 3 (A0 (Ad ⟨W.heap.size+1,2,Z⟩)) rfl rfl m (λw' o=>by go_simp) ?_;simp only[Ax];refine Ih 5 21 (B7 #[U O 1,U O 0,U O (s.size:Nat),U O 1,U O 0,U O 0,A3 ⟨#[]⟩,M Z 0 0,M a d b]) rfl rfl (by kernel_rfl) (by kernel_rfl) (by kernel_rfl) (λ_ _ _ a0=>a0) (by rfl) m (λw' o=>by have c9:=bK (N:=⟨1,0,(s.size:Nat),1,0,0,⟨#[]⟩,[],K⟩) (vn:= M Z 0 0) (vk:= M a d b) o;go_simp) ?_;simp only[Act.put,co,cA,cC];have b0:=an;refine sa (S:=λaf=>af.cell? ⟨W.heap.size+1,2,Z⟩=Ad (M w h y)) (C:=λj=>!(j==7||j==8||j==9||j==10)) (i:=4) (v:= M w h y) rfl (ye (by kernel_rfl)) (λ_ _ _ a0=>a0) ?hC _ _ _ _ (yg rfl (by kernel_rfl)) (List.contains_iff_mem.1 (by kernel_rfl)) (Or.inl ⟨by rfl,λw' o=>by go_simp⟩) m b0 ?_
 case hC=>
  intro j c3 bj c;simp only[Bool.not_eq_false',sI,jD]at c;rcases c with((rfl|rfl)|rfl)|rfl
  .obtain rfl:=aJ bj;exact⟨{on:=4,ground:=Ground.data},by simp,rfl,rfl⟩
  all_goals
   obtain rfl:=aJ bj;exact⟨{on:=4,ground:=Ground.phase},by simp,rfl,rfl⟩
 simp only[Act.put,co,cA,cC];refine fj (i:=6) (by kernel_rfl) rfl (λA g=>?_);go_simp;have a9:∀bo,cg f (f.drew.alloc bo):=λbo=>(bF (ah _ _)).alloc (by simp) _;refine g _ _ (((a9 _).block _ (ai a1)).trans a1) (λ_=>cell_kept (a9 _) an) ?_;try simp only[co,cA,cC]
 have B:=bF (dC f (Bk #[U O 1,U O 0,U O (s.size:Nat),U O 1,U O 0,U O 0,A3 ⟨#[]⟩,M Z 0 0,M a d b] 34));have bt:(f.alloc (Bk #[U O 1,U O 0,U O (s.size:Nat),U O 1,U O 0,U O 0,A3 ⟨#[]⟩,M Z 0 0,M a d b] 34)).drew.heap[f.heap.size]?=_:=aA f _;generalize World.drew (World.alloc _ _)=bx at B bt⊢;have bs:=Sq.below S B;have cl:=(B.block _ (ai aK)).trans aK;have c0:=bs.low;have cI:h<=40000000:=by have q:=Sq.ln S;simp only[dE,Fo.sz_app,Fo.sz]at q;omega
 have⟨ca,cb,cc,cd,ce⟩:=fh za;refine fj (i:=7) (by kernel_rfl) rfl (λA g=>?_);refine step_append_lies _ (by rfl) _ _ 24 (by rfl) k.base 34 ca _ 9 112 Tryz.underlying24 cb cc cd ce rfl (by decide) (M w h y) h _ (by rfl) (dA ap B) ⟨f.heap.size,0,Z⟩ 1 1 (wA ⟨1,0,(s.size:Nat),1,0,0,⟨#[]⟩,[],K⟩ s0 (M a d b)).toList (by rfl) rfl (World.news_of_block bt) (by intro u bn;simp at bn;rcases bn with rfl|rfl|rfl|rfl|rfl|rfl|rfl|rfl|rfl<;>rfl) (by decide) (by unfold maxLen;omega) (by omega) (by omega) bx.heap.size rfl ?_;intro ar ao a5 cf b4 b2 c1;obtain⟨a4,I⟩:=bs.push cl (by rw[bk]) ⟨⟨1,0,(s.size:Nat),1,0,0,⟨#[]⟩,[],K⟩,s0,M a d b⟩ (by rw[uy];exact cf) b4 b2 (.inl ⟨rfl,rfl⟩) (.inr (.head _)) rfl;rw[G.out]at a4 I;have bv:_=Ad (Obj.cells #[U O 1,U O 0,U O (s.size:Nat),U O 1,U O 0,U O 0,A3 ⟨#[]⟩,M Z 0 0,M a d b] 34 (0,0)):=Sq.hd a4;have ad:=bv;rw[ay _ _ _ _ (by show W.heap.size+1+1≠W.heap.size+1;omega)]at ad;have cw:a5.cell? ⟨W.heap.size+1,2,Z⟩=Ad (M w h y):=by rw[aj _ _ _ _ _ _ I];rfl
 have cB:a5.frozen? ⟨W.heap.size+1,2,Z⟩=B0:=cH _ _ _ _ _ I;have a3:=bp a5 (W.heap.size+1) 2 _ _ (M (Ad ⟨ar,0,Z⟩) (h+1) ao) I;have l:=am a4;refine g _ _ ad (λc=>by cases c) ?_;simp only[Act.put,co,cA,cC];refine fj (i:=8) (by kernel_rfl) rfl (λA g=>?_);go_simp;refine g _ _ ad (λc=>by cases c) ?_;try simp only[co,cA,cC]
 refine fj (i:=9) (by kernel_rfl) rfl (λA g=>?_);go_simp;refine g _ _ ad (λc=>by cases c) ?_;try simp only[co,cA,cC]
 refine fj (i:=10) (by kernel_rfl) rfl (λA g=>?_);go_simp;refine g _ _ bv (λc=>by cases c) ?_;refine uz (by kernel_rfl) ?_ _;generalize A5 _ _ _=al at l a3⊢;have cx:al.cell? ⟨W.heap.size+1,2,Z⟩=Ad (M (Ad ⟨ar,0,Z⟩) (h+1) ao):=by rw[aj _ _ _ _ _ _ a3];rfl
 have p:=(l.fz W.heap.size (by omega) (by rw[G.out];omega) (by simp)).trans a6.out.1;have cy:al.cell? ⟨W.heap.size,0,Z⟩=Ad (M Z 0 0):=by rw[aj _ _ _ _ _ _ p];rfl
 have cz:al.frozen? ⟨W.heap.size,0,Z⟩=B0:=cH _ _ _ _ _ p;have bw:=am a3;go_wp2_with fail;have⟨cn,br,a2⟩:=l.row;rw[G.out]at br;obtain rfl:cn= M (Ad ⟨ar,0,Z⟩) (h+1) ao:=by have e:=bw.out;rw[br]at e;simp at e;exact e
 have⟨cr,bD,bE,_⟩:=l.ac;rw[bh.out]at a2;have z:=l.each;have ba:=l.bl;rw[bh.out]at ba z;exact aL (io rfl _ _ W.heap.size _ _ _ _ rfl (bp _ _ 0 _ _ _ p) Tryz.underlying26 rfl (by kernel_rfl)) rfl ⟨_,rfl,_,⟨tz a2 (gC a2 p (by decide)) 0 _,λJ H=>⟨tz (z J H).1 (gC (z J H).1 p (by decide)) 0 _,tz (z J H).2 (gC (z J H).2 p (by decide)) 0 _⟩⟩,by rw[bD,dI,bE];rfl,a6.out.2.trans (ba.setCell (ag _) _)⟩
