import Derived.Test.YtcbmoiabehpliaaGreatDoorHPk01
import Derived.Test.YtcbmoiabehpliaaGreatDoorHPk26
import Derived.Test.YtcbmoiabehpliaaGreatDoorHPk04
import Derived.Test.YtcbmoiabehpliaaGreatDoorHPk13
import Derived.Test.YtcbmoiabehpliaaGreatDoorHPk25
import Derived.Test.YtcbmoiabehpliaaGreatDoorHPk27
import Derived.Deep.AppendLies
import Derived.Test.YtcbmoiabehpliaaGreatDoorHPk24
import Derived.Test.YtcbmoiabehpliaaGreatDoorHPk02
import Derived.Deep.Cut
set_option linter.unusedSimpArgs false
set_option linter.unusedVariables false
set_option maxRecDepth 100000
set_option maxHeartbeats 12800000
namespace Go.Proofs.YtcbmoiabehpliaaGreatDoor
open Go.RowKit
def IT(c k:Int):Bool:=decide ((k=1/\aC c=true)\/((k=2\/k=3)/\aG c=true)\/(k=4/\c=34))
def IU(x:ByteArray)(k:Int):Bool:=decide (x.size<=(js k).size)&&(((js k).extract 0 x.size).toList==x.toList)
def EM(x:ByteArray):List Int->Bool
 |[]=>false
 |k::r=>if IT (ae x 0) k=true then true else if IU x k=true then true else EM x r
def iC(ks:List Int)(x:ByteArray):Bool:=if x.size=1/\ae x 0=45 then true else EM x ks
structure GS (x:ByteArray) (ks:List Int) (R:Bool):Prop where
 out:EM x ks=R
theorem uk(w:World)(v:Value)(ks:List Int)(x:ByteArray)(h:aV w v ks)(X:ks.length<=1000)(V:0<x.size)(a4:x.size<=70000):
  Calls Tryz.prog 88 #[v,.string x] w fun e d=>e= .returned (.bool (iC ks x))/\Below w.heap.size w d:=by
 have M:=fun w=>aI V w;rw[show(((0:Nat):Int))=0 from rfl]at M;obtain⟨a2,ar,rfl⟩:=h.form;unfold iC;by_cases m:x.size=1/\ae x 0=45
 ·rw[if_pos m];rw[m.2]at M;have a1:=m.1;clear h m;go_in;go_wp2_with fail;go_ret;exact⟨rfl,Below.refl _ _⟩
 ·rw[if_neg m];obtain⟨K,A⟩:=ah (EM x ks);rw[A];obtain⟨s,z⟩:=ah ks.length;rw[z]at h X⊢;have C:=cK h z;have O:GS x (ks.drop 0) K:=⟨A⟩;obtain⟨f,u⟩:=ah (ae x 0);have ak:=ab u;rw[u]at M m;have S:((x.size:Int)=1/\(f==45)=false)\/((x.size:Int)==1)=false:=by
   rcases Classical.em (x.size=1) with g|g
   ·exact .inl ⟨by omega,by rw[beq_eq_false_iff_ne];exact fun e=>m ⟨g,e⟩⟩
   ·exact .inr (by rw[beq_eq_false_iff_ne];omega)
  clear h z A u m;rcases S with⟨p1,p2⟩|p1;all_goals
   go_in;go_wp2_with fail;clear p1;try clear p2
   go_loopw [18] (fun F wr=>∃i:Nat,i<=s/\F= .int .i64 i/\GS x (ks.drop i) K/\Below w.heap.size w wr) (fun F _=>s-(intOf F).toNat)
   case atStart=>exact⟨0,Nat.zero_le _,rfl,O,Below.refl _ _⟩
   case round=>
    obtain⟨i,av,rfl,B,t⟩:=hrel;clear O;have c:=B.out;by_cases Z:i<s
    ·have a0:(i:Int)<(s:Int):=by omega
     have ap:(0:Int)<=(i:Int):=by omega
     obtain⟨a,I⟩:=aF C.out.2 Z;obtain⟨ao,rfl,a3⟩:=(C.out.1.below t).get I;have y:=List.getElem?_eq_some_iff.1 I;rw[List.drop_eq_getElem_cons y.1,y.2,EM,ak.out]at c;have k:=ab t;clear I y B t;by_cases r:IT f a=true
     ·rw[if_pos r]at c;have l:=ab c;have p:=of_decide_eq_true r;clear c r;rcases p with⟨rfl,b⟩|⟨rfl|rfl,b⟩|⟨rfl,rfl⟩
      ·go_wp2_with (go_at_call 81;refine(db b _).mono ?_;rintro e d ⟨rfl,q⟩;subst d);go_ret;exact⟨by rw[<-l.out];rfl,k.out⟩
      ·go_wp2_with (go_at_call 83;refine(aT b _).mono ?_;rintro e d ⟨rfl,q⟩;subst d);go_ret;exact⟨by rw[<-l.out];rfl,k.out⟩
      ·go_wp2_with (go_at_call 83;refine(aT b _).mono ?_;rintro e d ⟨rfl,q⟩;subst d);go_ret;exact⟨by rw[<-l.out];rfl,k.out⟩
      ·go_wp2_with fail;go_ret;exact⟨by rw[<-l.out];rfl,k.out⟩
     ·rw[if_neg r]at c;have p:¬((a=1/\aC f=true)\/((a=2\/a=3)/\aG f=true)\/(a=4/\f=34)):=fun j=>r (decide_eq_true j);have R:(a=1/\aC f=false)\/(a=2/\aG f=false)\/(a=3/\aG f=false)\/(a=4/\(f==34)=false)\/((a==1)=false/\(a==2)=false/\(a==3)=false/\(a==4)=false):=by
       by_cases E:a=1
       ·refine .inl ⟨E,?_⟩;cases j:aC f with
        |false=>rfl
        |true=>exact absurd (.inl ⟨E,j⟩) p
       by_cases H:a=2
       ·refine .inr (.inl ⟨H,?_⟩);cases j:aG f with
        |false=>rfl
        |true=>exact absurd (.inr (.inl ⟨.inl H,j⟩)) p
       by_cases L:a=3
       ·refine .inr (.inr (.inl ⟨L,?_⟩));cases j:aG f with
        |false=>rfl
        |true=>exact absurd (.inr (.inl ⟨.inr L,j⟩)) p
       by_cases J:a=4
       ·exact .inr (.inr (.inr (.inl ⟨J,beq_eq_false_iff_ne.2 fun j=>p (.inr (.inr ⟨J,j⟩))⟩)))
       ·exact .inr (.inr (.inr (.inr ⟨beq_eq_false_iff_ne.2 E,beq_eq_false_iff_ne.2 H,beq_eq_false_iff_ne.2 L,beq_eq_false_iff_ne.2 J⟩)))
      have G:=fun w=>vF a w;unfold IU at c;generalize js a=o at G c;clear p r;by_cases n:(decide (x.size<=o.size)&&((o.extract 0 x.size).toList==x.toList))=true
      ·rw[if_pos n]at c;have l:=ab c;rw[Bool.and_eq_true]at n;obtain⟨Q,U⟩:=n;have t3:(x.size:Int)<=(o.size:Int):=by have:=of_decide_eq_true Q;omega
       clear c Q;rcases R with⟨rfl,b⟩|⟨rfl,b⟩|⟨rfl,b⟩|⟨rfl,b⟩|⟨am,af,an,W⟩;all_goals
        go_wp2_with (first|(go_at_call 81;refine(db b _).mono ?_;rintro e d ⟨rfl,q⟩;subst d)|(go_at_call 83;refine(aT b _).mono ?_;rintro e d ⟨rfl,q⟩;subst d)|(go_at_call 148;refine(G _).mono ?_;rintro e Y ⟨rfl,N⟩));go_ret;exact⟨by rw[<-l.out];rfl,k.out.trans (N.mono k.out.size)⟩
      ·rw[if_neg n]at c;have al:GS x (ks.drop (i+1)) K:=⟨c⟩;clear c;have T:(x.size:Int)<=(o.size:Int)/\((o.extract 0 x.size).toList==x.toList)=false\/¬(x.size:Int)<=(o.size:Int):=by
        rcases Nat.lt_or_ge o.size x.size with g|g
        ·exact .inr (by omega)
        ·refine .inl ⟨by omega,?_⟩;rw[decide_eq_true g,Bool.true_and]at n;simpa using n
       clear n;rcases T with⟨t3,U⟩|t3;all_goals
        rcases R with⟨rfl,b⟩|⟨rfl,b⟩|⟨rfl,b⟩|⟨rfl,b⟩|⟨am,af,an,W⟩;all_goals
         go_wp2_with (first|(go_at_call 81;refine(db b _).mono ?_;rintro e d ⟨rfl,q⟩;subst d)|(go_at_call 83;refine(aT b _).mono ?_;rintro e d ⟨rfl,q⟩;subst d)|(go_at_call 148;refine(G _).mono ?_;rintro e Y ⟨rfl,N⟩));exact⟨⟨i+1,by omega,by go_num,al,k.out.trans (N.mono k.out.size)⟩,by simp[intOf];omega⟩
    ·obtain rfl:i=s:=by omega
     rw[List.drop_of_length_le (by rw[C.out.2];exact Nat.le_refl _),EM]at c;have l:=ab c;clear c B;go_wp2_with fail;go_ret;exact⟨by rw[<-l.out];rfl,t⟩
def jB(s:ByteArray)(p n:Nat):Bool:=aC (ae s p)&&(!(aC (lk s (p+n)))&&!(aG (lk s (p+n))))
def FM(s:ByteArray)(p:Nat)(ks:List Int):Nat->Nat->Nat
 |0,n=>n
 |f+1,n=>if p+n<s.size/\iC ks (s.extract p (p+n+1))=true then(if jB s p (n+1)=true then n+1 else FM s p ks f (n+1)) else n
def wrongF(s:ByteArray)(p:Nat)(ks:List Int):Nat:=p+FM s p ks (s.size+1) 0
structure BR (s:ByteArray) (p:Nat) (ks:List Int) (f n R:Nat):Prop where
 out:FM s p ks f n=R
theorem ma(w:World)(s:ByteArray)(p:Nat)(v:Value)(ks:List Int)(h:aV w v ks)(F:ks.length<=1000)(ap:s.size<=70000)(W:p<s.size):
  Calls Tryz.prog 44 #[.string s,.int .i64 p,v] w fun e S=>e= .returned (.int .i64 (wrongF s p ks))/\Below w.heap.size w S:=by
 have an:=fun w=>aI W w;obtain⟨L,E,rfl⟩:=h.form;unfold wrongF;obtain⟨m,x⟩:=ah (FM s p ks (s.size+1) 0);rw[x];obtain⟨N,u⟩:=ah ks.length;have H:Hid (aV w (.slice L N E) ks/\ks.length<=1000):=⟨by rw[<-u];exact h,F⟩;have G:BR s p ks (s.size+1) 0 m:=⟨x⟩;rw[u];obtain⟨R,t⟩:=ah (ae s p);have Z:=ab t;rw[t]at an;have av:(p:Int)<(s.size:Int):=by omega
 clear h F x t u;go_in;go_wp2_with fail;go_loopw [7] (fun z wr=>∃(a d:Nat),p+a<=s.size/\s.size<p+a+d/\z= .int .i64 a/\BR s p ks d a m/\Below w.heap.size w wr) (fun z _=>s.size+1-(intOf z).toNat)
 case atStart=>exact⟨0,s.size+1,by omega,by omega,rfl,G,Below.refl _ _⟩
 case round=>
  obtain⟨a,d,a0,ar,rfl,n,l⟩:=hrel;clear G;obtain⟨d,rfl⟩:∃ak,d=ak+1:=⟨d-1,by omega⟩;have b:=n.out;rw[FM]at b;by_cases J:p+a<s.size
  ·have X:(p:Int)+(a:Int)<(s.size:Int):=by omega
   have a2:(0:Int)<=(p:Int)+(a:Int):=by omega
   have K:(s.extract p (p+a+1)).size=a+1:=by rw[ByteArray.size_extract];omega
   have k:=fun (I:World) (V:Below w.heap.size w I)=>uk I (.slice L N E) ks (s.extract p (p+a+1)) (H.out.1.below V) H.out.2 (by omega) (by omega);have O:(p:Int)+(a:Int)+1<=(s.size:Int):=by omega
   have T:IntKind.i64.wrap ((p:Int)+(a:Int)+1)=(p:Int)+(a:Int)+1:=by rw[IntKind.wrap_i64];omega
   have am:((p:Int)+(a:Int)+1).toNat=p+a+1:=by omega
   have c:=ab l;obtain⟨al,y⟩:=ah (iC ks (s.extract p (p+a+1)));rw[y]at k b;have ao:=c.out;cases al with
   |false=>
    rw[if_neg (fun h=>by cases h.2)]at b;have f:=ab b;clear b n l y K;go_wp2_with fail;refine au (k _ c.out) fun Y g=>?_;clear k;go_wp2_with fail;go_ret;exact⟨by first|(rw[<-f.out,Int.natCast_add];rfl)|(rw[<-f.out];rfl),c.out.trans (g.mono c.out.size)⟩
   |true=>
    rw[if_pos ⟨J,rfl⟩]at b;unfold jB at b;rw[Z.out]at b;have j:=fun w=>bS s (by omega) ((p:Int)+((a:Int)+1)) (p+(a+1)) (by omega) w;generalize lk s (p+(a+1))=M at j b;obtain⟨af,B⟩:=ah (aC R);obtain⟨U,C⟩:=ah (aC M);obtain⟨Q,A⟩:=ah (aG M);rw[B,C,A]at b;have o:=fun w=>db B w;have q:=fun w=>db C w;have r:=fun w=>aT A w;have a1:=ab l;clear B C A n l y K ao;go_wp2_with fail;refine au (k _ c.out) fun Y g=>?_;clear k O T am;cases af with
    |false=>
     have i:BR s p ks d (a+1) m:=⟨b⟩;clear b q r j;go_wp2_with (first|(go_at_call 81;with_reducible refine bc (o _) ?_));exact⟨⟨a+1,d,by omega,by omega,by go_num,i,c.out.trans (g.mono c.out.size)⟩,by simp[intOf];omega⟩
    |true=>
     cases U with
     |true=>
      have i:BR s p ks d (a+1) m:=⟨b⟩;clear b r;go_wp2_with (first|(go_at_call 81;with_reducible refine bc (o _) ?_)|(go_at_call 81;with_reducible refine bc (q _) ?_)|(go_at_call 80;refine bc (j _) ?_));exact⟨⟨a+1,d,by omega,by omega,by go_num,i,c.out.trans (g.mono c.out.size)⟩,by simp[intOf];omega⟩
     |false=>
      cases Q with
      |true=>
       have i:BR s p ks d (a+1) m:=⟨b⟩;clear b;go_wp2_with (first|(go_at_call 81;with_reducible refine bc (o _) ?_)|(go_at_call 81;with_reducible refine bc (q _) ?_)|(go_at_call 83;refine bc (r _) ?_)|(go_at_call 80;refine bc (j _) ?_));exact⟨⟨a+1,d,by omega,by omega,by go_num,i,c.out.trans (g.mono c.out.size)⟩,by simp[intOf];omega⟩
      |false=>
       have f:=ab b;clear b;go_wp2_with (first|(go_at_call 81;with_reducible refine bc (o _) ?_)|(go_at_call 81;with_reducible refine bc (q _) ?_)|(go_at_call 83;refine bc (r _) ?_)|(go_at_call 80;refine bc (j _) ?_));go_ret;exact⟨by first|(rw[<-f.out,Int.natCast_add,Int.natCast_add];rfl)|(rw[<-f.out,Int.natCast_add];rfl)|(rw[<-f.out];rfl),c.out.trans (g.mono c.out.size)⟩
  ·rw[if_neg (fun h=>J h.1)]at b;have f:=ab b;have X:¬(p:Int)+(a:Int)<(s.size:Int):=by omega
   clear b n;go_wp2_with fail;go_ret;exact⟨by first|(rw[<-f.out,Int.natCast_add];rfl)|(rw[<-f.out];rfl),l⟩
end Go.Proofs.YtcbmoiabehpliaaGreatDoor
namespace Go.Proofs.YtcbmoiabehpliaaGreatDoor
open Go.RowKit Go.Maps Go.WideMaps
theorem Sp.nds{E:Pe}{W:World}{i:Nat}{b:List Mb}{B:List (Nat×Array Value)}(h:Sp E W i b B){v:Value}(d:W.ownsRow E.base 69 9 v b.length (cQ b)):bf W v (b.map Mb.N):=by
 rcases ay d with⟨n,rfl⟩|⟨m,j,rfl⟩
 ·exact .inl ⟨by rw[List.eq_nil_of_length_eq_zero n];rfl,_,_,rfl⟩
 ·refine .inr ⟨⟨m,0,none⟩,j,by rw[List.length_map],fun i N a=>?_⟩;rw[List.getElem?_map]at a;cases hx:b[i]? with
  |none=>rw[hx]at a;cases a
  |some c=>
   rw[hx]at a;obtain rfl:=Option.some.inj a;rw[lB];obtain⟨l,p,k,f,q,r,g,s,o⟩:=gc d hx;have e:=h.each c (List.mem_of_getElem? hx);exact⟨c.vn,c.vk,l,p,k,f,q,r,g,s,o,lC e.1,ga e.2⟩
theorem Sp.otherT{E:Pe}{W e:World}{i:Nat}{u:List Mb}{B:List (Nat×Array Value)}(h:Sp E W i u B){b:Nat}{cs:Array Value}{fr:Nat×Nat}(n:W.heap[b]?=some (.cells cs 24 fr))(F:E.tb≠b)(v:W.grownBy e (some b)):Sp E e i u B:=by
 obtain⟨H,I,K,J⟩:=h.tks;obtain⟨d,f,C,k⟩:=h.row;have q:∀c l g m,W.heap[c]?=some (.cells l g m)->c≠b->e.heap[c]?=some (.cells l g m):=fun c l g m w G=>(v.block c (lt_of_block w) (fun a=>G (by cases a;rfl))).trans w;have j:∀{t a z x:Nat}{d:Value}{s:List Value},W.ownsRow t a z d x s->24≠a->e.ownsRow t a z d x s:=fun y L=>y.kept v (by
  cases hv:Value.ownBlock _ with
  |none=>exact .inl rfl
  |some M=>exact .inr (fun a=>bZ y n L (by rw[hv,a])))
 refine⟨h.lo,h.hn,⟨H,I,q _ _ _ _ K F,J⟩,⟨d,q _ _ _ _ f (fun a=>by rw[a,n]at f;cases f),j C (by decide),fun o p=>⟨q _ _ _ _ (k o p).1 (fun a=>?_),(k o p).2⟩⟩,fun r A=>⟨j (h.each r A).1 (by decide),j (h.each r A).2 (by decide)⟩,h.nb⟩;have:=(k o p).1;rw[a,n]at this;simp only[Option.some.injEq,Obj.cells.injEq]at this;exact absurd this.2.1 (by decide)
theorem Sp.new{W:World}{a cap n:Nat}{tk:Nat->Tk}{b:Array Value}{fr:Nat×Nat}(c:W.heap[a]?=some (.cells b 45 fr))(f:GL b tk n)(e:n<=1048576)(o:Obj):Sp ⟨W.heap.size,W.heap.size+1,a,cap,n,tk⟩ ((W.alloc o).alloc (.cells #[.slice (some ⟨a,0,none⟩) n cap,.int .i64 0,.slice none 0 0] 65)) 0 [] []:=by
 have d:=(ax W o).trans ((ax (W.alloc o) (.cells #[.slice (some ⟨a,0,none⟩) n cap,.int .i64 0,.slice none 0 0] 65)).mono (by simp));refine⟨by show W.heap.size<=W.heap.size+1;omega,e,⟨b,fr,(d.block _ (lt_of_block c)).trans c,f⟩,⟨.slice none 0 0,?_,World.ownsRow_nil _ _ _ _,fun d h=>by cases h⟩,fun i g=>(by cases g),List.nodup_nil⟩;have:=heap_alloc_new (W.alloc o) (.cells #[.slice (some ⟨a,0,none⟩) n cap,.int .i64 0,.slice none 0 0] 65);rw[World.size_alloc]at this;exact this
theorem EN(s:ByteArray)(W:World)(q cap n j:Nat)(tk:Nat->Tk)(a7:Array Value)(fr:Nat×Nat)(bd:W.heap[q]?=some (.cells a7 45 fr))(bA:GL a7 tk n)(b5:n<=1048576)(ea:s.size<=1048576){R:Fo}(hS:CL ⟨W.heap.size,W.heap.size+1,q,cap,n,tk⟩ 24 #[pV ⟨W.heap.size,W.heap.size+1,q,cap,n,tk⟩,.int .i64 6] 0 R j)(d9:R.sz<=40000000):
  Calls Tryz.prog 10 #[.string s,.slice (some ⟨q,0,none⟩) n cap] W fun e p=>∃v b2,e= .returned (.agg #[v])/\Lw p W.heap.size v b2/\b2.map Mb.N=(one ⟨1,0,(s.size:Nat),1,0,0,⟨#[]⟩,[],[]⟩ R).flat 0/\Below W.heap.size W p:=by
 obtain⟨a,X⟩:∃a:Pe,(⟨W.heap.size,W.heap.size+1,q,cap,n,tk⟩:Pe)=a:=⟨_,rfl⟩;have Q:=Sp.new (cap:=cap) bd bA b5 (.cells #[.slice none 0 0] 24);rw[X]at Q hS;have a9:a.base=W.heap.size:=by rw[<-X]
 have J:a.pb=W.heap.size+1:=by rw[<-X]
 have an:=(ax W (.cells #[.slice none 0 0] 24)).trans ((ax (W.alloc (.cells #[.slice none 0 0] 24)) (.cells #[.slice (some ⟨q,0,none⟩) n cap,.int .i64 0,.slice none 0 0] 65)).mono (by simp));have a2:((W.alloc (.cells #[.slice none 0 0] 24)).alloc (.cells #[.slice (some ⟨q,0,none⟩) n cap,.int .i64 0,.slice none 0 0] 65)).heap[W.heap.size]?=some (.cells #[.slice none 0 0] 24 (0,0)):=(Below.heap_alloc _ _ _ (by simp)).trans (heap_alloc_new W _);obtain⟨M,bs⟩:=ah ((W.alloc (.cells #[.slice none 0 0] 24)).alloc (.cells #[.slice (some ⟨q,0,none⟩) n cap,.int .i64 0,.slice none 0 0] 65));rw[bs]at Q an a2;have cl:=bU.start Q;have Z:=nA cl (aW ⟨1,0,(s.size:Nat),1,0,0,⟨#[]⟩,[],[]⟩ s0 s0);have bx:pV a= .pointer (some ⟨W.heap.size+1,0,none⟩):=by show Value.pointer (some ⟨a.pb,0,none⟩)=_;rw[J]
 have c1:M.heap.size=W.heap.size+1+1:=by rw[<-bs];simp
 have bn:=cK a2 an;unfold CL at hS;rw[bx]at hS;clear Q bd bA a2 an bx;go_in;go_wp2_with fail;rw[c1]at Z;refine(hS _ _ _ Z.out.sp (by simp;omega)).mono ?_;rintro e cq ⟨v,y,rfl,⟨cz,_⟩,af,ao⟩;have ch:=ab af;obtain⟨d,c,rfl⟩:=aB af;have Y:=nP Z ao;have ac:=ab ao.ac;have c0:a.base<=W.heap.size+1+1:=by omega
 obtain⟨eq,et,ei,eg,c6,c9,ed,d5,el,d4⟩:=nC Y;obtain⟨b3,b0⟩:=nK Y c0 (.slice d R.len c);have r:=ab b3;have b1:=oK ch b0 (.inl rfl);clear af ao b0 cz b3 Y;obtain⟨k,cs⟩:=ah (cq.setCell ⟨W.heap.size+1+1,8,none⟩ (.slice d R.len c));rw[cs]at r b1;obtain⟨v,F,U,dk⟩:=r.out.sp.row;obtain⟨z,E,rfl⟩:=aB U;rw[J]at F;have a3:k.cell? ⟨W.heap.size+1,2,none⟩=some (.slice z y.length E):=by rw[cell_of_row _ _ _ _ _ _ F];rfl
 obtain⟨b,ar⟩:=ah y.length;rw[ar]at a3 F U;have ap:k.heap[W.heap.size+1+1]?=some (.cells (aW ⟨1,0,(s.size:Nat),1,0,0,⟨#[]⟩,[],R.tops 0⟩ s0 (.slice d R.len c)) 69 (0,0)):=r.out.sp.box (List.mem_cons_self ..);go_wp2_with fail;refine wp_region_held_drew (S:=fun a4=>a4.heap[W.heap.size+1+1]?=some (.cells (aW ⟨1,0,(s.size:Nat),1,0,0,⟨#[]⟩,[],R.tops 0⟩ s0 (.slice d R.len c)) 69 (0,0))) (by kernel_rfl) ap (fun u=>?_);simp only[List.size_toArray,List.length_cons,List.length_nil,Nat.reduceAdd,Array.replicate_succ,Array.replicate_zero,List.push_toArray,List.nil_append,List.cons_append];refine aA 0 (.pointer (some ⟨W.heap.size+1,0,none⟩)) rfl rfl (by kernel_rfl) (fun _ _ _=>id) u (fun p x=>by go_simp) ?_;simp only[List.set];refine aA 1 (.pointer (some ⟨W.heap.size+1,0,none⟩)) rfl rfl (by kernel_rfl) (fun _ _ _=>id) u (fun p x=>by go_simp) ?_;simp only[List.set];refine aA 2 (.pointer (some ⟨W.heap.size+1,0,none⟩)) rfl rfl (by kernel_rfl) (fun _ _ _=>id) u (fun p x=>by go_simp) ?_;simp only[List.set];refine aA 3 (.pointer (some ⟨W.heap.size+1,2,none⟩)) rfl rfl (by kernel_rfl) (fun _ _ _=>id) u (fun p x=>by go_simp) ?_;simp only[List.set];refine wv 5 21 (.agg #[.int .i64 1,.int .i64 0,.int .i64 (s.size:Nat),.int .i64 1,.int .i64 0,.int .i64 0,.string ⟨#[]⟩,.slice none 0 0,.slice d R.len c]) rfl rfl (by kernel_rfl) (by kernel_rfl) (by kernel_rfl) (fun _ _ _ al=>al) (by rfl) u (fun p x=>by obtain⟨z0,en,em,ef,d2,c4,ec,L,b4,ek⟩:=ad (N:=⟨1,0,(s.size:Nat),1,0,0,⟨#[]⟩,[],R.tops 0⟩) (vn:=s0) (vk:= .slice d R.len c) x;go_simp) ?_;simp only[Act.put,List.setIfInBounds_toArray,List.set_cons_zero,List.set_cons_succ];have b7:=a3;refine gg (S:=fun a4=>a4.cell? ⟨W.heap.size+1,2,none⟩=some (.slice z b E)) (C:=fun j=>!(j==7||j==8||j==9||j==10)) (i:=4) (v:= .slice z b E) rfl (Region.noSelect_spec (by kernel_rfl)) (fun _ _ _ al=>al) ?hC _ _ _ _ (Region.free_spec rfl (by kernel_rfl)) (List.contains_iff_mem.1 (by kernel_rfl)) (Or.inl ⟨by rfl,fun p x=>by go_simp⟩) u b7 ?_
 case hC=>
  intro j dn a8 l;simp only[Bool.not_eq_false',Bool.or_eq_true,beq_iff_eq]at l;rcases l with((rfl|rfl)|rfl)|rfl
  ·obtain rfl:=Option.some.inj a8;exact⟨{on:=4,ground:=Ground.data},by simp,rfl,rfl⟩
  all_goals
   obtain rfl:=Option.some.inj a8;exact⟨{on:=4,ground:=Ground.phase},by simp,rfl,rfl⟩
 simp only[Act.put,List.setIfInBounds_toArray,List.set_cons_zero,List.set_cons_succ];refine aR (i:=6) (by kernel_rfl) rfl (fun m f=>?_);go_simp;have am:Below k.heap.size k (k.drew.alloc (.cells (aW ⟨1,0,(s.size:Nat),1,0,0,⟨#[]⟩,[],R.tops 0⟩ s0 (.slice d R.len c)) 69)):=(aE (Below.refl _ _)).alloc (by simp) _;refine f.out _ _ ((am.block _ (lt_of_block ap)).trans ap) (fun _=>aa am a3) ?_;clear f m;try simp only[List.setIfInBounds_toArray,List.set_cons_zero,List.set_cons_succ]
 obtain⟨O,A⟩:=ah ((k.alloc (.cells (aW ⟨1,0,(s.size:Nat),1,0,0,⟨#[]⟩,[],R.tops 0⟩ s0 (.slice d R.len c)) 69)).drew);have w:Below k.heap.size k O:=by rw[<-A];exact aE (ax k _)
 have c3:O.heap[k.heap.size]?=some (.cells (aW ⟨1,0,(s.size:Nat),1,0,0,⟨#[]⟩,[],R.tops 0⟩ s0 (.slice d R.len c)) 69 (0,0)):=by rw[<-A];exact heap_alloc_new k _
 simp only[aW]at A;rw[A];clear A am u;have cf:=r.out.sp.below w;have b6:=(w.block _ (lt_of_block F)).trans F;have cg:=ai U w;have bt:=r.out.sp.lt;have cr:=ac.out.len;have d7:b<=50000000:=by rw[<-ar,cr];simp;omega
 obtain⟨cw,cb,cn,c2,cc⟩:=info_parts rK;refine aR (i:=7) (by kernel_rfl) rfl (fun m f=>?_);refine step_append_lies _ (by rfl) _ _ 22 (by rfl) a.base 69 cw _ 9 112 Tryz.underlying22 cb cn c2 cc rfl (by decide) (.slice z b E) b _ (by rfl) cg ⟨k.heap.size,0,none⟩ 1 1 (aW ⟨1,0,(s.size:Nat),1,0,0,⟨#[]⟩,[],R.tops 0⟩ s0 (.slice d R.len c)).toList (by rfl) rfl (World.news_of_block c3) (by intro es bk;simp at bk;rcases bk with rfl|rfl|rfl|rfl|rfl|rfl|rfl|rfl|rfl<;>rfl) (by decide) (by unfold maxLen;omega) (by omega) (Nat.le_trans bt.2 w.size) O.heap.size rfl ?_;intro g h o a1 a5 bN d8;have bw:cQ y++(aW ⟨1,0,(s.size:Nat),1,0,0,⟨#[]⟩,[],R.tops 0⟩ s0 (.slice d R.len c)).toList=cQ (y++[⟨⟨1,0,(s.size:Nat),1,0,0,⟨#[]⟩,[],R.tops 0⟩,s0,.slice d R.len c⟩]):=by rw[iv];show _=cQ y++(zB _++[]);rw[List.append_nil];rfl
 rw[bw]at a1;have br:O.ownsRow a.base 3 1 (.slice d R.len c) (R.tops 0).length ((R.tops 0).map (Value.int .i64)):=by rw[Fo.tops_len];exact ai b1.out w
 obtain⟨G,V,a0,T⟩:=cf.push (by rw[J];exact b6) (by rw[ar]) ⟨⟨1,0,(s.size:Nat),1,0,0,⟨#[]⟩,[],R.tops 0⟩,s0,.slice d R.len c⟩ a1 a5 bN (World.ownsRow_nil _ _ _ _) br;rw[J]at G V a0 T;have L:o.heap[W.heap.size+1+1]?=some (.cells (aW ⟨1,0,(s.size:Nat),1,0,0,⟨#[]⟩,[],R.tops 0⟩ s0 (.slice d R.len c)) 69 (0,0)):=by
  have I:=G.box (List.mem_cons_self ..);rw[heap_setCell_other _ _ _ _ (by show W.heap.size+1+1≠W.heap.size+1;omega)]at I;exact I
 have b4:=G.box (List.mem_cons_self ..);have ep:o.cell? ⟨W.heap.size+1,2,none⟩=some (.slice z b E):=by rw[cell_of_row _ _ _ _ _ _ T];rfl
 have d1:o.frozen? ⟨W.heap.size+1,2,none⟩=false:=frozen_of_row _ _ _ _ _ T;have K:(o.setCell ⟨W.heap.size+1,2,none⟩ (.slice (some ⟨g,0,none⟩) (b+1) h)).heap[W.heap.size+1]?=some (.cells #[.slice (some ⟨a.tb,0,none⟩) a.n a.cap,.int .i64 j,.slice (some ⟨g,0,none⟩) (b+1) h] 65 (0,0)):=heap_setCell_same _ _ 2 _ _ _ T;have H:Hid (Sp a (o.setCell ⟨W.heap.size+1,2,none⟩ (.slice (some ⟨g,0,none⟩) (b+1) h)) j (y++[⟨⟨1,0,(s.size:Nat),1,0,0,⟨#[]⟩,[],R.tops 0⟩,s0,.slice d R.len c⟩]) ((W.heap.size+1+1,aW ⟨1,0,(s.size:Nat),1,0,0,⟨#[]⟩,[],R.tops 0⟩ s0 (.slice d R.len c))::[])/\Kt M (o.setCell ⟨W.heap.size+1,2,none⟩ (.slice (some ⟨g,0,none⟩) (b+1) h))/\Below a.base M (o.setCell ⟨W.heap.size+1,2,none⟩ (.slice (some ⟨g,0,none⟩) (b+1) h))):=
  ⟨G,(r.out.kt.trans (Kt.of_below w)).trans V,(r.out.bl.trans (w.mono bt.2)).trans a0⟩
 clear G V a0 br bw a1 a5 bN;refine f.out _ _ L (fun l=>by cases l) ?_;clear f m;simp only[Act.put,List.setIfInBounds_toArray,List.set_cons_zero,List.set_cons_succ];refine aR (i:=8) (by kernel_rfl) rfl (fun m f=>?_);go_simp;refine f.out _ _ L (fun l=>by cases l) ?_;clear f m;try simp only[List.setIfInBounds_toArray,List.set_cons_zero,List.set_cons_succ]
 refine aR (i:=9) (by kernel_rfl) rfl (fun m f=>?_);go_simp;refine f.out _ _ L (fun l=>by cases l) ?_;clear f m;try simp only[List.setIfInBounds_toArray,List.set_cons_zero,List.set_cons_succ]
 refine aR (i:=10) (by kernel_rfl) rfl (fun m f=>?_);go_simp;refine f.out _ _ b4 (fun l=>by cases l) ?_;clear f m;refine ix (by kernel_rfl) ?_ _;have cT:(o.setCell ⟨W.heap.size+1,2,none⟩ (.slice (some ⟨g,0,none⟩) (b+1) h)).cell? ⟨W.heap.size+1,2,none⟩=some (.slice (some ⟨g,0,none⟩) (b+1) h):=by rw[cell_of_row _ _ _ _ _ _ K];rfl
 obtain⟨t,bE⟩:=ah (o.setCell ⟨W.heap.size+1,2,none⟩ (.slice (some ⟨g,0,none⟩) (b+1) h));rw[bE]at H cT K⊢;have B:t.heap[W.heap.size]?=some (.cells #[.slice none 0 0] 24 (0,0)):=H.out.2.1.blk bn.out.1 (by decide) (by decide);have c5:t.cell? ⟨W.heap.size,0,none⟩=some (.slice none 0 0):=by rw[cell_of_row _ _ _ _ _ _ B];rfl
 have d6:t.frozen? ⟨W.heap.size,0,none⟩=false:=frozen_of_row _ _ _ _ _ B;have cP:=ab K;clear bE K;go_wp2_with fail;have cI:t.grownBy (t.setCell ⟨W.heap.size,0,none⟩ (.slice (some ⟨g,0,none⟩) (b+1) h)) (some W.heap.size):=⟨rfl,rfl,rfl,by simp[World.setCell],fun dq d3 cx=>heap_setCell_other _ _ _ _ (fun e=>cx (by rw[e]))⟩;obtain⟨ds,ev,bD,_⟩:=H.out.1.tks;have cm:a.tb≠W.heap.size:=fun e=>by rw[e,B]at bD;cases bD
 have a6:=H.out.1.otherT B cm cI;have cF:(t.setCell ⟨W.heap.size,0,none⟩ (.slice (some ⟨g,0,none⟩) (b+1) h)).heap[a.pb]?=some (.cells #[.slice (some ⟨a.tb,0,none⟩) a.n a.cap,.int .i64 j,.slice (some ⟨g,0,none⟩) (b+1) h] 65 (0,0)):=by rw[J,heap_setCell_other _ _ _ _ (by show W.heap.size+1≠W.heap.size;omega)];exact cP.out
 obtain⟨b9,I,cB,eb⟩:=a6.row;obtain rfl:b9= .slice (some ⟨g,0,none⟩) (b+1) h:=by rw[cF]at I;cases I;rfl
 have bo:Lw _ a.base _ _:=⟨cB,a6.each⟩;rw[a9]at bo;obtain⟨eh,bh,ca,_⟩:=ac.out;rw[List.nil_append]at bh;exact bodyPost_ret (results_cell_row rfl _ _ W.heap.size _ _ _ _ rfl (heap_setCell_same _ _ 0 _ _ _ B) Tryz.underlying24 rfl (by kernel_rfl)) rfl ⟨_,_,rfl,bo,by rw[bh,List.map_append,ca];rfl,bn.out.2.trans ((by have:=H.out.2.2;rw[a9]at this;exact this:Below W.heap.size M t).setCell (Nat.le_refl _) _)⟩
end Go.Proofs.YtcbmoiabehpliaaGreatDoor
namespace Go.Proofs.YtcbmoiabehpliaaGreatDoor
open Go.RowKit
attribute [local go_sem] Oper.semAt_some
end Go.Proofs.YtcbmoiabehpliaaGreatDoor
