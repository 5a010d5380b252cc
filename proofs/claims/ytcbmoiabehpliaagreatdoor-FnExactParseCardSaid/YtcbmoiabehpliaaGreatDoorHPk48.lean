import Derived.Test.YtcbmoiabehpliaaGreatDoorHPk01
import Derived.Test.YtcbmoiabehpliaaGreatDoorHPk25
import Derived.Test.YtcbmoiabehpliaaGreatDoorHPk09
import Derived.Test.YtcbmoiabehpliaaGreatDoorHPk47
import Derived.Test.YtcbmoiabehpliaaGreatDoorHPk37
import Derived.Test.YtcbmoiabehpliaaGreatDoorHPk08
import Derived.Test.YtcbmoiabehpliaaGreatDoorHPk38
import Derived.Test.YtcbmoiabehpliaaGreatDoorHPk39
import Derived.Test.YtcbmoiabehpliaaGreatDoorHPk15
set_option linter.unusedVariables false
set_option maxRecDepth 100000
set_option maxHeartbeats 6400000
namespace Go.Proofs.YtcbmoiabehpliaaGreatDoor
open Go.RowKit
def sh(S:List Int):List Int->Int->Option Int
 |[],a=>some a
 |k::r,a=>if k=a-1/\S.getD k.toNat 0≠0 then sh S r (a-S.getD k.toNat 0) else none
def iI(S:List Int)(i:Nat)(ks:List Int):Int:=match sh S ks.reverse i with|some a=>(i:Int)-a+1|none=>0
def dR(ns:List Nd):List Int:=ns.foldl (fun a b=>a++[iI a a.length b.ks]) []
theorem kO(ns:List Nd)(N:Nd):dR (ns++[N])=dR ns++[iI (dR ns) (dR ns).length N.ks]:=by simp[dR]
theorem si{α:Type}{p:List α->Prop}(d:p [])(b:∀a x,p a->p (a++[x]))(l:List α):p l:=by
 rw[<-List.reverse_reverse l]
 induction l.reverse with
 |nil=>exact d
 |cons x e c=>rw[List.reverse_cons];exact b _ x c
theorem fH:∀(ns:List Nd),(dR ns).length=ns.length:=by
 intro ns;refine si (p:=fun ns=>(dR ns).length=ns.length) rfl (fun b c a=>?_) ns;rw[kO];simp[a]
structure Hz (S:List Int) (l:List Int) (a:Int) (R:Option Int):Prop where
 out:sh S l a=R
def sj(S:List Int):Prop:=∀(a:Nat) z,S[a]?=some z->0<=z/\z<=(a:Int)+1
theorem CU{S:List Int}(hS:sj S):∀(l:List Int)(a b:Int),(∀k∈l,0<=k)->0<=a->sh S l a=some b->0<=b/\b<=a
 |[],a,b,_,f,h=>by simp[sh]at h;omega
 |k::r,a,b,d,f,h=>by
  rw[sh]at h;split at h
  ·rename_i g;have i:=d k (by simp);have e:0<=S.getD k.toNat 0/\S.getD k.toNat 0<=k+1:=by
    rw[List.getD_eq_getElem?_getD];cases hs:S[k.toNat]? with
    |none=>simp;omega
    |some c=>have:=hS _ c hs;simp;omega
   have:=CU hS r _ b (fun c e=>d c (by simp[e])) (by omega) h;omega
  ·cases h
theorem Fj{S:List Int}(hS:sj S)(i:Nat)(ks:List Int)(a:∀k∈ks,0<=k):0<=iI S i ks/\iI S i ks<=(i:Int)+1:=by
 unfold iI;cases h:sh S ks.reverse i with
 |none=>simp;omega
 |some c=>
  have:=CU hS ks.reverse i c (fun k b=>a k (by simpa using b)) (by omega) h;simp;omega
theorem sn(ns:List Nd):(∀N∈ns,∀k∈N.ks,0<=k)->sj (dR ns):=by
 refine si (p:=fun ns=>(∀N∈ns,∀k∈N.ks,0<=k)->sj (dR ns)) (fun _ b c a=>by simp[dR]at a) (fun f N m d=>?_) ns;have h:=m (fun n j=>d n (by simp[j]));intro b c a;rw[kO]at a;rcases Nat.lt_or_ge b (dR f).length with g|g
 ·rw[List.getElem?_append_left g]at a;exact h b c a
 ·rw[List.getElem?_append_right g]at a;obtain⟨l,e⟩:=List.getElem?_eq_some_iff.1 a;simp at l e;subst e;obtain rfl:b=(dR f).length:=by omega
  exact Fj h _ _ (fun k i=>d N (by simp) k i)
theorem qL(a:List Int)(n k:Nat)(z:Int)(c:a.length=k)(d:k<n):(a.map (Value.int .i64)++List.replicate (n-k) (Value.int .i64 0)).set k (.int .i64 z)=(a++[z]).map (Value.int .i64)++List.replicate (n-(k+1)) (Value.int .i64 0):=by
 have b:(a.map (Value.int .i64)).length=k:=by rw[List.length_map,c]
 rw[List.set_append_right _ _ (by omega),b,Nat.sub_self,show n-k=(n-(k+1))+1 by omega,List.replicate_succ,List.set_cons_zero];simp
theorem uL(w:World)(v:Value)(ns:List Nd)(h:bf w v ns)(b6:ns.length<=3000)(Q:∀N∈ns,N.ks.length<=1048576)(y:∀(i:Nat) N,ns[i]?=some N->∀k∈N.ks,0<=k/\k<(i:Int)):
  Calls Tryz.prog 26 #[.agg #[v]] w fun e bh=>∃g,e= .returned (.slice (some ⟨g,0,none⟩) ns.length ns.length)/\bh.ownsRow w.heap.size 3 1 (.slice (some ⟨g,0,none⟩) ns.length ns.length) ns.length ((dR ns).map (Value.int .i64))/\Below w.heap.size w bh:=by
 obtain⟨O,U,rfl⟩:=h.form;obtain⟨a,L⟩:=ah ns.length;have a8:=ab L;have cc:Hid (bf w (.slice O a U) ns):=by rw[<-L];exact h
 have X:Hid ((∀N∈ns,N.ks.length<=1048576)/\(∀(i:Nat) N,ns[i]?=some N->∀k∈N.ks,0<=k/\k<(i:Int))/\∀k,sj (dR (ns.take k))):=⟨Q,y,fun k=>sn _ (fun N Q al p=>by
  obtain⟨i,ap,e⟩:=List.getElem_of_mem (List.mem_of_mem_take Q);exact(y i N (by rw[List.getElem?_eq_getElem ap,e]) al p).1)⟩
 rw[L]at b6⊢;clear h L Q y;obtain⟨b5,ap,cn,b2,cg⟩:=info_parts gD;go_in;go_wp2_with (at_make;refine wpList_make_full _ rfl _ _ 67 rfl w.heap.size 3 b5 (.int .i64 0) 1 Tryz.underlying67 ap cn b2 .i64 .i64 _ _ a rfl rfl rfl rfl (by rw[cg];omega) (by unfold maxLen;omega) (by simp) ?_;intro W V u;have a2:Below (w.alloc (.cells #[.slice O a U] 24)).heap.size (w.alloc (.cells #[.slice O a U] 24)) W:=⟨u.os,u.tape,u.output,u.size,fun k y=>u.block k y (by simp)⟩;have zc:W.cell? ⟨w.heap.size,0,none⟩=some (.slice O a U):=by {rw[cell_of_row _ _ _ _ _ _ ((a2.block _ (by simp)).trans (heap_alloc_new w _))];rfl});have bd:Below w.heap.size w W:=((Below.refl _ w).alloc (Nat.le_refl _) _).trans (a2.mono (by simp));rw[World.size_alloc,show(madeCells (Value.int .i64 0).cells (a*1)).toList=List.replicate a (Value.int .i64 0) by rw[Nat.mul_one];exact toList_madeCells_one _ a]at V;have cm:w.heap.size+1<W.heap.size:=(V.lt (w.heap.size+1) rfl).2;clear zc a2 u;go_loopw [17] (fun Z wr=>∃k:Nat,k<=a/\Z= .int .i64 k/\Hid (wr.ownsRow w.heap.size 3 1 (.slice (some ⟨w.heap.size+1,0,none⟩) a a) a ((dR (ns.take k)).map (Value.int .i64)++List.replicate (a-k) (.int .i64 0)))/\Below w.heap.size w wr) (fun Z _=>a-(intOf Z).toNat)
 case atStart=>exact⟨0,Nat.zero_le _,rfl,V,bd⟩
 case round=>
  obtain⟨k,y,rfl,T,B⟩:=hrel;clear V bd cm;by_cases bl:k<a
  ·obtain⟨N,F⟩:=aF a8.out bl;have cl:=X.out.1 N (List.mem_of_getElem? F);have bw:=X.out.2.1 k N F;have a0:=X.out.2.2 k;obtain⟨cr,rfl,dq,ds,b8⟩:=(cc.out.below B).get F;have ct:(k:Int)<(a:Int):=by omega
   have cx:(0:Int)<=(k:Int):=by omega
   obtain⟨b1,b4,b0,cf,b9,ca,bE,bt,bs,bn,a3⟩:=b8;obtain⟨Y,a1,rfl⟩:=bn.form;obtain⟨A,s,rfl⟩:=a3.form;obtain⟨c,K⟩:=ah (dR (ns.take k));have ar:c.length=k:=by rw[<-K,fH,List.length_take,a8.out];omega
   have br:dR (ns.take (k+1))=c++[iI c k N.ks]:=by
    rw[List.take_add_one,F];show dR (ns.take k++[N])=_;rw[kO,K,ar]
   rw[K]at T a0;obtain⟨o,H⟩:=ah N.ks.length;rw[H]at bs cl;have bk:aV wr (.slice A o s) N.ks:=by rw[<-H];exact a3
   have n:=F9 H bk bw a0 ar br;have am:Hz c (N.ks.take o).reverse k (sh c N.ks.reverse k):=⟨by rw[<-H,List.take_length]⟩;obtain⟨bo,a6⟩:=ah (sh c N.ks.reverse k);rw[a6]at am;have bx:=ab a6;generalize N.nm.length=a7 at bt;clear F bn a3 bk bw a0 ar br K H a6;go_wp2_with fail;have J:Below wr.heap.size wr (wr.alloc (.cells #[.int .i64 N.k,.int .i64 N.f,.int .i64 N.t,.int .i64 N.l,.int .i64 N.op,.int .i64 N.n,.string N.x,.slice Y a7 a1,.slice A o s] 69)):=(Below.refl _ wr).alloc (Nat.le_refl _) _;have bD:(wr.alloc (.cells #[.int .i64 N.k,.int .i64 N.f,.int .i64 N.t,.int .i64 N.l,.int .i64 N.op,.int .i64 N.n,.string N.x,.slice Y a7 a1,.slice A o s] 69)).cell? ⟨wr.heap.size,8,none⟩=some (.slice A o s):=by rw[cell_of_row _ _ _ _ _ _ (heap_alloc_new wr _)];rfl
   have G:=ai T.out J;generalize wr.alloc (.cells #[.int .i64 N.k,.int .i64 N.f,.int .i64 N.t,.int .i64 N.l,.int .i64 N.op,.int .i64 N.n,.string N.x,.slice Y a7 a1,.slice A o s] 69)=C at J bD G⊢;have bN:Hid (aV C (.slice A o s) N.ks):=n.out.2.1.below J;have ao:=ab G;have a5:Below w.heap.size w C:=B.trans (J.mono B.size);have dk:=G.frozenAt k;have c9:C.cell? ⟨w.heap.size+1,k,none⟩=some (.int .i64 0):=by
    rw[G.cellAt k (by omega),List.getElem?_append_right (by rw[List.length_map,n.out.2.2.2.2.1];exact Nat.le_refl _),List.length_map,n.out.2.2.2.2.1,Nat.sub_self,List.getElem?_replicate,if_pos (by omega)]
   clear T G b1 b4 b0 cf b9 ca bE bt bs B J;go_loop [6,7,8] (fun ch b7 af=>∃(d:Nat) (j:Int),ch= .int .i64 j/\b7= .bool true/\af= .int .i64 ((d:Int)-1)/\d<=o/\0<=j/\j<=(k:Int)/\Hz c (N.ks.take d).reverse j bo) (fun _ _ af=>(intOf af+1).toNat)
   case atStart=>exact⟨o,k,rfl,rfl,rfl,Nat.le_refl _,by omega,by omega,am⟩
   case round=>
    obtain⟨d,j,rfl,rfl,rfl,dn,cT,d0,I⟩:=hrel;clear am;have b:=I.out;cases d with
    |zero=>
     have p:iI c k N.ks=(k:Int)-j+1:=by
      unfold iI;rw[bx.out];rw[List.take_zero,List.reverse_nil,sh]at b;rw[<-b]
     have an:=ab p;have cF:¬(0:Int)<=((0:Nat):Int)-1:=by omega
     have a4:=(ao.out.stored k (.int .i64 ((k:Int)-j+1))).1;rw[qL c a k _ n.out.2.2.2.2.1 bl]at a4;have R:=ab a4;clear b I p a4;go_wp2_with fail;refine⟨⟨k+1,by omega,by go_num,?_,a5.setCell (by simp) _⟩,by simp[intOf];omega⟩;show World.ownsRow _ _ _ _ _ _ _;rw[n.out.2.2.2.2.2,an.out];exact R.out
    |succ d=>
     obtain⟨al,p⟩:=aF n.out.1 (show d<o by omega);obtain⟨cP,bA,cI⟩:=bN.out.get p;subst bA;obtain⟨b3,cN⟩:=n.out.2.2.1 al (List.mem_of_getElem? p);rw[List.take_add_one,p]at b;simp only[Option.toList_some,List.reverse_append,List.reverse_cons,List.reverse_nil,List.nil_append,List.singleton_append]at b;rw[sh]at b;obtain⟨m,rfl⟩:=Int.eq_ofNat_of_zero_le b3;have bb:m<k:=by omega
     obtain⟨q,z⟩:=aF n.out.2.2.2.2.1 bb;have cw:=n.out.2.2.2.1 m q z;have cs:C.cell? ⟨w.heap.size+1,m,none⟩=some (.int .i64 q):=by
      rw[ao.out.cellAt m (by omega),List.getElem?_append_left (by rw[List.length_map,n.out.2.2.2.2.1];exact bb),List.getElem?_map,z];rfl
     have M:c.getD m 0=q:=by rw[List.getD_eq_getElem?_getD,z];rfl
     simp only[Int.toNat_natCast,M]at b;have cq:(((d+1:Nat)):Int)-1=(d:Int):=by omega
     rw[cq];have cB:(0:Int)<=(d:Int):=by omega
     have cz:(d:Int)<(o:Int):=by omega
     have d1:(m:Int)<(a:Int):=by omega
     have df:(0:Int)<=(m:Int):=by omega
     by_cases r:(m:Int)=j-1/\q≠0
     ·rw[if_pos r]at b;have cb:Hz c (N.ks.take d).reverse (j-q) bo:=⟨b⟩;have a9:¬q=0:=r.2;have S:=r.1;clear b I p z M r;obtain rfl:j=(m:Int)+1:=by omega
      clear S;go_wp2_with fail;go_round
      case rel=>exact⟨d,(m:Int)+1-q,by go_num,rfl,by go_num,by omega,by omega,by omega,cb⟩
      case measure=>simp[intOf]
     ·rw[if_neg r]at b;have an:Hid (iI c k N.ks=0):=by
       show iI c k N.ks=0;unfold iI;rw[bx.out,<-b]
      have R:Hid (C.ownsRow w.heap.size 3 1 (.slice (some ⟨w.heap.size+1,0,none⟩) a a) a ((dR (ns.take (k+1))).map (Value.int .i64)++List.replicate (a-(k+1)) (.int .i64 0))):=by
       have E:=ao.out;show World.ownsRow _ _ _ _ _ _ _;rw[n.out.2.2.2.2.2,an.out,List.map_append];rw[show a-k=(a-(k+1))+1 by omega,List.replicate_succ]at E;rw[List.append_assoc];exact E
      by_cases S:(m:Int)=j-1
      ·have a9:q=0:=by
        rcases Int.lt_trichotomy q 0 with g|g|g
        ·omega
        ·exact g
        ·exact absurd ⟨S,by omega⟩ r
       subst a9;clear b I p z M r;obtain rfl:j=(m:Int)+1:=by omega
       clear S;go_wp2_with fail;exact⟨⟨k+1,by omega,by go_num,R,a5⟩,by simp[intOf];omega⟩
      ·clear b I p z M r;go_wp2_with fail;exact⟨⟨k+1,by omega,by go_num,R,a5⟩,by simp[intOf];omega⟩
  ·obtain rfl:k=a:=by omega
   go_wp2_with fail;go_ret;refine⟨_,rfl,?_,B⟩;have E:=T.out;rw[List.take_of_length_le (by rw[a8.out];exact Nat.le_refl _),Nat.sub_self,List.replicate_zero,List.append_nil]at E;exact E
def iZ:Int->ByteArray
 |1=>⟨#[115,116,97,116,42]⟩
 |2=>⟨#[101,120,112,114,42]⟩
 |3=>⟨#[101,120,112,114]⟩
 |4=>⟨#[102,110]⟩
 |6=>⟨#[99,97,108,108]⟩
 |7=>⟨#[101,120,112,114,32,98,108,111,99,107,32,101,108,115,101,63]⟩
 |8=>⟨#[101,120,112,114,32,98,108,111,99,107]⟩
 |9=>⟨#[101,120,112,114,32,101,120,112,114,32,101,120,112,114,63,32,98,108,111,99,107]⟩
 |10=>⟨#[101,120,112,114,32,98,108,111,99,107]⟩
 |11=>⟨#[]⟩
 |12=>⟨#[]⟩
 |13=>⟨#[101,120,112,114,42]⟩
 |14=>⟨#[98,108,111,99,107,32,98,108,111,99,107]⟩
 |15=>⟨#[101,120,112,114]⟩
 |16=>⟨#[99,97,108,108]⟩
 |20=>⟨#[]⟩
 |21=>⟨#[]⟩
 |22=>⟨#[]⟩
 |23=>⟨#[]⟩
 |24=>⟨#[]⟩
 |25=>⟨#[]⟩
 |26=>⟨#[]⟩
 |27=>⟨#[]⟩
 |28=>⟨#[101,120,112,114,32,101,120,112,114]⟩
 |29=>⟨#[101,120,112,114,32,101,120,112,114]⟩
 |30=>⟨#[101,120,112,114]⟩
 |31=>⟨#[101,120,112,114,32,101,120,112,114]⟩
 |32=>⟨#[98,97,115,101,32,101,120,112,114]⟩
 |33=>⟨#[98,97,115,101]⟩
 |34=>⟨#[98,97,115,101,32,101,120,112,114,42]⟩
 |35=>⟨#[101,110,116,114,121,42]⟩
 |36=>⟨#[98,108,111,99,107]⟩
 |37=>⟨#[109,97,110,121]⟩
 |40=>⟨#[101,120,112,114]⟩
 |41=>⟨#[101,120,112,114,32,101,120,112,114]⟩
 |42=>⟨#[101,120,112,114]⟩
 |_=>⟨#[]⟩
def xe:Int->Option (List (Nat×Nat))
 |1=>some [(0,1)]
 |2=>some [(3,1)]
 |3=>some [(3,0)]
 |4=>some [(8,0)]
 |6=>some [(6,0)]
 |7=>some [(3,0),(1,0),(2,2)]
 |8=>some [(3,0),(1,0)]
 |9=>some [(3,0),(3,0),(3,2),(1,0)]
 |10=>some [(3,0),(1,0)]
 |11=>some []
 |12=>some []
 |13=>some [(3,1)]
 |14=>some [(1,0),(1,0)]
 |15=>some [(3,0)]
 |16=>some [(6,0)]
 |20=>some []
 |21=>some []
 |22=>some []
 |23=>some []
 |24=>some []
 |25=>some []
 |26=>some []
 |27=>some []
 |28=>some [(3,0),(3,0)]
 |29=>some [(3,0),(3,0)]
 |30=>some [(3,0)]
 |31=>some [(3,0),(3,0)]
 |32=>some [(4,0),(3,0)]
 |33=>some [(4,0)]
 |34=>some [(4,0),(3,1)]
 |35=>some [(9,1)]
 |36=>some [(1,0)]
 |37=>some [(7,0)]
 |40=>some [(3,0)]
 |41=>some [(3,0),(3,0)]
 |42=>some [(3,0)]
 |_=>none
def ee:List Int:=[1,2,3,4,6,7,8,9,10,11,12,13,14,15,16,20,21,22,23,24,25,26,27,28,29,30,31,32,33,34,35,36,37,40,41,42]
theorem so(k:Int)(h:k ∉ ee):xe k=none/\iZ k=⟨#[]⟩:=by
 simp only[ee,List.mem_cons,List.not_mem_nil,or_false,not_or]at h;obtain⟨d,C,A,w,e,r,u,L,E,g,c,n,F,G,I,x,y,j,H,f,B,a,M,i,b,s,l,J,t,p,v,o,q,m,K,z⟩:=h;constructor
 ·unfold xe;split<;>first|rfl|contradiction
 ·unfold iZ;split<;>first|rfl|contradiction
theorem uM(k:Int)(h:k∈ee):∃a,xe k=some a/\Lib.fields (iZ k).data.toList=a.map (fun x=>my x.1 x.2)/\(∀x∈a,x.1<10/\x.2<3)/\(iZ k).size<100/\(∀(j:Nat) b,(iZ k).data.toList[j]?=some b->b.toNat<128)/\a.length<10:=by
 have d:∀(c:List UInt8),(c.all fun b=>decide (b.toNat<128))=true->∀(j:Nat) b,c[j]?=some b->b.toNat<128:=fun c e j b f=>by simpa using List.all_eq_true.1 e b (List.mem_of_getElem? f)
 simp only[ee,List.mem_cons,List.not_mem_nil,or_false]at h;rcases h with rfl|rfl|rfl|rfl|rfl|rfl|rfl|rfl|rfl|rfl|rfl|rfl|rfl|rfl|rfl|rfl|rfl|rfl|rfl|rfl|rfl|rfl|rfl|rfl|rfl|rfl|rfl|rfl|rfl|rfl|rfl|rfl|rfl|rfl|rfl|rfl;all_goals exact⟨_,rfl,rfl,by decide,by decide,d _ (by decide),by decide⟩
theorem CV(k:Int)(w:World)(h:k=1\/k=2\/k=3\/k=4\/k=6\/k=7\/k=8\/k=9\/k=10):Calls Tryz.prog 179 #[.int .i64 k] w fun e a=>e= .returned (.tuple #[.string (iZ k),.bool true])/\a=w:=by
 rcases h with rfl|rfl|rfl|rfl|rfl|rfl|rfl|rfl|rfl;all_goals
  simp only[iZ];go_in;go_wp2;go_ret2;exact⟨rfl,rfl⟩
theorem CW(k:Int)(w:World)(h:k=11\/k=12\/k=13\/k=14\/k=15\/k=16\/k=20\/k=21\/k=22):Calls Tryz.prog 179 #[.int .i64 k] w fun e a=>e= .returned (.tuple #[.string (iZ k),.bool true])/\a=w:=by
 rcases h with rfl|rfl|rfl|rfl|rfl|rfl|rfl|rfl|rfl;all_goals
  simp only[iZ];go_in;go_wp2;go_ret2;exact⟨rfl,rfl⟩
theorem CY(k:Int)(w:World)(h:k=23\/k=24\/k=25\/k=26\/k=27\/k=28\/k=29\/k=30\/k=31):Calls Tryz.prog 179 #[.int .i64 k] w fun e a=>e= .returned (.tuple #[.string (iZ k),.bool true])/\a=w:=by
 rcases h with rfl|rfl|rfl|rfl|rfl|rfl|rfl|rfl|rfl;all_goals
  simp only[iZ];go_in;go_wp2;go_ret2;exact⟨rfl,rfl⟩
theorem CZ(k:Int)(w:World)(h:k=32\/k=33\/k=34\/k=35\/k=36\/k=37\/k=40\/k=41\/k=42):Calls Tryz.prog 179 #[.int .i64 k] w fun e a=>e= .returned (.tuple #[.string (iZ k),.bool true])/\a=w:=by
 rcases h with rfl|rfl|rfl|rfl|rfl|rfl|rfl|rfl|rfl;all_goals
  simp only[iZ];go_in;go_wp2;go_ret2;exact⟨rfl,rfl⟩
theorem zV(k:Int)(w:World)(h:k ∉ ee):Calls Tryz.prog 179 #[.int .i64 k] w fun e a=>e= .returned (.tuple #[.string ⟨#[]⟩,.bool false])/\a=w:=by
 simp only[ee,List.mem_cons,List.not_mem_nil,or_false,not_or]at h;obtain⟨f,G,E,z,g,t,x,O,H,j,d,p,I,J,L,A,B,m,K,i,F,b,Q,l,c,u,n,M,v,r,y,q,s,o,N,C⟩:=h;go_in;go_wp2;go_ret2;exact⟨rfl,rfl⟩
theorem uN(k:Int)(w:World):Calls Tryz.prog 179 #[.int .i64 k] w fun e c=>e= .returned (.tuple #[.string (iZ k),.bool (xe k).isSome])/\c=w:=by
 by_cases h:k∈ee
 ·obtain⟨d,a,_⟩:=uM k h;rw[a,Option.isSome_some];simp only[ee,List.mem_cons,List.not_mem_nil,or_false]at h;rcases(show(k=1\/k=2\/k=3\/k=4\/k=6\/k=7\/k=8\/k=9\/k=10)\/(k=11\/k=12\/k=13\/k=14\/k=15\/k=16\/k=20\/k=21\/k=22)\/(k=23\/k=24\/k=25\/k=26\/k=27\/k=28\/k=29\/k=30\/k=31)\/(k=32\/k=33\/k=34\/k=35\/k=36\/k=37\/k=40\/k=41\/k=42) by omega) with h|h|h|h
  ·exact CV k w h
  ·exact CW k w h
  ·exact CY k w h
  ·exact CZ k w h
 ·obtain⟨a,b⟩:=so k h;rw[a,b];exact zV k w h
def pW(n:Nat):List (Nat×Nat):=List.replicate n (5,0)++[(3,0),(3,1)]
def setB(n:Nat):ByteArray:=⟨(Lib.repeatL [116,97,114,103,101,116,32] n).toArray⟩++⟨#[101,120,112,114,32,101,120,112,114,42]⟩
theorem lO(n:Nat):(setB n).data.toList=Lib.repeatL [116,97,114,103,101,116,32] n++[101,120,112,114,32,101,120,112,114,42]:=by
 unfold setB;rw[ByteArray.data_append];simp
theorem mA:∀n,Lib.fields (Lib.repeatL [116,97,114,103,101,116,32] n++[101,120,112,114,32,101,120,112,114,42])=(pW n).map fun x=>my x.1 x.2
 |0=>by decide
 |n+1=>by
  have a:=mA n;have b:Lib.fields (Lib.repeatL [116,97,114,103,101,116,32] (n+1)++[101,120,112,114,32,101,120,112,114,42])=[116,97,114,103,101,116]::Lib.fields (Lib.repeatL [116,97,114,103,101,116,32] n++[101,120,112,114,32,101,120,112,114,42]):=by
   rw[Lib.repeatL];rfl
  rw[b,a];rfl
theorem xg(n:Nat):∀(j:Nat) b,(setB n).data.toList[j]?=some b->b.toNat<128:=by
 rw[lO];have c:∀(a:List UInt8),(a.all fun b=>decide (b.toNat<128))=true->∀b∈a,b.toNat<128:=fun a e b hb=>by simpa using List.all_eq_true.1 e b hb
 have d:∀n,∀b∈Lib.repeatL [116,97,114,103,101,116,32] n,b.toNat<128:=by
  intro n
  induction n with
  |zero=>intro b hb;simp[Lib.repeatL]at hb
  |succ n f=>
   intro b hb;rw[Lib.repeatL]at hb;rcases List.mem_append.1 hb with hb|hb
   ·exact c _ (by decide) b hb
   ·exact f b hb
 intro j b hb;rcases List.mem_append.1 (List.mem_of_getElem? hb) with h|h
 ·exact d n b h
 ·exact c _ (by decide) b h
theorem zW(n:Nat):(setB n).size=7*n+10:=by
 have a:=congrArg List.length (lO n);rw[List.length_append,Lib.repeatL_length]at a;simp at a;have b:(setB n).size=(setB n).data.size:=rfl;omega
theorem Fk(n:Nat):∀x∈pW n,x.1<10/\x.2<3:=by
 intro x hx;unfold pW at hx;rcases List.mem_append.1 hx with hx|hx
 ·rw[(List.mem_replicate.1 hx).2];decide
 ·simp at hx;rcases hx with rfl|rfl<;>decide
theorem uO(w:World)(b:Nat)(nk x k s v:Int)(n:Nat)(m:n<=200)(vk:Value)(ks:List Int)(h:cd w vk ks)(p:ks.length<=1048576)(j:∀W,Below w.heap.size w W->Lib.TabIs Tryz.prog W "strings.asciiSpace" .u8 Lib.asciiSpaceTab)
  (g:w.heap[b]?=some (.cells #[.int .i64 nk,.int .i64 x,.int .i64 k,.int .i64 s,.int .i64 v,vk,.int .i64 (n:Int)] 141 (0,0))):
  Calls Tryz.prog 141 #[.iface 139 (.pointer (some ⟨b,0,none⟩))] w fun e l=>e= .returned (.bool (bq (pW n) ks))/\Below w.heap.size w l:=by
 have B:=fun w=>E0 b w 139 (by decide);have f:=vV n w m;have a:=fun W (i:Below w.heap.size w W)=>jn W (setB n) (pW n) vk ks (by rw[lO];exact mA n) (Fk n) (by rw[zW];omega) (xg n) (j W i) (h.below i) p (by unfold pW;rw[List.length_append,List.length_replicate];simp;omega);obtain⟨z,u,rfl⟩:=h.form;have d:w.cell? ⟨b,5,none⟩=some (.slice z ks.length u):=by rw[cell_of_row _ _ _ _ _ _ g];rfl
 have A:w.cell? ⟨b,6,none⟩=some (.int .i64 (n:Int)):=by rw[cell_of_row _ _ _ _ _ _ g];rfl
 have C:((⟨#[101,120,112,114,32,101,120,112,114,42]⟩:ByteArray)).size=10:=rfl;have o:((⟨(Lib.repeatL [116,97,114,103,101,116,32] n).toArray⟩:ByteArray)).size=7*n:=by
  have e:((⟨(Lib.repeatL [116,97,114,103,101,116,32] n).toArray⟩:ByteArray)).size=(Lib.repeatL [116,97,114,103,101,116,32] n).length:=by simp[ByteArray.size]
  rw[e,Lib.repeatL_length];simp;omega
 unfold setB at a;generalize bq (pW n) ks=H at a⊢;generalize ks.length=F at a d;generalize (⟨(Lib.repeatL [116,97,114,103,101,116,32] n).toArray⟩:ByteArray)=E at a f o;have r:=ab d;clear g h j d;go_in;go_wp2_with fail;refine f.mono ?_;rintro e t ⟨rfl,c⟩;have d:=aa c r.out;have q:=a t c;clear a f;go_wp2_with fail;refine q.mono ?_;rintro e G ⟨rfl,y⟩;go_wp2_with fail;go_ret;exact⟨rfl,c.trans (y.mono c.size)⟩
theorem Lf(k:Int)(h:aY k≠1)(b:Nat)(w:World):(Instr.typeAssert (.iface (eK (aY k)) (.pointer (some ⟨b,0,none⟩))) 51 139 true).run Tryz.prog w= .ok (.tuple #[.pointer none,.bool false]) w:=by
 have a:=h;rcases oW k with g|g|g|g|g|g|g<;>rw[g]at a⊢;all_goals first|exact absurd rfl a|exact E1 b w _ _ (by decide) (by decide) (by decide)
def HU(k:Int)(ks:List Int):Bool:=match xe k with|some a=>bq a ks|none=>false
theorem uP(w:World)(b:Nat)(k:Int)(i:aY k≠1)(vk:Value)(ks:List Int)(h:cd w vk ks)(u:ks.length<=1048576)(j:Lib.TabIs Tryz.prog w "strings.asciiSpace" .u8 Lib.asciiSpaceTab)
  (E:w.cell? ⟨b,0,none⟩=some (.int .i64 k)) (y:w.cell? ⟨b,5,none⟩=some vk):
  Calls Tryz.prog 141 #[bi k b] w fun e s=>e= .returned (.bool (HU k ks))/\Below w.heap.size w s:=by
 have n:=fun w=>Lf k i b w;have o:=fun w=>gw k b w;have q:=fun w=>bm b w;have a:=fun w=>uN k w;unfold bi HU;by_cases g:k∈ee
 ·obtain⟨l,c,d,p,v,m,t⟩:=uM k g;have f:=jn w (iZ k) l vk ks d p (by omega) m j h u (by omega);rw[c]at a⊢;simp only[Option.isSome_some]at a⊢;obtain⟨G,C,rfl⟩:=h.form;generalize ks.length=A at f y;generalize bq l ks=F at f⊢;generalize iZ k=z at f a;generalize eK (aY k)=r at n o⊢;clear h j d p v m t c g i;go_in;go_wp2_with (first|(go_at_call 265;refine bc (q _) ?_)|(go_at_call 179;refine bc (a _) ?_)|(go_at_call 178;refine f.mono ?_;rintro e B ⟨rfl,x⟩));go_ret;exact⟨rfl,x⟩
 ·obtain⟨c,d⟩:=so k g;rw[c,d]at a;rw[c];simp only[Option.isSome_none]at a⊢;generalize eK (aY k)=r at n o⊢;clear h j g i c d;go_in;go_wp2_with (first|(go_at_call 265;refine bc (q _) ?_)|(go_at_call 179;refine bc (a _) ?_));go_ret;exact⟨rfl,Below.refl _ _⟩
end Go.Proofs.YtcbmoiabehpliaaGreatDoor
namespace Go.Proofs.YtcbmoiabehpliaaGreatDoor
open Go.RowKit Go.Maps Go.WideMaps
def Dz(N:Nd)(a:Nat):Nat->Bool
 |0=>decide (1<=(N.nm.length:Int)/\(N.nm.length:Int)<=oP N.k)&&jy N.nm N.nm.length 0
 |1=>decide (1<=N.n/\N.n<(a:Int))
 |2=>true
 |3=>He N.k N.x
 |4=>if N.k=30 then(decide ((19:Int)<=N.op)&&decide (N.op<=22)) else(decide ((1:Int)<=N.op)&&decide (N.op<=18))
 |5=>jy N.nm N.nm.length 0
 |_=>true
theorem pY(w:World)(lb mb:Nat)(i:Value)(h:Lk w lb mb i)(b:Nat)(N:Nd)(vn:Value)(c:Int)(r:Option Addr)(j u:Nat)(y:j<=1048576)(m:aH w vn N.nm)(o:N.nm.length<=1048576)(p:∀s∈N.nm,s.size<=1048576)(B:N.x.size<=1048576)(a:bK w b N vn c (.slice r j u)):
  Calls Tryz.prog 140 #[.pointer (some ⟨lb,0,none⟩),bi N.k b] w fun e d=>e= .returned (.bool (Dz N j (aY N.k)))/\Below w.heap.size w d:=by
 unfold bK at a;unfold bi;have g:∀{q:Bool},(Calls Tryz.prog 140 #[.pointer (some ⟨lb,0,none⟩),.iface (eK (aY N.k)) (.pointer (some ⟨b,0,none⟩))] w fun e d=>e= .returned (.bool q)/\d=w)->(Calls Tryz.prog 140 #[.pointer (some ⟨lb,0,none⟩),.iface (eK (aY N.k)) (.pointer (some ⟨b,0,none⟩))] w fun e d=>e= .returned (.bool q)/\Below w.heap.size w d):=fun z=>z.mono fun e d ⟨A,v⟩=>⟨A,v ▸ Below.refl _ _⟩;rcases oW N.k with hc|hc|hc|hc|hc|hc|hc
 ·refine g ?_;rw[hc]at a⊢;exact KV w lb mb i h b N.k N.f N.t N.l c _ vn N.nm m o p a
 ·rw[hc]at a⊢;exact KW w lb b N.k N.f N.t N.l c N.n r j u y a
 ·refine g ?_;rw[hc]at a⊢;exact KX w lb b
 ·rw[hc]at a⊢;exact KZ w lb mb i h b N.k N.f N.t N.l c _ N.x (by omega) a
 ·refine g ?_;rw[hc]at a⊢;exact K6 w lb b N.k N.f N.t N.l c N.op _ a
 ·refine g ?_;rw[hc]at a⊢;exact K8 w lb mb i h b N.k N.f N.t N.l c _ vn (decide (N.op=1)) N.nm m o p a
 ·refine g ?_;rw[hc]at a⊢;exact KY w lb b
theorem bK.cells{W:World}{b:Nat}{N:Nd}{vn c:Value}{a:Int}(h:bK W b N vn a c):W.cell? ⟨b,0,none⟩=some (.int .i64 N.k)/\W.cell? ⟨b,1,none⟩=some (.int .i64 N.f)/\W.cell? ⟨b,2,none⟩=some (.int .i64 N.t)/\W.cell? ⟨b,4,none⟩=some (.int .i64 a)/\W.cell? ⟨b,5,none⟩=some c/\∀j,W.frozen? ⟨b,j,none⟩=false:=by
 unfold bK at h;refine⟨?_,?_,?_,?_,?_,fun j=>frozen_of_row _ _ _ _ _ h⟩
 ·rw[cell_of_row _ _ _ _ _ _ h];simp
 ·rw[cell_of_row _ _ _ _ _ _ h];simp
 ·rw[cell_of_row _ _ _ _ _ _ h];simp
 ·rw[cell_of_row _ _ _ _ _ _ h];simp
 ·rw[cell_of_row _ _ _ _ _ _ h];simp
def C0(N:Nd)(ks:List Int):Bool:=if aY N.k=1 then bq (pW N.n.toNat) ks else HU N.k ks
theorem uQ(w:World)(b:Nat)(N:Nd)(vn d:Value)(h:Int)(ks:List Int)(i:cd w d ks)(g:ks.length<=1048576)(j:∀W,Below w.heap.size w W->Lib.TabIs Tryz.prog W "strings.asciiSpace" .u8 Lib.asciiSpaceTab)(c:bK w b N vn h d)(o:aY N.k=1->0<=N.n/\N.n<=200):
  Calls Tryz.prog 141 #[bi N.k b] w fun e m=>e= .returned (.bool (C0 N ks))/\Below w.heap.size w m:=by
 unfold C0;by_cases a:aY N.k=1
 ·rw[if_pos a];obtain⟨r,s⟩:=o a;unfold bK at c;unfold bi;rw[a]at c⊢;have e:N.n=((N.n.toNat:Nat):Int):=by omega
  refine uO w b N.k N.f N.t N.l h N.n.toNat (by omega) d ks i g j ?_;rw[<-e];exact c
 ·rw[if_neg a];obtain⟨p,_,_,_,q,_⟩:=c.cells;exact uP w b N.k a d ks i g (j w (Below.refl _ _)) p q
end Go.Proofs.YtcbmoiabehpliaaGreatDoor
