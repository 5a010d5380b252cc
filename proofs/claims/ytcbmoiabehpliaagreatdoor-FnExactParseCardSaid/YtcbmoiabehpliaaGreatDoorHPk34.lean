import Derived.Test.YtcbmoiabehpliaaGreatDoorHPk33
import Derived.Test.YtcbmoiabehpliaaGreatDoorHPk31
import Derived.Test.YtcbmoiabehpliaaGreatDoorHPk01
import Derived.Shelf.Abstract
import Derived.Sort.LoopGhostIn
import Derived.Test.YtcbmoiabehpliaaGreatDoorHPk26
set_option linter.unusedSimpArgs false
set_option linter.unusedVariables false
set_option maxRecDepth 100000
set_option maxHeartbeats 6400000
namespace Go.Proofs.YtcbmoiabehpliaaGreatDoor
open Go.RowKit
theorem qD(n l o b cap:Nat)(a:Option Addr)(f:Nat->Value)(B:b<=100000000)(E:b<=cap)(c:Nat->World->Prop)(r:World->Prop)
  (q:∀m W,c m W->W.cell? ⟨o,0,none⟩=some (.slice a b cap))
  (y:∀m W,c m W->∀j,j<b->∃i,a=some i/\W.cell? (i.add j)=some (f j))
  (w:∀m W,m<b->c (m+1) W->YieldAt Fence.wide (n-1) Tryz.prog l #[.int .i64 (m:Int),f m] W fun e g=>(e= .returned (.bool true)/\c m g)\/(e= .returned (.bool false)/\r g))
  (W:World) (p:c b W):
  CallsIn Fence.wide n Tryz.prog 121 #[.func (.yield l) #[] #[],.pointer (some ⟨o,0,none⟩)] W fun e g=>(∃v,e= .returned v)/\(c 0 g\/r g):=by
 have H:=q _ _ p;refine callsIn_of_wp Tryz.func121 rfl trivial ?_ rfl;simp only[Tryz.ntmps121,List.size_toArray,List.length_cons,List.length_nil,Nat.reduceAdd,Nat.reduceSub,Array.replicate_succ,Array.replicate_zero,List.push_toArray,List.append_toArray,List.nil_append,List.cons_append]
 gi_wp2
 gi_loopw [3] (fun k wr=>∃d:Nat,d<=b/\k= .int .i64 ((d:Int)-1)/\c d wr) (fun k _=>(intOf k+1).toNat)
 case atStart=>exact⟨b,Nat.le_refl _,rfl,p⟩
 case round=>
  obtain⟨d,M,rfl,h⟩:=hrel;have G:=q _ _ h;rcases Nat.eq_zero_or_pos d with rfl|hp
  ·gi_wp2
   go_end0
   exact⟨⟨_,rfl⟩,.inl h⟩
  ·obtain⟨m,rfl⟩:∃m,d=m+1:=⟨d-1,by omega⟩;obtain⟨i,rfl,A⟩:=y _ _ h m (by omega);obtain⟨F,tmps,L,J,I,u⟩:=w m wr (by omega) h;have s:((m+1:Nat):Int)-1=(m:Int):=by omega
   rw[s];have N:(m:Int)<(b:Int):=by omega
   have K:(0:Int)<=(m:Int):=by omega
   gi_wp2
   refine⟨fun t=>by simp[Fence.wide]at t,u.mono ?_⟩;rintro e C (⟨rfl,z⟩|⟨rfl,x⟩)
   ·gi_wp2
    go_roundw
    case rel=>exact⟨m,by omega,by simp,z⟩
    case measure=>simp[intOf]
   ·gi_wp2
    refine bodyPost_ret (results_none rfl _ _ _) rfl ?_;exact⟨⟨_,rfl⟩,.inr x⟩
theorem jl(a:Option Addr)(b cap:Nat)(w:World):
  Calls Tryz.prog 60 #[.slice a b cap] w fun e c=>e= .returned (.func (.func 121) #[] #[.pointer (some ⟨w.heap.size,0,none⟩)])/\c=w.alloc (.cells #[.slice a b cap] 75):=by
 refine calls_of_wp Tryz.func60 rfl ?_;simp only[Tryz.ntmps60,List.size_toArray,List.length_cons,List.length_nil,Nat.reduceAdd,Nat.reduceSub,Array.replicate_succ,Array.replicate_zero,List.push_toArray,List.append_toArray,List.nil_append,List.cons_append];go_wp2;go_ret;exact⟨rfl,rfl⟩
end Go.Proofs.YtcbmoiabehpliaaGreatDoor
namespace Go.Proofs.YtcbmoiabehpliaaGreatDoor
open Go.RowKit Go.Maps Go.WideMaps
attribute [local go_sem] Oper.semAt_some
theorem aM{b:Nat}{W:World}{v:Value}{t:TypeId}(h:W.heap[b]?=some (.cells #[v] t (0,0))):W.cell? ⟨b,0,none⟩=some v:=by
 rw[cell_of_row _ _ _ _ _ _ h];rfl
theorem kJ{B:Nat}{W b:World}(h:Below W.heap.size W b):KeepsFrom B W b:=⟨h.size,fun c d _ a _=>(h.block c (Array.getElem?_eq_some_iff.1 a).1).trans a⟩
structure iE (w:World) (gb:Nat) (t:Int) (vs:Value) (r:Bool) (W:World):Prop where
 bl:Below w.heap.size w W
 b0:W.heap[w.heap.size]?=some (.cells #[.pointer (some ⟨gb,0,none⟩)] 41 (0,0))
 b1:W.heap[w.heap.size+1]?=some (.cells #[.int .i64 t] 3 (0,0))
 b2:W.heap[w.heap.size+2]?=some (.cells #[.bool r] 4 (0,0))
 b3:W.heap[w.heap.size+3]?=some (.cells #[vs] 75 (0,0))
theorem iE.below{w W d:World}{b:Nat}{t:Int}{c:Value}{r:Bool}(h:iE w b t c r W)(a:Below W.heap.size W d):iE w b t c r d:=
 ⟨h.bl.trans (a.mono h.bl.size),(a.block _ (aj h.b0)).trans h.b0,(a.block _ (aj h.b1)).trans h.b1,(a.block _ (aj h.b2)).trans h.b2,(a.block _ (aj h.b3)).trans h.b3⟩
theorem iE.put{w W:World}{a:Nat}{t:Int}{b:Value}{r:Bool}(h:iE w a t b r W){k:Nat}(d:w.heap.size+3<k)(o:Obj):iE w a t b r (W.putObj k o):=
 ⟨h.bl.grown (grownBy_putObj' W k o) h.bl.size (fun e c=>by cases c;omega),(World.putObj_heap_other (by omega)).trans h.b0,(World.putObj_heap_other (by omega)).trans h.b1,(World.putObj_heap_other (by omega)).trans h.b2,(World.putObj_heap_other (by omega)).trans h.b3⟩
theorem iE.set{w W:World}{b:Nat}{t:Int}{a:Value}{r:Bool}(h:iE w b t a r W)(c:Bool):iE w b t a c (W.setCell ⟨w.heap.size+2,0,none⟩ (.bool c)):=
 ⟨h.bl.setCell (by show w.heap.size<=w.heap.size+2;omega) _,(heap_setCell_other _ _ _ _ (by simp)).trans h.b0,(heap_setCell_other _ _ _ _ (by simp)).trans h.b1,heap_setCell_same _ _ 0 _ _ _ h.b2,(heap_setCell_other _ _ _ _ (by simp)).trans h.b3⟩
theorem uA{fn:Func}{p:Tmp}(h:fn.results=#[.cell p 4])(tmps:Array Value)(w:World)(g:Nat)(b:Bool)(c:tmps.getD p undef= .pointer (some ⟨g,0,none⟩))(d:w.heap[g]?=some (.cells #[.bool b] 4 (0,0))):(results fn tmps).run Tryz.prog w= .ok (.bool b) w:=by
 have a:tmps[p]?.getD undef= .pointer (some ⟨g,0,none⟩):=by simpa using c
 have e:w.cell? ⟨g,0,none⟩=some (.bool b):=by rw[cell_of_row _ _ _ _ _ _ d];rfl
 simp[results,h,a,asAddr];go_simp
structure rU (st:List Int) (m:Nat) (t:Int) (R:Bool):Prop where
 out:ce (st.drop (st.length-m)) t=R
theorem FT(a:Int):dp a<=8:=by
 unfold dp
 repeat (first|omega|(split;· omega))
theorem kK(g j:Nat):(⟨g,0,none⟩:Addr).add j=⟨g,j,none⟩:=by unfold Addr.add;split<;>simp_all
def mK(st:List Int)(m:Nat):Int:=st.reverse.getD m 0
theorem yo{st:List Int}{n m:Nat}(b:st.length=n)(c:m<n):st.drop (n-(m+1))=mK st m::st.drop (n-m):=by
 have a:n-(m+1)<st.length:=by omega
 rw[List.drop_eq_getElem_cons a,show n-(m+1)+1=n-m by omega]
 congr 1
 unfold mK;rw[List.getD_eq_getElem?_getD,List.getElem?_reverse (by omega),List.getElem?_eq_getElem (by omega),Option.getD_some]
 congr 1
 omega
theorem G9{st:List Int}{n m:Nat}(a:st.length=n)(c:m<n):mK st m∈st:=by
 have b:mK st m∈st.drop (n-(m+1)):=by rw[yo a c];simp
 exact List.mem_of_mem_drop b
theorem EW{W:World}{base n c:Nat}{a:Option Addr}{st:List Int}(h:W.ownsRow base 81 1 (.slice a n c) n (EF st))(e:st.length=n){m:Nat}(f:m<n):∃b,a=some b/\W.cell? (b.add m)=some (.int .u8 (mK st m)):=by
 rcases ay h with⟨j,_⟩|⟨i,g,d⟩
 ·omega
 ·cases d;refine⟨_,rfl,?_⟩;rw[kK,h.cellAt m (by omega)];unfold EF mK;rw[List.getElem?_map,List.getElem?_eq_getElem (by simp;omega),List.getD_eq_getElem?_getD,List.getElem?_eq_getElem (by simp;omega)];rfl
theorem Cj(w:World)(base d mb:Nat)(st:List Int)(t:Int)(R:Bool)(ar:pQ w base d (.map (some mb)) st)(Z:RI w base mb)(am:∀a∈st,0<=a/\a<=133)(r:st.length<=100000000)(a6:1<=t)(a9:t<=78)(J:ce st t=R):
  Calls Tryz.prog 31 #[.pointer (some ⟨d,0,none⟩),.int .i64 t] w fun e a8=>e= .returned (.bool R)/\Below w.heap.size w a8:=by
 obtain⟨cb,S,K⟩:=ar.ex;have a1:GB w base d mb:=⟨by rw[cell_of_row _ _ _ _ _ _ S];rfl,Z⟩;obtain⟨n,T⟩:=ah st.length;rw[T]at K r;obtain⟨h,g,rfl⟩:=aB K;have O:w.cell? ⟨d,1,none⟩=some (.slice h n g):=by rw[cell_of_row _ _ _ _ _ _ S];rfl
 have a3:n<=g:=by
  rcases K.2 with⟨al,v⟩|⟨bx,b7,bE,al,_,_,s,_⟩
  ·rw[v];exact Nat.zero_le _
  ·cases al;exact s
 have m:=vC a1 K T J am;have b6:=aj S;clear ar Z am K T J a1;refine callsIn_wide (n:=5).1 ?_;refine callsIn_of_wp_marks Tryz.func31 rfl trivial ?_ rfl;simp only[Tryz.ntmps31,List.size_toArray,List.length_cons,List.length_nil,Nat.reduceAdd,Nat.reduceSub,Array.replicate_succ,Array.replicate_zero,List.push_toArray,List.append_toArray,List.nil_append,List.cons_append];refine wpIn_wide.2 ?_;have bn:=fun (bh bo br:Obj)=>aa (((((Below.refl w.heap.size w).alloc (Nat.le_refl _) bh).alloc (by simp) bo)).alloc (by simp;omega) br) O;go_wp2_with (go_at_call 60;refine(jl h n g _).mono ?_;rintro e b5 ⟨rfl,rfl⟩);rename_i ca ak;have a2:iE w d t (.slice h n g) false ((((w.alloc (.cells #[.pointer (some ⟨d,0,none⟩)] 41)).alloc (.cells #[.int .i64 t] 3)).alloc (.cells #[.bool false] 4)).alloc (.cells #[.slice h n g] 75)):=by
  refine⟨((((Below.refl w.heap.size w).alloc (Nat.le_refl _) _).alloc (by simp) _).alloc (by simp;omega) _).alloc (by simp;omega) _,?_,?_,?_,?_⟩
  ·exact(Below.heap_alloc _ _ _ (by simp;omega)).trans ((Below.heap_alloc _ _ _ (by simp;omega)).trans ((Below.heap_alloc _ _ _ (by simp)).trans (heap_alloc_new w _)))
  ·refine(Below.heap_alloc _ _ _ (by simp)).trans ((Below.heap_alloc _ _ _ (by simp)).trans ?_);have:=heap_alloc_new (w.alloc (.cells #[.pointer (some ⟨d,0,none⟩)] 41)) (.cells #[.int .i64 t] 3)
   rwa [World.size_alloc]at this
  ·refine(Below.heap_alloc _ _ _ (by simp)).trans ?_;have:=heap_alloc_new ((w.alloc (.cells #[.pointer (some ⟨d,0,none⟩)] 41)).alloc (.cells #[.int .i64 t] 3)) (.cells #[.bool false] 4)
   rwa [World.size_alloc,World.size_alloc]at this
  ·have:=heap_alloc_new (((w.alloc (.cells #[.pointer (some ⟨d,0,none⟩)] 41)).alloc (.cells #[.int .i64 t] 3)).alloc (.cells #[.bool false] 4)) (.cells #[.slice h n g] 75)
   rwa [World.size_alloc,World.size_alloc,World.size_alloc]at this
 have x:((((w.alloc (.cells #[.pointer (some ⟨d,0,none⟩)] 41)).alloc (.cells #[.int .i64 t] 3)).alloc (.cells #[.bool false] 4)).alloc (.cells #[.slice h n g] 75)).heap.size=w.heap.size+4:=by simp
 generalize (((w.alloc (.cells #[.pointer (some ⟨d,0,none⟩)] 41)).alloc (.cells #[.int .i64 t] 3)).alloc (.cells #[.bool false] 4)).alloc (.cells #[.slice h n g] 75)=bD at a2 x⊢;clear bn O S;refine(wpIn_wide (n:=5)).1 ?_;refine iP (P:=Tryz.prog) (gf:=121) (lb:=#[.pointer (some ⟨w.heap.size+1+1+1,0,none⟩)]) rfl (enters_of Tryz.func121 (by kernel_rfl) rfl)
  (fun f=>#[.int .i64 (f:Int),.int .u8 (mK st f)]) (fun _=>rfl) n
  (fun f b=>iE w d t (.slice h n g) false b/\rU st f t R)
  (fun f C b=>iE w d t (.slice h n g) false b/\rU st (f+1) t R/\
   C={tmps:=#[.pointer (some ⟨d,0,none⟩),.int .i64 t,.pointer (some ⟨w.heap.size,0,none⟩),.pointer (some ⟨w.heap.size+1,0,none⟩),.pointer (some ⟨w.heap.size+1+1,0,none⟩),undef,.int .u8 (mK st f),
    .pointer (some ⟨d,0,none⟩),.pointer (some ⟨d,0,none⟩),.pointer (some ⟨d,1,none⟩),.pointer (some ⟨d,1,none⟩),.slice h n g,.func (.func 121) #[] #[.pointer (some ⟨w.heap.size+1+1+1,0,none⟩)],.int .i64 (f:Int),.int .u8 (mK st f),
    undef,undef,undef,undef,undef,undef,undef,undef,undef],defers:=[]})
  (fun b=>iE w d t (.slice h n g) R b)
  ?pZ ?pAx ?pX ?h0 ?assign ?body ?seq ?done ?ret
 case pZ=>
  rintro f b a0 H ⟨c,l⟩ r;rw[x]at r⊢;exact⟨c.put (by omega) H,l⟩
 case pAx=>
  rintro f C b a0 H ⟨c,l,rfl⟩ r;rw[x]at r⊢;exact⟨c.put (by omega) H,l,rfl⟩
 case pX=>
  intro b a0 H c r;rw[x]at r⊢;exact c.put (by omega) H
 case h0=>
  intro bN a5 b8;exact⟨a2.below a5,⟨by rw[m.out.2.2.1,Nat.sub_self];exact m.out.2.2.2.1⟩⟩
 case assign=>
  rintro E f b b9 X ⟨c,l⟩ bw;have q:=cK c l;clear c l
  gi_wp2
  exact bw _ _ ⟨q.out.1,q.out.2,rfl⟩ (KeepsFrom.refl _ _)
 case body=>
  rintro E f C b X ⟨c,l,rfl⟩;rw[x];have I:=m.out.2.2.2.2 _ (G9 m.out.2.2.1 X);have j:=l.out;rw[m.out.2.2.1,yo m.out.2.2.1 X,ce]at j;have F:lW 9 (mK st f) t=false->tr (mK st f)=true->rU st f t R:=fun V i=>by
   rw[if_neg (by rw[V];simp),if_pos i]at j;exact⟨by rw[m.out.2.2.1];exact j⟩
  generalize mK st f=u at I j F⊢;have an:=CallsIn.inRound E (callsIn_wide (n:=2).2 (jE 8 b base d mb u t (m.out.1.below c.bl) I.1 I.2 (FT u) a6 a9));have U:=fun (af:World) (o:Below w.heap.size w af)=>CallsIn.inRound E (callsIn_wide (n:=2).2 (EV af base d mb u (m.out.1.below o) I.1 I.2));have bb:=aM c.b0;have O:=aM c.b1;have b4:IntKind.u8.wrap t=t:=by rw[IntKind.wrap_u8];omega
  have q:=ab c;clear c l
  gi_wp2_with (refine⟨trivial,?_⟩;gi_at_call 61;fail)
  refine⟨trivial,an.mono ?_⟩;rintro e G ⟨rfl,W⟩;have o:=q.out.below W;have M:KeepsFrom (w.heap.size+4) b G:=kJ W;have y:=aM o.b2;have A:G.frozen? ⟨w.heap.size+2,0,none⟩=false:=frozen_of_row _ _ _ _ _ o.b2;have bs:=aM o.b0;have i:w.heap.size+1+1=w.heap.size+2:=rfl;rw[<-i]at y A;clear an bb O W i;cases hbv:lW 9 u t with
  |true=>
   rw[hbv,if_pos rfl]at j;have p:Hid (iE w d t (.slice h n g) R (G.setCell ⟨w.heap.size+1+1,0,none⟩ (.bool true))/\KeepsFrom (w.heap.size+4) b (G.setCell ⟨w.heap.size+1+1,0,none⟩ (.bool true))):=⟨by rw[<-j];exact o.set true,M.trans ((KeepsOthers.setCell _ _ _).from _)⟩;have L:lW (8+1) u t=true:=hbv;try rw[L]
   clear j F hbv L U o M q
   gi_wp2
   exact⟨p.out.2,p.out.1⟩
  |false=>
   have L:lW (8+1) u t=false:=hbv;rw[hbv,if_neg (by simp)]at j;try rw[L]
   have ao:=U G o.bl;have Q:=cK o M;clear L U o M q y A
   gi_wp2_with (refine⟨trivial,?_⟩;gi_at_call 62;fail)
   refine⟨trivial,ao.mono ?_⟩;rintro e z ⟨rfl,Y⟩;have s:=Q.out.1.below Y;have N:KeepsFrom (w.heap.size+4) b z:=Q.out.2.trans (kJ Y);have y:=aM s.b2;have A:z.frozen? ⟨w.heap.size+2,0,none⟩=false:=frozen_of_row _ _ _ _ _ s.b2;have i:w.heap.size+1+1=w.heap.size+2:=rfl;rw[<-i]at y A;clear ao bs Y i;cases hnv:tr u with
   |true=>
    have p:Hid (iE w d t (.slice h n g) false z/\rU st f t R/\KeepsFrom (w.heap.size+4) b z):=⟨s,F hbv hnv,N⟩;clear j F hbv s N Q hnv
    gi_wp2
    exact⟨p.out.2.2,p.out.1,p.out.2.1⟩
   |false=>
    rw[hnv,if_neg (by simp)]at j;have p:Hid (iE w d t (.slice h n g) R (z.setCell ⟨w.heap.size+1+1,0,none⟩ (.bool false))/\KeepsFrom (w.heap.size+4) b (z.setCell ⟨w.heap.size+1+1,0,none⟩ (.bool false))):=⟨by rw[<-j];exact s.set false,N.trans ((KeepsOthers.setCell _ _ _).from _)⟩;clear j F hbv s N Q hnv
    gi_wp2
    exact⟨p.out.2,p.out.1⟩
 case seq=>
  intro E bd bt ap bk b a4;refine qD 4 E (w.heap.size+1+1+1) n g h _ r a3 bd bt (fun f b c=>?_) (fun f b c bA a7=>?_) bk b a4
  ·exact aM (ap f b c).1.b3
  ·obtain⟨C,V,i⟩:=EW m.out.2.1 m.out.2.2.1 a7;exact⟨C,V,aa (ap f b c).1.bl i⟩
 case ret=>
  intro b c B;rw[x]at B⊢;refine⟨by simp,.inl ⟨_,_,rfl,run_takeDeferred B,?_⟩⟩;have v:=c.put (k:=w.heap.size+4) (by omega) (.deferred none);refine⟨_,uA rfl _ _ (w.heap.size+1+1) R rfl v.b2,rfl,v.bl⟩
 case done=>
  rintro b ⟨c,l⟩ B;rw[x]at B⊢;have J:R=false:=by
   have:=l.out;rw[Nat.sub_zero,List.drop_length]at this;exact this.symm
  refine ak _ _ ?_;have y:=aM c.b2;have A:b.frozen? ⟨w.heap.size+2,0,none⟩=false:=frozen_of_row _ _ _ _ _ c.b2;have i:w.heap.size+1+1=w.heap.size+2:=rfl;rw[<-i]at y A;have q:Hid (iE w d t (.slice h n g) R (b.setCell ⟨w.heap.size+1+1,0,none⟩ (.bool false))/\(b.setCell ⟨w.heap.size+1+1,0,none⟩ (.bool false)).heap[w.heap.size+4]?=some (.deferred (some []))):=⟨by rw[J];exact c.set false,(heap_setCell_other _ _ _ _ (by simp)).trans B⟩;clear c l B J ak i;go_wp2_with fail;refine⟨by simp,.inl ⟨_,_,rfl,run_takeDeferred q.out.2,?_⟩⟩;have v:=q.out.1.put (k:=w.heap.size+4) (by omega) (.deferred none);refine⟨_,uA rfl _ _ (w.heap.size+1+1) R rfl v.b2,rfl,v.bl⟩
end Go.Proofs.YtcbmoiabehpliaaGreatDoor
namespace Go.Proofs.YtcbmoiabehpliaaGreatDoor
def passOk(b:Nat):Nat->List Int->Int->List Int->Prop
 |0,_,_,_=>False
 |_+1,[],_,_=>False
 |f+1,a::r,t,o=>(a=t/\o=r/\r.length<=b)\/(a≠t/\(qW a t++r).length<=b/\passOk b f (qW a t++r) t o)
theorem Ck{a t:Int}(f:0<=a)(g:a<=133):(qW a t).length<=6/\∀z∈qW a t,1<=z/\z<=133:=by
 have c:=mW f (show a<=255 by omega);unfold lL at c;rw[Bool.and_eq_true,List.all_eq_true]at c;unfold qW;cases hf:List.find? (KB t) (dl a) with
 |none=>exact⟨Nat.zero_le _,fun z b=>by simp at b⟩
 |some d=>
  have e:d∈dl a:=List.mem_of_find?_eq_some hf;have:=c.2 d e;simp only[Bool.and_eq_true,List.all_eq_true]at this;exact⟨of_decide_eq_true this.1.1,fun z b=>of_decide_eq_true (this.1.2 z b)⟩
theorem EX{a t:Int}(b:1<=t):IB 8 (dl a) t=qW a t:=by
 unfold IB qW
 congr 2
 funext r
 rw[FS b 7 r];cases r<;>rfl
theorem qE:∀{f b:Nat}{st o:List Int}{t:Int},dm f st t=some o->(∀z∈st,0<=z/\z<=133)->st.length+5*f<=b->passOk b f st t o
 |0,_,_,_,_,h,_,_=>by simp[dm]at h
 |f+1,_,[],_,_,h,_,_=>by simp[dm]at h
 |f+1,b,a::r,o,t,h,c,g=>by
  rw[dm]at h;unfold passOk;simp only[List.length_cons]at g;by_cases e:a=t
  ·rw[if_pos e]at h;exact .inl ⟨e,(Option.some.inj h).symm,by omega⟩
  ·rw[if_neg e]at h;obtain⟨i,d⟩:=c a (by simp);obtain⟨k,j⟩:=Ck (t:=t) i d;refine .inr ⟨e,by rw[List.length_append];omega,qE h (fun z hz'=>?_) (by rw[List.length_append];omega)⟩;rcases List.mem_append.1 hz' with hz'|hz'
   ·have:=j z hz';omega
   ·exact c z (by simp[hz'])
theorem mh:∀{f g b:Nat}{st o:List Int}{t:Int},passOk b f st t o->f<=g->passOk b g st t o
 |0,_,_,_,_,_,h,_=>h.elim
 |f+1,0,_,_,_,_,_,e=>by omega
 |f+1,g+1,_,[],_,_,h,_=>h.elim
 |f+1,g+1,b,a::r,o,t,h,e=>by
  unfold passOk at h⊢;rcases h with h|⟨i,d,c⟩
  ·exact .inl h
  ·exact .inr ⟨i,d,mh c (by omega)⟩
theorem mi:∀{f b M':Nat}{st o:List Int}{t:Int},passOk b f st t o->b<=M'->passOk M' f st t o
 |0,_,_,_,_,_,h,_=>h.elim
 |f+1,_,_,[],_,_,h,_=>h.elim
 |f+1,b,M',a::r,o,t,h,g=>by
  unfold passOk at h⊢;rcases h with⟨c,e,d⟩|⟨c,e,d⟩
  ·exact .inl ⟨c,e,by omega⟩
  ·exact .inr ⟨c,by omega,mi d g⟩
theorem uB:∀{st:List Int}{t:Int},FG st->1<=t->t<=78->ce st t=true->∃o,passOk (st.length+45) (st.length+9) st t o
 |[],t,e,_,_,h=>by simp[ce]at h
 |a::r,t,e,g,k,h=>by
  have i:=e a (List.mem_cons_self ..);have p:FG r:=fun y x=>e y (List.mem_cons_of_mem _ x);have v:∀d∈a::r,0<=d/\d<=133:=fun d u=>by have:=of_decide_eq_true (e d u);omega
  have b:=xK i g k;rw[ce]at h;unfold AK at b;by_cases f:lW 9 a t=true
  ·rw[if_pos f]at b;split at b
   ·rename_i E A B n z;have m:=li (c:=r) n;rw[List.singleton_append]at m;exact⟨_,mh (qE m v (by simp)) (by simp)⟩
   ·cases b
  ·rw[if_neg f]at b h;by_cases j:tr a=true
   ·rw[if_pos j]at b h;rw[Bool.and_eq_true]at b;obtain⟨o,w⟩:=uB p g k h;have s:¬a=t:=fun q=>by
     subst q;have C:=of_decide_eq_true i;have:lW 9 a a=true:=by rw[lW,if_pos (by omega)];exact decide_eq_true rfl
     exact f this
    have l:qW a t=[]:=by simpa using b.1
    refine⟨o,?_⟩;rw[show(a::r).length+9=(r.length+9)+1 from Nat.add_right_comm r.length 1 9];unfold passOk;refine .inr ⟨s,by rw[l,List.nil_append];simp;omega,?_⟩;rw[l,List.nil_append];exact mi w (by simp)
   ·rw[if_neg j]at h;cases h
theorem mj:∀{f e:Nat}{st o:List Int}{t:Int},passOk e f st t o->dm f st t=some o
 |0,_,_,_,_,h=>h.elim
 |f+1,_,[],_,_,h=>h.elim
 |f+1,e,a::r,o,t,h=>by
  unfold passOk at h;rw[dm];rcases h with⟨b,d,c⟩|⟨b,d,c⟩
  ·rw[if_pos b,d]
  ·rw[if_neg b];exact mj c
theorem jF:∀{f c:Nat}{st o:List Int}{t:Int},passOk c f st t o->o.length<=c
 |0,_,_,_,_,h=>h.elim
 |f+1,_,[],_,_,h=>h.elim
 |f+1,c,a::r,o,t,h=>by
  unfold passOk at h;rcases h with⟨e,d,b⟩|⟨e,d,b⟩
  ·rw[d];exact b
  ·exact jF b
theorem pH.passOk{st b:List Int}(h:pH st b){t:Int}(c:1<=t)(a:t<=78)(e:ce st t=true):∃o,passOk (st.length+45) (st.length+9) st t o/\pH o (feedL b t).1:=by
 obtain⟨o,d⟩:=uB h.o1 c a e;obtain⟨g,f,p2⟩:=h.pass c a e;have:=mj d;rw[f]at this;obtain rfl:=Option.some.inj this;exact⟨_,d,p2⟩
end Go.Proofs.YtcbmoiabehpliaaGreatDoor
namespace Go.Proofs.YtcbmoiabehpliaaGreatDoor
open Go.RowKit Go.Maps Go.WideMaps
attribute [local go_sem] Oper.semAt_some
theorem FU{B c:Nat}{W e:World}{cs:Array Value}{t:TypeId}{fr:Nat×Nat}(g:W.heap[c]?=some (.cells cs t fr))(h:Gp c W e):KeepsFrom B W e:=⟨h.size,fun f k _ a b=>(h.block f (Array.getElem?_eq_some_iff.1 a).1 (by rintro rfl;rw[g]at a;cases a;cases b) (fun i j d=>by rw[a]at d;cases d;cases b)).trans a⟩
theorem dd{b k:Nat}{W d:World}{cs:Array Value}{t:TypeId}{fr:Nat×Nat}(h:Gp b W d)(a:W.heap[k]?=some (.cells cs t fr))(e:k≠b)(f:t≠81):d.heap[k]?=some (.cells cs t fr):=
 (h.block k (Array.getElem?_eq_some_iff.1 a).1 e (fun g i c=>by rw[a]at c;cases c;exact f rfl)).trans a
structure jG (w:World) (base gb mb:Nat) (st:List Int) (c:List Nat) (W:World):Prop where
 g:pQ W base gb (.map (some mb)) st
 r:RI W base mb
 gp:Gp gb w W
 bb:Below base w W
 b0:W.heap[w.heap.size]?=some (.cells #[.pointer (some ⟨gb,0,none⟩)] 41 (0,0))
 mks:eY (w.heap.size+1) c W
 ne:gb<w.heap.size
theorem jG.below{w:World}{base b mb:Nat}{st:List Int}{c:List Nat}{W d:World}(h:jG w base b mb st c W)(a:Below W.heap.size W d):jG w base b mb st c d:=by
 refine⟨h.g.below a,h.r.below a,h.gp.trans (Gp.of_below a),h.bb.trans (a.mono ?_),(a.block _ (aj h.b0)).trans h.b0,h.mks.below a,h.ne⟩;have:=h.g.lo;have:=h.ne;have:=h.gp.size;omega
theorem jG.turn{w:World}{base e mb:Nat}{st k:List Int}{c:List Nat}{W f:World}(h:jG w base e mb st c W)(m:pQ f base e (.map (some mb)) k)(b:Gp e W f)(l:Below base W f):jG w base e mb k c f:=by
 obtain⟨o,j,_⟩:=h.g.ex;exact⟨m,h.r.gp j b,h.gp.trans b,h.bb.trans l,dd b h.b0 (by have:=h.ne;omega) (by decide),
  ⟨h.mks.nd,h.mks.lo,fun a d=>(b.block a (Array.getElem?_eq_some_iff.1 (h.mks.at_ a d)).1 (by rintro rfl;have:=h.mks.at_ a d;rw[j]at this;cases this) (fun n p i=>by rw[h.mks.at_ a d]at i;cases i)).trans (h.mks.at_ a d)⟩,h.ne⟩
theorem jG.put{w:World}{base f mb:Nat}{st:List Int}{c:List Nat}{W:World}(h:jG w base f mb st c W){k:Nat}{r:Loop}(v:w.heap.size<k)(d:W.heap[k]?=some (.loop r))(o:Obj):jG w base f mb st c (W.putObj k o):=by
 obtain⟨s,q,n⟩:=h.g.ex;have e:f≠k:=by have:=h.ne;omega
 have p:base<=k:=by have:=h.g.lo;have:=h.ne;omega
 refine⟨⟨⟨s,(World.putObj_heap_other e).trans q,ownsRow_putObj n o d rfl⟩,h.g.lo⟩,h.r.same (fun t c a=>(World.putObj_heap_other (by rintro rfl;rw[d]at a;cases a)).trans a) (fun x u y a=>(World.putObj_heap_other (by rintro rfl;rw[d]at a;cases a)).trans a),?_,h.bb.grown (grownBy_putObj' W k o) (by have:=h.gp.size;have:=h.g.lo;have:=h.ne;omega) (fun g a=>by cases a;exact p),(World.putObj_heap_other (by omega)).trans h.b0,
  ⟨h.mks.nd,h.mks.lo,fun i j=>(World.putObj_heap_other (by rintro rfl;have:=(h.mks.at_ i j).symm.trans d;cases this)).trans (h.mks.at_ i j)⟩,h.ne⟩
 have b:=h.gp;refine⟨b.os,b.tape,b.output,by have:=b.size;simpa using this,fun g m e l=>(World.putObj_heap_other (by omega)).trans (b.block g m e l)⟩
structure wR (w:World) (base gb mb:Nat) (st:List Int) (c:List Nat) (sz:Nat) (x0 x1 x2 x3 x4 x5:Int) (W:World):Prop where
 ps:jG w base gb mb st c W
 b0:W.heap[sz]?=some (.cells #[.int .u8 x0,.int .u8 x1,.int .u8 x2,.int .u8 x3,.int .u8 x4,.int .u8 x5] 133 (0,0))
 b1:W.heap[sz+1]?=some (.cells #[.slice (some ⟨sz,0,none⟩) 6 6] 75 (0,0))
theorem wR.put{w:World}{base g mb:Nat}{st:List Int}{c:List Nat}{a:Nat}{x0 d b i f e:Int}{W:World}(h:wR w base g mb st c a x0 d b i f e W)(m:w.heap.size<a){k:Nat}{r:Loop}(l:a+1<k)(j:W.heap[k]?=some (.loop r))(o:Obj):wR w base g mb st c a x0 d b i f e (W.putObj k o):=
 ⟨h.ps.put (by omega) j o,(World.putObj_heap_other (by omega)).trans h.b0,(World.putObj_heap_other (by omega)).trans h.b1⟩
theorem Cl(w:World)(base f mb:Nat)(st:List Int)(t:Int)(x a5:Nat)(stF:List Int)(a2:pQ w base f (.map (some mb)) st)(b7:RI w base mb)(cr:∀a∈st,0<=a/\a<=133)(E:st.length<=x)(e8:x<=100000000)(ca:1<=t)(ei:t<=78)(al:passOk x a5 st t stF):
  Calls Tryz.prog 33 #[.pointer (some ⟨f,0,none⟩),.int .u8 t] w fun e ao=>e= .returned (.tuple #[])/\pQ ao base f (.map (some mb)) stF/\RI ao base mb/\Gp f w ao/\Below base w ao:=by
 obtain⟨c8,c2,ep⟩:=a2.ex;have eq:=aj c2;have fu:=a2.lo;obtain⟨j,rfl⟩:∃j,a5=j+1:=by
  cases a5 with
  |zero=>exact al.elim
  |succ j=>exact⟨j,rfl⟩
 obtain⟨c,r,rfl⟩:∃c r,st=c::r:=by
  cases st with
  |nil=>exact al.elim
  |cons c r=>exact⟨c,r,rfl⟩
 have W:=(Below.refl w.heap.size w).alloc (Nat.le_refl _) (.cells #[.pointer (some ⟨f,0,none⟩)] 41 (0,0));have bh:jG w base f mb (c::r) [] (w.alloc (.cells #[.pointer (some ⟨f,0,none⟩)] 41 (0,0))):=
  ⟨a2.below W,b7.below W,Gp.of_below W,W.mono (by omega),heap_alloc_new w _,⟨List.nodup_nil,fun y hb=>by simp at hb,fun y hb=>by simp at hb⟩,eq⟩
 have B:=ui _ base f (.map (some mb)) r c bh.g (by simp only[List.length_cons]at E;omega);have ar:=cS bh cr al;clear a2 b7 cr ep bh al c2;refine callsIn_wide (n:=5).1 ?_;refine callsIn_of_wp_marks Tryz.func33 rfl trivial ?_ rfl;simp only[Tryz.ntmps33,List.size_toArray,List.length_cons,List.length_nil,Nat.reduceAdd,Nat.reduceSub,Array.replicate_succ,Array.replicate_zero,List.push_toArray,List.append_toArray,List.nil_append,List.cons_append];refine wpIn_wide.2 ?_;go_wp2_with (go_at_call 66;refine B.mono ?_;rintro e eh ⟨rfl,af,p2,ch⟩);have cv:=ar.out.1.turn af p2 ch;have cb:Hid (jG w base f mb r [] eh/\(∀a∈c::r,0<=a/\a<=133)/\passOk x (j+1) (c::r) t stF/\r.length<=x):=⟨cv,ar.out.2.1,ar.out.2.2,by simp only[List.length_cons]at E;omega⟩;clear ar cv af p2 ch B W;obtain⟨s0,dq⟩:=ah c;refine(wpIn_wide (n:=5)).1 (wpIn_loop_ghost (fun j Q h=>∃(c:Int) (st:List Int) (k:List Nat),Hid (jG w base f mb st k h/\(∀a∈c::st,0<=a/\a<=133)/\passOk x (j+1) (c::st) t stF/\st.length<=x)/\∃ct c5 dn cc ck a6 bn a4 bE c1 cN b8 cq cn b9 ds c3 cT:Value,Q={tmps:=#[.pointer (some ⟨f,0,none⟩),.int .u8 t,.pointer (some ⟨w.heap.size,0,none⟩),undef,.int .u8 c,ct,c5,undef,undef,.pointer (some ⟨f,0,none⟩),.pointer (some ⟨f,0,none⟩),.pointer (some ⟨f,1,none⟩),.int .u8 s0,dn,cc,ck,a6,bn,a4,bE,c1,cN,b8,cq,cn,b9,ds,c3,cT,undef,undef,undef,undef,undef,undef,undef,undef,undef],defers:=k.map lK}) j ?start ?round)
 case start=>exact⟨c,r,[],cb,undef,undef,undef,undef,undef,undef,undef,undef,undef,undef,undef,undef,undef,undef,undef,undef,undef,undef,by rw[<-dq];rfl⟩
 case round=>
  clear cb E dq;rintro j Q h ⟨c,st,k,v,ct,c5,dn,cc,ck,a6,bn,a4,bE,c1,cN,b8,cq,cn,b9,ds,c3,cT,rfl⟩;refine wpIn_wide.2 ?_;have eN:=aM v.out.1.b0;have av:=v.out.2.1 c (by simp);by_cases Z:c=t
  ·have J:=v.out.2.2.1;unfold passOk at J;have c7:stF=st:=by
    rcases J with⟨_,b,_⟩|⟨b,_⟩
    ·exact b
    ·exact absurd Z b
   have T:Hid (jG w base f mb stF k h):=by rw[c7];exact v.out.1
   clear J v c7;subst Z;go_wp2_with fail;show LeavesInM _ _ _ _ _ _ (k.map lK) .returning h;have b:=T.out;refine eJ (w.heap.size+1) k h b.mks (fun cB A=>?_);have cz:∀i,i<=w.heap.size->cB.heap[i]?=h.heap[i]?:=fun i K=>A.same i (fun N=>by have:=b.mks.lo i N;omega);have ap:∀(i:Nat)(C:Obj),h.heap[i]?=some C->(∀Y,C≠ .deferred Y)->cB.heap[i]?=some C:=fun i C K a1=>(A.same i (fun N=>by have:=b.mks.at_ i N;rw[K]at this;exact a1 _ (Option.some.inj this))).trans K;refine⟨_,results_none rfl _ _ _,rfl,?_,?_,?_,?_⟩
   ·obtain⟨c8,G,a1⟩:=b.g.ex;refine⟨⟨c8,ap _ _ G (fun Y e=>by cases e),a1.1,?_⟩,b.g.lo⟩;rcases a1.2 with ec|⟨af,et,d9,bx,bl,bs,bD⟩
    ·exact .inl ec
    ·exact .inr ⟨af,et,d9,bx,bl,ap _ _ bs (fun Y e=>by cases e),bD⟩
   ·exact b.r.same (fun fb k e=>ap _ _ e (fun Y e=>by cases e)) (fun fq ff fv e=>ap _ _ e (fun Y e=>by cases e))
   ·exact⟨A.os.trans b.gp.os,A.tape.trans b.gp.tape,A.output.trans b.gp.output,by rw[A.size];exact b.gp.size,fun i K em d1=>(cz i (by omega)).trans (b.gp.block i K em d1)⟩
   ·exact⟨A.os.trans b.bb.os,A.tape.trans b.bb.tape,A.output.trans b.bb.output,by rw[A.size];exact b.bb.size,fun i K=>(cz i (by omega)).trans (b.bb.block i K)⟩
  ·have fd:(c==t)=false:=by rw[beq_eq_false_iff_ne];exact Z
   have J:(qW c t++st).length<=x/\passOk x j (qW c t++st) t stF:=by
    have:=v.out.2.2.1;unfold passOk at this;rcases this with⟨b,_⟩|⟨_,b⟩
    ·exact absurd b Z
    ·exact b
   obtain⟨d5,G,_⟩:=v.out.1.g.ex;have dk:GB h base f mb:=⟨by rw[cell_of_row _ _ _ _ _ _ G];rfl,v.out.1.r⟩;obtain⟨L,cP⟩:∃L,oM 8 t (dl c) 0 (qW c t) L:=⟨_,⟨EX ca,rfl⟩⟩;have U:=oN 7 (jE 7) h base f mb c t dk av.1 av.2 (FT c) ca ei _ L cP;obtain⟨a9,cg⟩:=Ck (t:=t) av.1 av.2;rw[yl a9]at U;have z:Hid ((qW c t++st).length<=x/\passOk x j (qW c t++st) t stF/\(qW c t).length<=6/\∀cf∈qW c t,1<=cf/\cf<=133):=⟨J.1,J.2,a9,cg⟩;generalize qW c t=rw at U z;obtain⟨q,an⟩:=ah (rw.getD 0 0);obtain⟨m,br⟩:=ah (rw.getD 1 0);obtain⟨o,a8⟩:=ah (rw.getD 2 0);obtain⟨p,bo⟩:=ah (rw.getD 3 0);obtain⟨l,a3⟩:=ah (rw.getD 4 0);obtain⟨s,bk⟩:=ah (rw.getD 5 0);rw[an,br,a8,bo,a3,bk]at U;have c9:=F9 an br a8 bo a3 bk;clear J G dk cP a9 cg an br a8 bo a3 bk Z;go_wp2_with (first
    |(go_at_call 67;refine U.mono ?_;rintro e F ⟨rfl,S⟩)
    |(go_at_call 60;refine(jl _ 6 6 _).mono ?_;rintro e fk ⟨rfl,rfl⟩))
   rename_i fo d0;obtain⟨g,bA⟩:=ah F.heap.size;have b3:Below h.heap.size h ((F.alloc (.cells #[.int .u8 q,.int .u8 m,.int .u8 o,.int .u8 p,.int .u8 l,.int .u8 s] 133)).alloc (.cells #[.slice (some ⟨g,0,none⟩) 6 6] 75)):=(S.alloc S.size _).alloc (by have:=S.size;simp;omega) _;have a7:=v.out.1.below b3;have bt:((F.alloc (.cells #[.int .u8 q,.int .u8 m,.int .u8 o,.int .u8 p,.int .u8 l,.int .u8 s] 133)).alloc (.cells #[.slice (some ⟨g,0,none⟩) 6 6] 75)).heap[g]?=some (.cells #[.int .u8 q,.int .u8 m,.int .u8 o,.int .u8 p,.int .u8 l,.int .u8 s] 133 (0,0)):=(Below.heap_alloc _ _ _ (by simp;omega)).trans (by rw[<-bA];exact heap_alloc_new F _);have bN:((F.alloc (.cells #[.int .u8 q,.int .u8 m,.int .u8 o,.int .u8 p,.int .u8 l,.int .u8 s] 133)).alloc (.cells #[.slice (some ⟨g,0,none⟩) 6 6] 75)).heap[g+1]?=some (.cells #[.slice (some ⟨g,0,none⟩) 6 6] 75 (0,0)):=by
    have:=heap_alloc_new (F.alloc (.cells #[.int .u8 q,.int .u8 m,.int .u8 o,.int .u8 p,.int .u8 l,.int .u8 s] 133)) (.cells #[.slice (some ⟨g,0,none⟩) 6 6] 75);rw[World.size_alloc,bA]at this;exact this
   have X:((F.alloc (.cells #[.int .u8 q,.int .u8 m,.int .u8 o,.int .u8 p,.int .u8 l,.int .u8 s] 133)).alloc (.cells #[.slice (some ⟨g,0,none⟩) 6 6] 75)).heap.size=g+1+1:=by simp;omega
   have d7:∀y∈k,y<g:=fun y hb=>by have:=(Array.getElem?_eq_some_iff.1 (v.out.1.mks.at_ y hb)).1;have:=S.size;omega
   have cx:w.heap.size<g:=by have:=aj v.out.1.b0;have:=S.size;omega
   rw[bA];generalize (F.alloc (.cells #[.int .u8 q,.int .u8 m,.int .u8 o,.int .u8 p,.int .u8 l,.int .u8 s] 133)).alloc (.cells #[.slice (some ⟨g,0,none⟩) 6 6] 75)=e9 at a7 bt bN X b3⊢;clear U S eN b3;refine(wpIn_wide (n:=5)).1 ?_;refine iP (P:=Tryz.prog) (gf:=121) (lb:=#[.pointer (some ⟨g+1,0,none⟩)]) rfl (enters_of Tryz.func121 (by kernel_rfl) rfl)
    (fun d=>#[.int .i64 (d:Int),.int .u8 (rw.getD d 0)]) (fun _=>rfl) 6
    (fun d h=>wR w base f mb (rw.drop d++st) k g q m o p l s h)
    (fun d Q h=>wR w base f mb (rw.drop (d+1)++st) k g q m o p l s h/\Q={tmps:=#[.pointer (some ⟨f,0,none⟩),.int .u8 t,.pointer (some ⟨w.heap.size,0,none⟩),undef,.int .u8 c,.pointer (some ⟨g,0,none⟩),.bool L,undef,.int .u8 (rw.getD d 0),.pointer (some ⟨f,0,none⟩),.pointer (some ⟨f,0,none⟩),.pointer (some ⟨f,1,none⟩),.int .u8 s0,.int .u8 c,.int .u8 t,.bool true,a6,bn,a4,bE,.tuple #[.agg #[.int .u8 q,.int .u8 m,.int .u8 o,.int .u8 p,.int .u8 l,.int .u8 s],.bool L],.pointer (some ⟨f,0,none⟩),.int .u8 c,.int .u8 t,.tuple #[.agg #[.int .u8 q,.int .u8 m,.int .u8 o,.int .u8 p,.int .u8 l,.int .u8 s],.bool L],.agg #[.int .u8 q,.int .u8 m,.int .u8 o,.int .u8 p,.int .u8 l,.int .u8 s],.bool L,.slice (some ⟨g,0,none⟩) 6 6,.func (.func 121) #[] #[.pointer (some ⟨g+1,0,none⟩)],.int .i64 (d:Int),.int .u8 (rw.getD d 0),undef,undef,undef,undef,undef,undef,undef],defers:=[]})
    (fun _=>False)
    ?pZ ?pAx ?pX ?h0 ?assign ?body ?seq ?done ?ret
   case pZ=>
    rintro d h r C b E;rw[X]at E⊢;exact b.put cx (by omega) E C
   case pAx=>
    rintro d Q h r C ⟨b,rfl⟩ E;rw[X]at E⊢;exact⟨b.put cx (by omega) E C,rfl⟩
   case pX=>intro h r C b;exact b.elim
   case h0=>
    intro fa hb fn;refine⟨?_,(hb.block _ (by omega)).trans bt,(hb.block _ (by omega)).trans bN⟩;rw[List.drop_of_length_le z.out.2.2.1];exact a7.below hb
   case assign=>
    rintro ak d h fm N b en;have M:=ab b;clear b
    gi_wp2
    exact en _ _ ⟨M.out,rfl⟩ (KeepsFrom.refl _ _)
   case seq=>
    intro ak ev e5 c6 ey h d8;refine qD 4 ak (g+1) 6 6 (some ⟨g,0,none⟩) _ (by decide) (Nat.le_refl _) ev e5 (fun d h b=>?_) (fun d h b R fc=>?_) ey h d8
    ·exact aM (c6 d h b).b1
    ·obtain⟨eb,bx,bl,bs,bD,ea⟩:=bz (c6 d h b).b0;obtain⟨e3,e6,e2,e0,d3,d4⟩:=c9.out;refine⟨_,rfl,?_⟩;rw[kK];rcases(show R=0\/R=1\/R=2\/R=3\/R=4\/R=5 by omega) with rfl|rfl|rfl|rfl|rfl|rfl
     ·rw[e3];exact eb
     ·rw[e6];exact bx
     ·rw[e2];exact bl
     ·rw[e0];exact bs
     ·rw[d3];exact bD
     ·rw[d4];exact ea
   case ret=>intro h b;exact b.elim
   case body=>
    rintro ak d Q O N ⟨b,rfl⟩;rw[X];have cm:=aM b.ps.b0;obtain⟨d5,G,_⟩:=b.ps.g.ex;by_cases b4:d<rw.length
    ·have c4:rw.getD d 0∈rw:=by rw[List.getD_eq_getElem?_getD,List.getElem?_eq_getElem b4];exact List.getElem_mem _
     have ef:=z.out.2.2.2 _ c4;have cl:rw.drop d=rw.getD d 0::rw.drop (d+1):=by
      rw[List.drop_eq_getElem_cons b4]
      congr 1
      rw[List.getD_eq_getElem?_getD,List.getElem?_eq_getElem b4];rfl
     have d2:(rw.drop (d+1)++st).length<=100000000:=by
      have:=z.out.1;rw[List.length_append]at this⊢;rw[List.length_drop];omega
     have B:=CallsIn.inRound ak (callsIn_wide (n:=2).2 (lH O base f (.map (some mb)) (rw.drop (d+1)++st) (rw.getD d 0) b.ps.g d2));rw[<-List.cons_append,<-cl]at B;have M:=cK b G;generalize rw.getD d 0=ed at ef B⊢;have an:(ed==0)=false:=by rw[beq_eq_false_iff_ne];omega
     clear b G c4 cl
     gi_wp2_with (refine⟨trivial,?_⟩;gi_at_call 28;fail)
     refine⟨trivial,B.mono ?_⟩;rintro e cI ⟨rfl,cw,V,df⟩;have T:Hid (wR w base f mb (rw.drop d++st) k g q m o p l s cI/\KeepsFrom (g+1+1) O cI):=⟨⟨M.out.1.ps.turn cw V df,dd V M.out.1.b0 (by omega) (by decide),dd V M.out.1.b1 (by omega) (by decide)⟩,FU M.out.2 V⟩;clear cw V df B M cm
     gi_wp2
     exact⟨T.out.2,T.out.1⟩
    ·have ek:rw.getD d 0=0:=by rw[List.getD_eq_getElem?_getD,List.getElem?_eq_none (by omega)];rfl
     rw[ek];have T:Hid (wR w base f mb (rw.drop d++st) k g q m o p l s O):=by
      have el:rw.drop d=rw.drop (d+1):=by rw[List.drop_of_length_le (by omega),List.drop_of_length_le (by omega)]
      rw[el];exact b
     clear b G
     gi_wp2
     exact⟨KeepsFrom.refl _ _,T.out⟩
   case done=>
    rintro O b bw;rw[X]at bw⊢;obtain⟨a0,rfl⟩:∃a0,j=a0+1:=by
     cases j with
     |zero=>exact(z.out.2.1).elim
     |succ j=>exact⟨j,rfl⟩
    obtain⟨I,H,am⟩:∃I H,rw++st=I::H:=by
     cases hq:rw++st with
     |nil=>have:=z.out.2.1;rw[hq]at this;exact this.elim
     |cons a y=>exact⟨a,y,rfl⟩
    have u:=b.ps;rw[List.drop_zero,am]at u;have fg:H.length+1<=x:=by have:=z.out.1;rw[am,List.length_cons]at this;exact this
    have B:=ui O base f (.map (some mb)) H I u.g (by omega);have cm:=aM u.b0;have cF:eY (w.heap.size+1) ((g+1+1)::k) O:=⟨List.nodup_cons.2 ⟨fun N=>by have:=d7 _ N;omega,u.mks.nd⟩,fun y hb=>by
      rcases List.mem_cons.1 hb with rfl|hb
      ·omega
      ·exact u.mks.lo y hb,fun y hb=>by
      rcases List.mem_cons.1 hb with rfl|hb
      ·exact bw
      ·exact u.mks.at_ y hb⟩
    have bd:Hid (jG w base f mb (I::H) ((g+1+1)::k) O/\(∀a∈I::H,0<=a/\a<=133)/\passOk x (a0+1) (I::H) t stF):=by
     refine⟨⟨u.g,u.r,u.gp,u.bb,u.b0,cF,u.ne⟩,fun a ha=>?_,by rw[<-am];exact z.out.2.1⟩;rw[<-am]at ha;rcases List.mem_append.1 ha with ha|ha
     ·have:=z.out.2.2.2 a ha;omega
     ·exact v.out.2.1 a (by simp[ha])
    refine d0 _ _ ?_;clear cF u b bw d0 v z c9 a7 bt bN;go_wp2_with (go_at_call 66;refine B.mono ?_;rintro e e7 ⟨rfl,eg,d6,e4⟩);exact⟨a0,by omega,I,H,(g+1+1)::k,⟨bd.out.1.turn eg d6 e4,bd.out.2.1,bd.out.2.2,by omega⟩,_,_,_,_,_,_,_,_,_,_,_,_,_,_,_,_,_,_,rfl⟩
def dO(st:List Int):Nat->List Int
 |0=>[]
 |j+1=>if ce st ((j:Int)+1)=true then dO st j++[(j:Int)+1] else dO st j
theorem oO(st:List Int):∀j,(dO st j).length<=j
 |0=>Nat.le_refl _
 |j+1=>by
  have:=oO st j;rw[dO];split
  ·rw[List.length_append];simp;omega
  ·omega
theorem uC(st:List Int):∀j,∀z∈dO st j,1<=z/\z<=(j:Int)
 |0=>by intro z a;simp[dO]at a
 |j+1=>by
  intro z a;have b:=uC st j;rw[dO]at a;split at a
  ·rcases List.mem_append.1 a with h|h
   ·have:=b z h;omega
   ·simp at h;omega
  ·have:=b z a;omega
theorem pH.nm{st a:List Int}(h:pH st a):∀j,j<=78->dO st j=dF a j
 |0,_=>rfl
 |j+1,b=>by rw[dO,dF,h.nm j (by omega),h.may (by omega) (by omega)]
structure GQ (W:World) (base gb mb:Nat) (st:List Int):Prop where
 g:pQ W base gb (.map (some mb)) st
 r:RI W base mb
 ok:∀a∈st,0<=a/\a<=133
 len:st.length<=99999000
theorem GQ.below{W a:World}{base c mb:Nat}{st:List Int}(h:GQ W base c mb st)(b:Below W.heap.size W a):GQ a base c mb st:=⟨h.g.below b,h.r.below b,h.ok,h.len⟩
theorem GQ.may{W:World}{base a mb:Nat}{st:List Int}(h:GQ W base a mb st){t:Int}(d:1<=t)(c:t<=78){R:Bool}(b:ce st t=R):
  Calls Tryz.prog 31 #[.pointer (some ⟨a,0,none⟩),.int .i64 t] W fun e f=>e= .returned (.bool R)/\Below W.heap.size W f:=
 Cj W base a mb st t R h.g h.r h.ok (by have:=h.len;omega) d c b
structure I3 (w:World) (st:List Int) (j:Nat) (vo:Value) (W:World):Prop where
 bl:Below w.heap.size w W
 row:W.ownsRow w.heap.size 3 1 vo (dO st j).length ((dO st j).map (Value.int .i64))
theorem zO(w:World)(base C mb:Nat)(st:List Int)(h:GQ w base C mb st):
  Calls Tryz.prog 64 #[.pointer (some ⟨C,0,none⟩)] w fun e y=>∃a c,e= .returned (.slice a (dO st 78).length c)/\y.ownsRow w.heap.size 3 1 (.slice a (dO st 78).length c) (dO st 78).length ((dO st 78).map (Value.int .i64))/\Below w.heap.size w y:=by
 have E:=ab h;have x:Hid (I3 w st 0 (.slice none 0 0) w):=⟨Below.refl _ _,World.ownsRow_nil _ _ _ _⟩;obtain⟨W,J,T,V,N⟩:=info_parts gD;clear h;go_in;go_wp2_with fail;go_loopw [3,4] (fun v r wr=>∃(b:Nat),b<=78/\r= .int .i64 ((b:Int)+1)/\(∃a c,∃U:Nat,v= .slice a U c)/\Hid (I3 w st b v wr)) (fun _ r _=>(79-intOf r).toNat)
 case atStart=>exact⟨0,Nat.zero_le _,rfl,⟨_,_,_,rfl⟩,x⟩
 case round=>
  obtain⟨b,ao,rfl,⟨G,X,al,rfl⟩,f⟩:=hrel;clear x;by_cases af:b<78
  ·obtain⟨K,m⟩:=ah (ce st ((b:Int)+1));have p:=(E.out.below f.out.bl).may (t:=(b:Int)+1) (by omega) (by omega) m;have A:=ab m;obtain⟨g,n⟩:∃g:Int,(b:Int)+1=g:=⟨_,rfl⟩;have u:=ab n;have Z:g<=78:=by omega
   have ap:1<=g:=by omega
   rw[n]at p⊢;clear m n;go_wp2_with fail;refine p.mono ?_;rintro e s ⟨rfl,q⟩;have o:Below w.heap.size w s:=f.out.bl.trans (q.mono f.out.bl.size);have d:=ai f.out.row q;have R:=oO st b;obtain⟨Q,i⟩:=ah ((dO st b).length);rw[i]at d R;obtain⟨F,L,l⟩:=aB d;cases l;have j:=cS d i o;have H:=o.size;clear p f q d i o;cases K with
   |false=>
    have e:dO st (b+1)=dO st b:=by rw[dO,A.out,if_neg (by decide)]
    go_wp2_with fail;refine⟨⟨b+1,by omega,?_,⟨_,_,_,rfl⟩,⟨j.out.2.2,by rw[e,j.out.2.1];exact j.out.1⟩⟩,?_⟩
    ·have:=u.out;congr 1;push_cast;omega
    ·simp[intOf];omega
   |true=>
    have M:Hid (dO st (b+1)=dO st b++[g]):=by show _=_;rw[dO,A.out,if_pos rfl,u.out]
    go_wp2_with (at_builtin;refine wpList_append_own _ rfl _ _ 67 rfl w.heap.size 3 W _ 1 8 Tryz.underlying67 J T V N rfl (by decide) _ _ _ rfl (j.out.1.alloc _) ⟨s.heap.size,0,none⟩ 1 1 [.int .i64 g] rfl rfl (World.news_of_block (cs:=#[.int .i64 g]) (fr:=(0,0)) (heap_alloc_new s _)) (by intro ar z;simp at z;subst z;rfl) (by unfold maxLen;omega) (by omega) (by simp;omega) ?_;intro ak am B O Y;obtain⟨an,a0,rfl⟩:=ownsRow_succ B);refine⟨⟨b+1,by omega,?_,⟨_,_,_,rfl⟩,⟨?_,?_⟩⟩,?_⟩
    ·have:=u.out;congr 1;push_cast;omega
    ·exact(j.out.2.2.alloc H _).grown O (by simp;omega) (fun I S=>(j.out.1.lt I S).1)
    ·rw[M.out,List.length_append,j.out.2.1,List.map_append];exact B
    ·simp[intOf];omega
  ·obtain rfl:b=78:=by omega
   have d:=f.out.row;obtain⟨Q,i⟩:=ah ((dO st 78).length);rw[i]at d;obtain⟨F,L,l⟩:=aB d;cases l;have k:=cS d i f.out.bl;clear f d i;go_wp2_with fail;go_ret;refine⟨G,X,?_,?_,k.out.2.2⟩
   ·rw[k.out.2.1];rfl
   ·rw[k.out.2.1];exact k.out.1
end Go.Proofs.YtcbmoiabehpliaaGreatDoor
