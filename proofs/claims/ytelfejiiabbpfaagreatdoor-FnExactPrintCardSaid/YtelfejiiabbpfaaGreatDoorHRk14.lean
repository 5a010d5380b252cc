import Derived.Test.YtelfejiiabbpfaaGreatDoorHRk08
import Derived.Test.YtelfejiiabbpfaaGreatDoorHRk06
import Derived.Test.YtelfejiiabbpfaaGreatDoorHRk02
import Derived.DataElems
set_option linter.unusedVariables false
set_option maxRecDepth 100000
set_option maxHeartbeats 12800000
namespace Go.Proofs.YtelfejiiabbpfaaGreatDoor
open Go.RowKit
theorem cls_lt (k:Int):cls k=0\/cls k=1\/cls k=2\/cls k=3\/cls k=4\/cls k=5\/cls k=6:=by
 unfold cls
 repeat' split
 all_goals simp
theorem methK (k:Int) (b:Nat) (w:World):(method 371 (ptT (cls k)) (.pointer (some ⟨b,0,none⟩)) "loop.example/warp/impl.head").run Tryz.prog w= .ok (233,.pointer (some ⟨b,0,none⟩)) w:=by
 rcases cls_lt k with h|h|h|h|h|h|h
 ·rw[h];exact meth0 b w
 ·rw[h];exact meth1 b w
 ·rw[h];exact meth2 b w
 ·rw[h];exact meth3 b w
 ·rw[h];exact meth4 b w
 ·rw[h];exact meth5 b w
 ·rw[h];exact meth6 b w
def wordL (i f:Nat):List UInt8:=(wB i).data.toList++(if f=1 then [42] else if f=2 then [63] else [])
def wS (i f:Nat):ByteArray:=⟨(wordL i f).toArray⟩
def wS1 (i f:Nat):ByteArray:=⟨((wB i).data.toList++(if f=2 then [63] else [])).toArray⟩
theorem cut1:∀i f,i<10->f<3->(⟨(Lib.trimSuffix (wS i f).data.toList [42]).toArray⟩:ByteArray)=wS1 i f/\Lib.hasSuffix (wS i f).data.toList [42]=(f==1)
 |0,0,_,_=>⟨rfl,rfl⟩
 |0,1,_,_=>⟨rfl,rfl⟩
 |0,2,_,_=>⟨rfl,rfl⟩
 |1,0,_,_=>⟨rfl,rfl⟩
 |1,1,_,_=>⟨rfl,rfl⟩
 |1,2,_,_=>⟨rfl,rfl⟩
 |2,0,_,_=>⟨rfl,rfl⟩
 |2,1,_,_=>⟨rfl,rfl⟩
 |2,2,_,_=>⟨rfl,rfl⟩
 |3,0,_,_=>⟨rfl,rfl⟩
 |3,1,_,_=>⟨rfl,rfl⟩
 |3,2,_,_=>⟨rfl,rfl⟩
 |4,0,_,_=>⟨rfl,rfl⟩
 |4,1,_,_=>⟨rfl,rfl⟩
 |4,2,_,_=>⟨rfl,rfl⟩
 |5,0,_,_=>⟨rfl,rfl⟩
 |5,1,_,_=>⟨rfl,rfl⟩
 |5,2,_,_=>⟨rfl,rfl⟩
 |6,0,_,_=>⟨rfl,rfl⟩
 |6,1,_,_=>⟨rfl,rfl⟩
 |6,2,_,_=>⟨rfl,rfl⟩
 |7,0,_,_=>⟨rfl,rfl⟩
 |7,1,_,_=>⟨rfl,rfl⟩
 |7,2,_,_=>⟨rfl,rfl⟩
 |8,0,_,_=>⟨rfl,rfl⟩
 |8,1,_,_=>⟨rfl,rfl⟩
 |8,2,_,_=>⟨rfl,rfl⟩
 |9,0,_,_=>⟨rfl,rfl⟩
 |9,1,_,_=>⟨rfl,rfl⟩
 |9,2,_,_=>⟨rfl,rfl⟩
theorem cut2:∀i f,i<10->f<3->(⟨(Lib.trimSuffix (wS1 i f).data.toList [63]).toArray⟩:ByteArray)=wB i/\Lib.hasSuffix (wS1 i f).data.toList [63]=(f==2)
 |0,0,_,_=>⟨rfl,rfl⟩
 |0,1,_,_=>⟨rfl,rfl⟩
 |0,2,_,_=>⟨rfl,rfl⟩
 |1,0,_,_=>⟨rfl,rfl⟩
 |1,1,_,_=>⟨rfl,rfl⟩
 |1,2,_,_=>⟨rfl,rfl⟩
 |2,0,_,_=>⟨rfl,rfl⟩
 |2,1,_,_=>⟨rfl,rfl⟩
 |2,2,_,_=>⟨rfl,rfl⟩
 |3,0,_,_=>⟨rfl,rfl⟩
 |3,1,_,_=>⟨rfl,rfl⟩
 |3,2,_,_=>⟨rfl,rfl⟩
 |4,0,_,_=>⟨rfl,rfl⟩
 |4,1,_,_=>⟨rfl,rfl⟩
 |4,2,_,_=>⟨rfl,rfl⟩
 |5,0,_,_=>⟨rfl,rfl⟩
 |5,1,_,_=>⟨rfl,rfl⟩
 |5,2,_,_=>⟨rfl,rfl⟩
 |6,0,_,_=>⟨rfl,rfl⟩
 |6,1,_,_=>⟨rfl,rfl⟩
 |6,2,_,_=>⟨rfl,rfl⟩
 |7,0,_,_=>⟨rfl,rfl⟩
 |7,1,_,_=>⟨rfl,rfl⟩
 |7,2,_,_=>⟨rfl,rfl⟩
 |8,0,_,_=>⟨rfl,rfl⟩
 |8,1,_,_=>⟨rfl,rfl⟩
 |8,2,_,_=>⟨rfl,rfl⟩
 |9,0,_,_=>⟨rfl,rfl⟩
 |9,1,_,_=>⟨rfl,rfl⟩
 |9,2,_,_=>⟨rfl,rfl⟩
theorem wS_size:∀i f,i<10->f<3->(wS i f).size<=10/\(wS1 i f).size<=10
 |0,0,_,_=>by decide
 |0,1,_,_=>by decide
 |0,2,_,_=>by decide
 |1,0,_,_=>by decide
 |1,1,_,_=>by decide
 |1,2,_,_=>by decide
 |2,0,_,_=>by decide
 |2,1,_,_=>by decide
 |2,2,_,_=>by decide
 |3,0,_,_=>by decide
 |3,1,_,_=>by decide
 |3,2,_,_=>by decide
 |4,0,_,_=>by decide
 |4,1,_,_=>by decide
 |4,2,_,_=>by decide
 |5,0,_,_=>by decide
 |5,1,_,_=>by decide
 |5,2,_,_=>by decide
 |6,0,_,_=>by decide
 |6,1,_,_=>by decide
 |6,2,_,_=>by decide
 |7,0,_,_=>by decide
 |7,1,_,_=>by decide
 |7,2,_,_=>by decide
 |8,0,_,_=>by decide
 |8,1,_,_=>by decide
 |8,2,_,_=>by decide
 |9,0,_,_=>by decide
 |9,1,_,_=>by decide
 |9,2,_,_=>by decide
theorem cutA (i f:Nat) (hi:i<10) (hf:f<3) (w:World):Calls Tryz.prog 150 #[.string (wS i f),.string ⟨#[42]⟩] w fun e w'=>e= .returned (.tuple #[.string (wS1 i f),.bool (f==1)])/\w'=w:=by
 refine(Tryz.strings_CutSuffix (wS i f) ⟨#[42]⟩ w (by have:=(wS_size i f hi hf).1;omega)).mono ?_
 rintro e w' ⟨rfl,rfl⟩
 obtain⟨h1,h2⟩:=cut1 i f hi hf
 refine⟨?_,rfl⟩
 rw[<-h1,<-h2]
theorem cutB (i f:Nat) (hi:i<10) (hf:f<3) (w:World):Calls Tryz.prog 150 #[.string (wS1 i f),.string ⟨#[63]⟩] w fun e w'=>e= .returned (.tuple #[.string (wB i),.bool (f==2)])/\w'=w:=by
 refine(Tryz.strings_CutSuffix (wS1 i f) ⟨#[63]⟩ w (by have:=(wS_size i f hi hf).2;omega)).mono ?_
 rintro e w' ⟨rfl,rfl⟩
 obtain⟨h1,h2⟩:=cut2 i f hi hf
 refine⟨?_,rfl⟩
 rw[<-h1,<-h2]
def KidsAt (W:World) (v:Value) (ks:List Int):Prop:=
 (ks=[]/\∃a c,v= .slice a 0 c)\/∃a c,v= .slice (some a) ks.length c/\ks.length<=c/\∀j k,ks[j]?=some k->∃b,W.cell? (a.add j)=some (nodeV k b)/\W.cell? ⟨b,0,none⟩=some (.int .i64 k)
theorem KidsAt.below {W W':World}{v:Value}{ks:List Int}(h:KidsAt W v ks) (hb:Below W.heap.size W W'):KidsAt W' v ks:=by
 rcases h with h|⟨a,c,h1,h2,h3⟩
 ·exact .inl h
 ·exact .inr ⟨a,c,h1,h2,fun j k hk=>by obtain⟨b,g1,g2⟩:=h3 j k hk;exact⟨b,cell_kept hb g1,cell_kept hb g2⟩⟩
theorem KidsAt.form {W:World}{v:Value}{ks:List Int}(h:KidsAt W v ks):∃a c,v= .slice a ks.length c:=by
 rcases h with⟨rfl,a,c,h⟩|⟨a,c,h1,h2⟩
 ·exact⟨a,c,h⟩
 ·exact⟨_,_,h1⟩
theorem KidsAt.get {W:World}{a:Option Addr}{n c:Nat}{ks:List Int}(h:KidsAt W (.slice a n c) ks) {j:Nat}{k:Int}(hk:ks[j]?=some k):∃a' b,a=some a'/\W.cell? (a'.add j)=some (nodeV k b)/\W.cell? ⟨b,0,none⟩=some (.int .i64 k):=by
 rcases h with⟨rfl,_⟩|⟨a',c',e,_,hc⟩
 ·simp at hk
 ·cases e;obtain⟨b,g1,g2⟩:=hc j k hk;exact⟨a',b,rfl,g1,g2⟩
def tkN (i f:Nat) (ks:List Int):Nat:=if f=1 then(ks.takeWhile (ms i)).length else min 1 (ks.takeWhile (ms i)).length
def kmatch:List (Nat×Nat)->List Int->Bool
 |[],ks=>ks.isEmpty
 |(i,f)::ws,ks=>if tkN i f ks=0/\f=0 then false else kmatch ws (ks.drop (tkN i f ks))
structure KmIs (ws:List (Nat×Nat)) (ks:List Int) (R:Bool):Prop where
 out:kmatch ws ks=R
theorem tw_at (p:Int->Bool):∀(ks:List Int) (t:Nat),t<=(ks.takeWhile p).length->(t<(ks.takeWhile p).length↔∃k,ks[t]?=some k/\p k=true)
 |[],t,h=>by simp at h;subst h;simp
 |a::r,t,h=>by
  cases hp:p a with
  |false=>
   rw[List.takeWhile_cons_of_neg (by simp[hp])]at h⊢
   simp at h;subst h
   simp[hp]
  |true=>
   rw[List.takeWhile_cons_of_pos (by simp[hp])]at h⊢
   cases t with
   |zero=>simp[hp]
   |succ t=>
    simp only[List.length_cons]at h⊢
    have ih:=tw_at p r t (by omega)
    rw[show(t+1<(r.takeWhile p).length+1)↔t<(r.takeWhile p).length by omega,ih]
    simp
theorem tw_le (p:Int->Bool) (ks:List Int):(ks.takeWhile p).length<=ks.length:=(List.takeWhile_sublist p).length_le
theorem tkN_le (i f:Nat) (ks:List Int):tkN i f ks<=ks.length:=by
 have:=tw_le (ms i) ks
 unfold tkN
 split<;>omega
theorem tkN_at (i f:Nat) (ks:List Int) (t:Nat) (h:t<=tkN i f ks):t<tkN i f ks↔(f=1\/t=0)/\∃k,ks[t]?=some k/\ms i k=true:=by
 unfold tkN at h⊢
 by_cases hf:f=1
 ·rw[if_pos hf]at h⊢
  rw[tw_at _ ks t h]
  simp[hf]
 ·rw[if_neg hf]at h⊢
  by_cases ht:t=0
  ·subst ht
   have:=tw_at (ms i) ks 0 (Nat.zero_le _)
   rw[show(0<min 1 (ks.takeWhile (ms i)).length)↔0<(ks.takeWhile (ms i)).length by omega,this]
   simp
  ·constructor
   ·intro h2;omega
   ·rintro ⟨h2|h2,_⟩
    ·exact absurd h2 hf
    ·exact absurd h2 ht
theorem kmatch_next {i f:Nat}{ws:List (Nat×Nat)}{ks:List Int}{R:Bool}(h:KmIs ((i,f)::ws) ks R) (hn:¬(tkN i f ks=0/\f=0)):KmIs ws (ks.drop (tkN i f ks)) R:=by
 have:=h.out
 rw[kmatch,if_neg hn]at this
 exact⟨this⟩
theorem kmatch_stop {i f:Nat}{ws:List (Nat×Nat)}{ks:List Int}{R:Bool}(h:KmIs ((i,f)::ws) ks R) (hn:tkN i f ks=0/\f=0):R=false:=by
 have:=h.out
 rw[kmatch,if_pos hn]at this
 exact this.symm
theorem drop_cons {α:Type}{L:List α}{k:Nat}{x:α}(h:L[k]?=some x):L.drop k=x::L.drop (k+1):=by
 have hk:=(List.getElem?_eq_some_iff.1 h)
 rw[List.drop_eq_getElem_cons hk.1,hk.2]
theorem KidsAt.sl {W:World}{a:Option Addr}{L c t:Nat}{ks:List Int}(h:KidsAt W (.slice a L c) ks) (hL:ks.length=L) (ht:t<=L):KidsAt W (.slice (if c=t then a else Option.map (fun x=>x.add t) a) (L-t) (c-t)) (ks.drop t):=by
 subst hL
 rcases h with⟨rfl,a',c',e⟩|⟨a',c',e,hc,hall⟩
 ·exact .inl ⟨by simp,_,_,by rw[show([]:List Int).length-t=0 by simp]⟩
 ·cases e
  by_cases hcl:t=ks.length
  ·exact .inl ⟨by rw[List.drop_of_length_le (by omega)],_,_,by rw[show ks.length-t=0 by omega]⟩
  ·refine .inr ⟨a'.add t,c-t,?_,by rw[List.length_drop];omega,fun j k hk=>?_⟩
   ·rw[if_neg (by omega),List.length_drop];rfl
   ·rw[List.getElem?_drop]at hk
    rw[Addr.add_add]
    exact hall (t+j) k hk
theorem kidsMatch_any (w:World) (row:ByteArray) (ws:List (Nat×Nat)) (v:Value) (ks:List Int) (hrow:Lib.fields row.data.toList=ws.map fun x=>wordL x.1 x.2) (hws:∀x∈ws,x.1<10/\x.2<3) (hsz:row.size<4294967281) (hascii:∀(j:Nat) b,row.data.toList[j]?=some b->b.toNat<128) (htab:Lib.TabIs Tryz.prog w "strings.asciiSpace" .u8 Lib.asciiSpaceTab) (hk:KidsAt w v ks) (hl:ks.length<=1048576) (hwl:ws.length<=1048576):
  Calls Tryz.prog 127 #[.string row,v] w fun e w'=>e= .returned (.bool (kmatch ws ks))/\Below w.heap.size w w':=by
 have kf:=Tryz.strings_Fields row w hsz hascii htab
 rw[hrow]at kf
 obtain⟨R,hR⟩:∃R,kmatch ws ks=R:=⟨_,rfl⟩
 rw[hR]
 have HR:KmIs ws ks R:=⟨hR⟩
 have hB:Below w.heap.size w (w.alloc (.cells ((ws.map fun x=>wordL x.1 x.2).map fun l=>Value.string ⟨l.toArray⟩).toArray 9)):=(Below.refl _ w).alloc (Nat.le_refl _) _
 have hK1:=hk.below hB
 have hC:∀m i f,ws[m]?=some (i,f)->(w.alloc (.cells ((ws.map fun x=>wordL x.1 x.2).map fun l=>Value.string ⟨l.toArray⟩).toArray 9)).cell? ⟨w.heap.size,m,none⟩=some (.string (wS i f)):=fun m i f hm=>by
  rw[cell_of_row _ _ _ _ _ _ (heap_alloc_new w _)]
  simp[hm,wS]
 obtain⟨n,hn⟩:∃n,ws.length=n:=⟨_,rfl⟩
 have HN:Hid (ws.length=n):=hn
 have HW:Hid (∀x∈ws,x.1<10/\x.2<3):=hws
 have hlen:(ws.map fun x=>wordL x.1 x.2).length=n:=by rw[List.length_map,hn]
 rw[hlen]at kf
 rw[hn]at hwl
 obtain⟨a0,c0,rfl⟩:=hk.form
 have HL:Hid (ks.length<=1048576):=hl
 clear hR hrow hws hsz hascii htab hk hn hlen hl
 generalize w.alloc (.cells ((ws.map fun x=>wordL x.1 x.2).map fun l=>Value.string ⟨l.toArray⟩).toArray 9)=W1 at kf hB hK1 hC
 have HC:Hid (∀m i f,ws[m]?=some (i,f)->W1.cell? ⟨w.heap.size,m,none⟩=some (.string (wS i f))):=hC
 have HK1:Hid (KidsAt W1 (.slice a0 ks.length c0) ks):=hK1
 clear hC hK1
 generalize hlk:ks.length=lk at HK1⊢
 go_enter Tryz.func127,Tryz.ntmps127
 go_wp2_with (go_at_call 149;fail)
 refine kf.mono ?_
 rintro e w2 ⟨rfl,rfl⟩
 clear kf
 go_wp2_with fail
 go_loop [1,14] (fun v1 vi=>∃(m:Nat) (ks':List Int),m<=n/\vi= .int .i64 m/\Hid (KidsAt w2 v1 ks'/\ks'.length<=1048576)/\KmIs (ws.drop m) ks' R) (fun _ vi=>n-(intOf vi).toNat)
 case atStart=>exact⟨0,ks,Nat.zero_le _,rfl,⟨HK1.out,HL.out⟩,HR⟩
 case round=>
  obtain⟨m,ks',hm,rfl,HK,HM⟩:=hrel
  clear HR HK1
  obtain⟨a1,c1,rfl⟩:=HK.out.1.form
  by_cases hlt:m<n
  ·have hki:(m:Int)<(n:Int):=by omega
   have hk0:(0:Int)<=(m:Int):=by omega
   obtain⟨⟨i,f⟩,hwm⟩:=some_at HN.out hlt
   obtain⟨hi,hf⟩:=HW.out _ (List.mem_of_getElem? hwm)
   simp only at hi hf
   have hcm:=HC.out m i f hwm
   have HMM:Hid (KmIs ((i,f)::ws.drop (m+1)) ks' R):=by rw[drop_cons hwm]at HM;exact HM
   have kA:=fun w=>cutA i f hi hf w
   have kB:=fun w=>cutB i f hi hf w
   have kM:=fun k w=>mayStand_any i hi k w
   obtain⟨L,hL⟩:∃L,ks'.length=L:=⟨_,rfl⟩
   have HLL:Hid (ks'.length=L):=hL
   have hL2:=HK.out.2
   rw[hL]at hL2
   have HKK:Hid (KidsAt w2 (.slice a1 L c1) ks'):=by rw[<-hL];exact HK.out.1
   rw[hL]
   have htle:=tkN_le i f ks'
   have htat:=tkN_at i f ks'
   obtain⟨T,hT⟩:∃T,tkN i f ks'=T:=⟨_,rfl⟩
   rw[hT]at htle htat
   rw[hL]at htle
   have HT:Hid (tkN i f ks'=T):=hT
   have HTA:Hid (∀t,t<=T->(t<T↔(f=1\/t=0)/\∃k,ks'[t]?=some k/\ms i k=true)):=htat
   clear hwm HM HK hL hT htat
   generalize wS i f=S0 at hcm kA
   generalize wS1 i f=S1 at kA kB
   generalize wB i=S2 at kB kM
   rcases(show f=0\/f=1\/f=2 by omega) with rfl|rfl|rfl
   ·go_wp2_with (go_at_call 150;fail)
    refine(kA _).mono ?_
    rintro e w3 ⟨rfl,rfl⟩
    go_wp2_with (go_at_call 150;fail)
    refine(kB _).mono ?_
    rintro e w3 ⟨rfl,rfl⟩
    clear kA kB hcm
    go_wp2_with fail
    go_loop [10] (fun vt=>∃t:Nat,vt= .int .i64 t/\t<=T) (fun vt=>T-(intOf vt).toNat)
    case atStart=>exact⟨0,rfl,Nat.zero_le _⟩
    case round=>
     obtain⟨t,rfl,ht⟩:=hrel
     have hta:=HTA.out t ht
     have ht0:(0:Int)<=(t:Int):=by omega
     by_cases hgo:t<T
     ·obtain⟨hft,k,hkt,hmk⟩:=hta.1 hgo
      obtain⟨a',b,rfl,e1,e2⟩:=HKK.out.get hkt
      have htl:(t:Int)<(L:Int):=by omega
      obtain rfl:t=0:=by rcases hft with h|h;exact absurd h (by decide);exact h
      rw[show a'.add 0=a' from by unfold Addr.add;rw[if_pos rfl]]at e1
      have kM2:=fun w=>kM k w
      rw[hmk]at kM2
      have hmt:=fun w=>methK k b w
      have kh:=fun w=>head_any b w
      unfold nodeV at e1
      generalize ptT (cls k)=tp at e1 hmt
      clear hkt hmk kM hta
      go_wp2_with (first|(go_at_call 151;refine(kM2 _).mono ?_;rintro e w3 ⟨rfl,rfl⟩)|(go_at_call 233;refine(kh _).mono ?_;rintro e w3 ⟨rfl,rfl⟩))
      go_round
      case rel=>exact⟨0+1,by go_num,by omega⟩
      case measure=>simp[intOf];omega
     ·obtain rfl:t=T:=by omega
      by_cases h0:t=0
      ·subst h0
       by_cases htl:0<L
       ·have htli:(0:Int)<(L:Int):=by omega
        obtain⟨k,hkt⟩:=some_at HLL.out htl
        have hmk:ms i k=false:=by
         cases h:ms i k
         ·rfl
         ·exact absurd (hta.2 ⟨.inr rfl,k,hkt,h⟩) (by omega)
        obtain⟨a',b,e0,e1,e2⟩:=HKK.out.get hkt
        subst e0
        rw[show a'.add 0=a' from by unfold Addr.add;rw[if_pos rfl]]at e1
        have kM2:=fun w=>kM k w
        rw[hmk]at kM2
        have hmt:=fun w=>methK k b w
        have kh:=fun w=>head_any b w
        unfold nodeV at e1
        generalize ptT (cls k)=tp at e1 hmt
        clear hkt hmk kM hta
        go_wp2_with (first|(go_at_call 151;refine(kM2 _).mono ?_;rintro e w4 ⟨rfl,rfl⟩)|(go_at_call 233;refine(kh _).mono ?_;rintro e w4 ⟨rfl,rfl⟩))
        go_ret
        exact⟨by rw[kmatch_stop HMM.out ⟨HT.out,rfl⟩];rfl,hB⟩
       ·have htli:¬(0:Int)<(L:Int):=by omega
        clear hta kM
        go_wp2_with fail
        go_ret
        exact⟨by rw[kmatch_stop HMM.out ⟨HT.out,rfl⟩];rfl,hB⟩
      ·have HNX:Hid (KmIs (ws.drop (m+1)) (ks'.drop t) R):=by
        have h:=kmatch_next HMM.out (by rw[HT.out];omega)
        rw[HT.out]at h
        exact h
       have HKD:Hid (KidsAt w3 (.slice (if c1=t then a1 else Option.map (fun x=>x.add t) a1) (L-t) (c1-t)) (ks'.drop t)/\(ks'.drop t).length<=1048576):=⟨HKK.out.sl HLL.out (by omega),by rw[List.length_drop,HLL.out];omega⟩
       have hti0:¬(t:Int)=0:=by omega
       by_cases htl:t<L
       ·have htli:(t:Int)<(L:Int):=by omega
        clear hta kM
        go_wp2_with fail
        exact⟨⟨m+1,ks'.drop t,by omega,by go_num,HKD.out,HNX.out⟩,by simp[intOf];omega⟩
       ·have htli:¬(t:Int)<(L:Int):=by omega
        clear hta kM
        go_wp2_with fail
        exact⟨⟨m+1,ks'.drop t,by omega,by go_num,HKD.out,HNX.out⟩,by simp[intOf];omega⟩
   ·go_wp2_with (go_at_call 150;fail)
    refine(kA _).mono ?_
    rintro e w3 ⟨rfl,rfl⟩
    go_wp2_with (go_at_call 150;fail)
    refine(kB _).mono ?_
    rintro e w3 ⟨rfl,rfl⟩
    clear kA kB hcm
    go_wp2_with fail
    go_loop [10] (fun vt=>∃t:Nat,vt= .int .i64 t/\t<=T) (fun vt=>T-(intOf vt).toNat)
    case atStart=>exact⟨0,rfl,Nat.zero_le _⟩
    case round=>
     obtain⟨t,rfl,ht⟩:=hrel
     have hta:=HTA.out t ht
     have ht0:(0:Int)<=(t:Int):=by omega
     by_cases hgo:t<T
     ·obtain⟨hft,k,hkt,hmk⟩:=hta.1 hgo
      obtain⟨a',b,rfl,e1,e2⟩:=HKK.out.get hkt
      have htl:(t:Int)<(L:Int):=by omega
      have kM2:=fun w=>kM k w
      rw[hmk]at kM2
      have hmt:=fun w=>methK k b w
      have kh:=fun w=>head_any b w
      unfold nodeV at e1
      generalize ptT (cls k)=tp at e1 hmt
      clear hkt hmk kM hta
      go_wp2_with (first|(go_at_call 151;refine(kM2 _).mono ?_;rintro e w3 ⟨rfl,rfl⟩)|(go_at_call 233;refine(kh _).mono ?_;rintro e w3 ⟨rfl,rfl⟩))
      go_round
      case rel=>exact⟨t+1,by go_num,by omega⟩
      case measure=>simp[intOf];omega
     ·obtain rfl:t=T:=by omega
      by_cases h0:t=0
      ·subst h0
       have HNX:Hid (KmIs (ws.drop (m+1)) ks' R):=by
        have h:=kmatch_next HMM.out (by rw[HT.out];omega)
        rw[HT.out,List.drop_zero]at h
        exact h
       have HKD:Hid (KidsAt w3 (.slice a1 L c1) ks'/\ks'.length<=1048576):=⟨HKK.out,by rw[HLL.out];exact hL2⟩
       by_cases htl:0<L
       ·have htli:(0:Int)<(L:Int):=by omega
        obtain⟨k,hkt⟩:=some_at HLL.out htl
        have hmk:ms i k=false:=by
         cases h:ms i k
         ·rfl
         ·exact absurd (hta.2 ⟨.inl (by first|rfl|trivial),k,hkt,h⟩) (by omega)
        obtain⟨a',b,e0,e1,e2⟩:=HKK.out.get hkt
        subst e0
        rw[show a'.add 0=a' from by unfold Addr.add;rw[if_pos rfl]]at e1
        have kM2:=fun w=>kM k w
        rw[hmk]at kM2
        have hmt:=fun w=>methK k b w
        have kh:=fun w=>head_any b w
        unfold nodeV at e1
        generalize ptT (cls k)=tp at e1 hmt
        clear hkt hmk kM hta
        go_wp2_with (first|(go_at_call 151;refine(kM2 _).mono ?_;rintro e w4 ⟨rfl,rfl⟩)|(go_at_call 233;refine(kh _).mono ?_;rintro e w4 ⟨rfl,rfl⟩))
        exact⟨⟨m+1,ks',by omega,by go_num,HKD.out,HNX.out⟩,by simp[intOf];omega⟩
       ·have htli:¬(0:Int)<(L:Int):=by omega
        clear hta kM
        go_wp2_with fail
        exact⟨⟨m+1,ks',by omega,by go_num,HKD.out,HNX.out⟩,by simp[intOf];omega⟩
      ·have HNX:Hid (KmIs (ws.drop (m+1)) (ks'.drop t) R):=by
        have h:=kmatch_next HMM.out (by rw[HT.out];omega)
        rw[HT.out]at h
        exact h
       have HKD:Hid (KidsAt w3 (.slice (if c1=t then a1 else Option.map (fun x=>x.add t) a1) (L-t) (c1-t)) (ks'.drop t)/\(ks'.drop t).length<=1048576):=⟨HKK.out.sl HLL.out (by omega),by rw[List.length_drop,HLL.out];omega⟩
       have hti0:¬(t:Int)=0:=by omega
       by_cases htl:t<L
       ·have htli:(t:Int)<(L:Int):=by omega
        obtain⟨k,hkt⟩:=some_at HLL.out htl
        have hmk:ms i k=false:=by
         cases h:ms i k
         ·rfl
         ·exact absurd (hta.2 ⟨.inl (by first|rfl|trivial),k,hkt,h⟩) (by omega)
        obtain⟨a',b,e0,e1,e2⟩:=HKK.out.get hkt
        subst e0
        have kM2:=fun w=>kM k w
        rw[hmk]at kM2
        have hmt:=fun w=>methK k b w
        have kh:=fun w=>head_any b w
        unfold nodeV at e1
        generalize ptT (cls k)=tp at e1 hmt
        clear hkt hmk kM hta
        go_wp2_with (first|(go_at_call 151;refine(kM2 _).mono ?_;rintro e w4 ⟨rfl,rfl⟩)|(go_at_call 233;refine(kh _).mono ?_;rintro e w4 ⟨rfl,rfl⟩))
        exact⟨⟨m+1,ks'.drop t,by omega,by go_num,HKD.out,HNX.out⟩,by simp[intOf];omega⟩
       ·have htli:¬(t:Int)<(L:Int):=by omega
        clear hta kM
        go_wp2_with fail
        exact⟨⟨m+1,ks'.drop t,by omega,by go_num,HKD.out,HNX.out⟩,by simp[intOf];omega⟩
   ·go_wp2_with (go_at_call 150;fail)
    refine(kA _).mono ?_
    rintro e w3 ⟨rfl,rfl⟩
    go_wp2_with (go_at_call 150;fail)
    refine(kB _).mono ?_
    rintro e w3 ⟨rfl,rfl⟩
    clear kA kB hcm
    go_wp2_with fail
    go_loop [10] (fun vt=>∃t:Nat,vt= .int .i64 t/\t<=T) (fun vt=>T-(intOf vt).toNat)
    case atStart=>exact⟨0,rfl,Nat.zero_le _⟩
    case round=>
     obtain⟨t,rfl,ht⟩:=hrel
     have hta:=HTA.out t ht
     have ht0:(0:Int)<=(t:Int):=by omega
     by_cases hgo:t<T
     ·obtain⟨hft,k,hkt,hmk⟩:=hta.1 hgo
      obtain⟨a',b,rfl,e1,e2⟩:=HKK.out.get hkt
      have htl:(t:Int)<(L:Int):=by omega
      obtain rfl:t=0:=by rcases hft with h|h;exact absurd h (by decide);exact h
      rw[show a'.add 0=a' from by unfold Addr.add;rw[if_pos rfl]]at e1
      have kM2:=fun w=>kM k w
      rw[hmk]at kM2
      have hmt:=fun w=>methK k b w
      have kh:=fun w=>head_any b w
      unfold nodeV at e1
      generalize ptT (cls k)=tp at e1 hmt
      clear hkt hmk kM hta
      go_wp2_with (first|(go_at_call 151;refine(kM2 _).mono ?_;rintro e w3 ⟨rfl,rfl⟩)|(go_at_call 233;refine(kh _).mono ?_;rintro e w3 ⟨rfl,rfl⟩))
      go_round
      case rel=>exact⟨0+1,by go_num,by omega⟩
      case measure=>simp[intOf];omega
     ·obtain rfl:t=T:=by omega
      by_cases h0:t=0
      ·subst h0
       have HNX:Hid (KmIs (ws.drop (m+1)) ks' R):=by
        have h:=kmatch_next HMM.out (by rw[HT.out];omega)
        rw[HT.out,List.drop_zero]at h
        exact h
       have HKD:Hid (KidsAt w3 (.slice a1 L c1) ks'/\ks'.length<=1048576):=⟨HKK.out,by rw[HLL.out];exact hL2⟩
       by_cases htl:0<L
       ·have htli:(0:Int)<(L:Int):=by omega
        obtain⟨k,hkt⟩:=some_at HLL.out htl
        have hmk:ms i k=false:=by
         cases h:ms i k
         ·rfl
         ·exact absurd (hta.2 ⟨.inr rfl,k,hkt,h⟩) (by omega)
        obtain⟨a',b,e0,e1,e2⟩:=HKK.out.get hkt
        subst e0
        rw[show a'.add 0=a' from by unfold Addr.add;rw[if_pos rfl]]at e1
        have kM2:=fun w=>kM k w
        rw[hmk]at kM2
        have hmt:=fun w=>methK k b w
        have kh:=fun w=>head_any b w
        unfold nodeV at e1
        generalize ptT (cls k)=tp at e1 hmt
        clear hkt hmk kM hta
        go_wp2_with (first|(go_at_call 151;refine(kM2 _).mono ?_;rintro e w4 ⟨rfl,rfl⟩)|(go_at_call 233;refine(kh _).mono ?_;rintro e w4 ⟨rfl,rfl⟩))
        exact⟨⟨m+1,ks',by omega,by go_num,HKD.out,HNX.out⟩,by simp[intOf];omega⟩
       ·have htli:¬(0:Int)<(L:Int):=by omega
        clear hta kM
        go_wp2_with fail
        exact⟨⟨m+1,ks',by omega,by go_num,HKD.out,HNX.out⟩,by simp[intOf];omega⟩
      ·have HNX:Hid (KmIs (ws.drop (m+1)) (ks'.drop t) R):=by
        have h:=kmatch_next HMM.out (by rw[HT.out];omega)
        rw[HT.out]at h
        exact h
       have HKD:Hid (KidsAt w3 (.slice (if c1=t then a1 else Option.map (fun x=>x.add t) a1) (L-t) (c1-t)) (ks'.drop t)/\(ks'.drop t).length<=1048576):=⟨HKK.out.sl HLL.out (by omega),by rw[List.length_drop,HLL.out];omega⟩
       have hti0:¬(t:Int)=0:=by omega
       by_cases htl:t<L
       ·have htli:(t:Int)<(L:Int):=by omega
        clear hta kM
        go_wp2_with fail
        exact⟨⟨m+1,ks'.drop t,by omega,by go_num,HKD.out,HNX.out⟩,by simp[intOf];omega⟩
       ·have htli:¬(t:Int)<(L:Int):=by omega
        clear hta kM
        go_wp2_with fail
        exact⟨⟨m+1,ks'.drop t,by omega,by go_num,HKD.out,HNX.out⟩,by simp[intOf];omega⟩
  ·obtain rfl:m=n:=by omega
   have hfin:=HM.out
   rw[List.drop_of_length_le (by rw[HN.out];exact Nat.le_refl _),kmatch]at hfin
   have hlz:((ks'.length:Int)==0)=R:=by
    rw[<-hfin]
    cases ks' with
    |nil=>rfl
    |cons x r=>simp;omega
   have HZ:Hid (((ks'.length:Int)==0)=R):=hlz
   clear hlz hfin HM
   generalize ks'.length=L at HZ⊢
   go_wp2_with fail
   go_ret
   exact⟨by rw[<-HZ.out];rfl,hB⟩
end Go.Proofs.YtelfejiiabbpfaaGreatDoor
