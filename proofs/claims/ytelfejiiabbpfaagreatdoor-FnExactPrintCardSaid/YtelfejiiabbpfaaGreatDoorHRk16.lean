import Derived.Test.YtelfejiiabbpfaaGreatDoorHRk14
import Derived.Test.YtelfejiiabbpfaaGreatDoorHRk06
import Derived.Test.YtelfejiiabbpfaaGreatDoorHRk15
import Derived.Test.YtelfejiiabbpfaaGreatDoorHRk13
set_option linter.unusedVariables false
set_option maxRecDepth 100000
set_option maxHeartbeats 6400000
namespace Go.Proofs.YtelfejiiabbpfaaGreatDoor
open Go.RowKit
def rowB:Int->ByteArray
 |1=>⟨#[115,116,97,116,42]⟩
 |2=>⟨#[101,120,112,114,42]⟩
 |3=>⟨#[101,120,112,114]⟩
 |4=>⟨#[102,110]⟩
 |6=>⟨#[99,97,108,108]⟩
 |7=>⟨#[101,120,112,114,32,98,108,111,99,107,32,101,108,115,101,63]⟩
 |8=>⟨#[101,120,112,114,32,98,108,111,99,107]⟩
 |9=>⟨#[101,120,112,114,32,101,120,112,114,32,101,120,112,114,63,32,98,108,111,99,107]⟩
 |10=>⟨#[101,120,112,114,32,98,108,111,99,107]⟩
 |11=>⟨#[]⟩
 |12=>⟨#[]⟩
 |13=>⟨#[101,120,112,114,42]⟩
 |14=>⟨#[98,108,111,99,107,32,98,108,111,99,107]⟩
 |15=>⟨#[101,120,112,114]⟩
 |16=>⟨#[99,97,108,108]⟩
 |20=>⟨#[]⟩
 |21=>⟨#[]⟩
 |22=>⟨#[]⟩
 |23=>⟨#[]⟩
 |24=>⟨#[]⟩
 |25=>⟨#[]⟩
 |26=>⟨#[]⟩
 |27=>⟨#[]⟩
 |28=>⟨#[101,120,112,114,32,101,120,112,114]⟩
 |29=>⟨#[101,120,112,114,32,101,120,112,114]⟩
 |30=>⟨#[101,120,112,114]⟩
 |31=>⟨#[101,120,112,114,32,101,120,112,114]⟩
 |32=>⟨#[98,97,115,101,32,101,120,112,114]⟩
 |33=>⟨#[98,97,115,101]⟩
 |34=>⟨#[98,97,115,101,32,101,120,112,114,42]⟩
 |35=>⟨#[101,110,116,114,121,42]⟩
 |36=>⟨#[98,108,111,99,107]⟩
 |37=>⟨#[109,97,110,121]⟩
 |40=>⟨#[101,120,112,114]⟩
 |41=>⟨#[101,120,112,114,32,101,120,112,114]⟩
 |42=>⟨#[101,120,112,114]⟩
 |_=>⟨#[]⟩
def rowW:Int->Option (List (Nat×Nat))
 |1=>some [(0,1)]
 |2=>some [(3,1)]
 |3=>some [(3,0)]
 |4=>some [(8,0)]
 |6=>some [(6,0)]
 |7=>some [(3,0),(1,0),(2,2)]
 |8=>some [(3,0),(1,0)]
 |9=>some [(3,0),(3,0),(3,2),(1,0)]
 |10=>some [(3,0),(1,0)]
 |11=>some []
 |12=>some []
 |13=>some [(3,1)]
 |14=>some [(1,0),(1,0)]
 |15=>some [(3,0)]
 |16=>some [(6,0)]
 |20=>some []
 |21=>some []
 |22=>some []
 |23=>some []
 |24=>some []
 |25=>some []
 |26=>some []
 |27=>some []
 |28=>some [(3,0),(3,0)]
 |29=>some [(3,0),(3,0)]
 |30=>some [(3,0)]
 |31=>some [(3,0),(3,0)]
 |32=>some [(4,0),(3,0)]
 |33=>some [(4,0)]
 |34=>some [(4,0),(3,1)]
 |35=>some [(9,1)]
 |36=>some [(1,0)]
 |37=>some [(7,0)]
 |40=>some [(3,0)]
 |41=>some [(3,0),(3,0)]
 |42=>some [(3,0)]
 |_=>none
def knownL:List Int:=[1,2,3,4,6,7,8,9,10,11,12,13,14,15,16,20,21,22,23,24,25,26,27,28,29,30,31,32,33,34,35,36,37,40,41,42]
theorem rowW_no (k:Int) (h:k ∉ knownL):rowW k=none/\rowB k=⟨#[]⟩:=by
 simp only[knownL,List.mem_cons,List.not_mem_nil,or_false,not_or]at h
 obtain⟨n1,n2,n3,n4,n6,n7,n8,n9,n10,n11,n12,n13,n14,n15,n16,n20,n21,n22,n23,n24,n25,n26,n27,n28,n29,n30,n31,n32,n33,n34,n35,n36,n37,n40,n41,n42⟩:=h
 constructor
 ·unfold rowW;split<;>first|rfl|contradiction
 ·unfold rowB;split<;>first|rfl|contradiction
theorem rowW_yes (k:Int) (h:k∈knownL):∃ws,rowW k=some ws/\Lib.fields (rowB k).data.toList=ws.map (fun x=>wordL x.1 x.2)/\(∀x∈ws,x.1<10/\x.2<3)/\(rowB k).size<100/\(∀(j:Nat) b,(rowB k).data.toList[j]?=some b->b.toNat<128)/\ws.length<10:=by
 have hall:∀(l:List UInt8),(l.all fun b=>decide (b.toNat<128))=true->∀(j:Nat) b,l[j]?=some b->b.toNat<128:=fun l hl j b hb=>by simpa using List.all_eq_true.1 hl b (List.mem_of_getElem? hb)
 simp only[knownL,List.mem_cons,List.not_mem_nil,or_false]at h
 rcases h with rfl|rfl|rfl|rfl|rfl|rfl|rfl|rfl|rfl|rfl|rfl|rfl|rfl|rfl|rfl|rfl|rfl|rfl|rfl|rfl|rfl|rfl|rfl|rfl|rfl|rfl|rfl|rfl|rfl|rfl|rfl|rfl|rfl|rfl|rfl|rfl
 all_goals exact⟨_,rfl,rfl,by decide,by decide,hall _ (by decide),by decide⟩
theorem kidsRow0 (k:Int) (w:World) (h:k=1\/k=2\/k=3\/k=4\/k=6\/k=7\/k=8\/k=9\/k=10):Calls Tryz.prog 128 #[.int .i64 k] w fun e w'=>e= .returned (.tuple #[.string (rowB k),.bool true])/\w'=w:=by
 rcases h with rfl|rfl|rfl|rfl|rfl|rfl|rfl|rfl|rfl
 all_goals
  simp only[rowB]
  go_enter Tryz.func128,Tryz.ntmps128
  go_wp2
  go_ret2
  exact⟨rfl,rfl⟩
theorem kidsRow1 (k:Int) (w:World) (h:k=11\/k=12\/k=13\/k=14\/k=15\/k=16\/k=20\/k=21\/k=22):Calls Tryz.prog 128 #[.int .i64 k] w fun e w'=>e= .returned (.tuple #[.string (rowB k),.bool true])/\w'=w:=by
 rcases h with rfl|rfl|rfl|rfl|rfl|rfl|rfl|rfl|rfl
 all_goals
  simp only[rowB]
  go_enter Tryz.func128,Tryz.ntmps128
  go_wp2
  go_ret2
  exact⟨rfl,rfl⟩
theorem kidsRow2 (k:Int) (w:World) (h:k=23\/k=24\/k=25\/k=26\/k=27\/k=28\/k=29\/k=30\/k=31):Calls Tryz.prog 128 #[.int .i64 k] w fun e w'=>e= .returned (.tuple #[.string (rowB k),.bool true])/\w'=w:=by
 rcases h with rfl|rfl|rfl|rfl|rfl|rfl|rfl|rfl|rfl
 all_goals
  simp only[rowB]
  go_enter Tryz.func128,Tryz.ntmps128
  go_wp2
  go_ret2
  exact⟨rfl,rfl⟩
theorem kidsRow3 (k:Int) (w:World) (h:k=32\/k=33\/k=34\/k=35\/k=36\/k=37\/k=40\/k=41\/k=42):Calls Tryz.prog 128 #[.int .i64 k] w fun e w'=>e= .returned (.tuple #[.string (rowB k),.bool true])/\w'=w:=by
 rcases h with rfl|rfl|rfl|rfl|rfl|rfl|rfl|rfl|rfl
 all_goals
  simp only[rowB]
  go_enter Tryz.func128,Tryz.ntmps128
  go_wp2
  go_ret2
  exact⟨rfl,rfl⟩
theorem kidsRowNo (k:Int) (w:World) (h:k ∉ knownL):Calls Tryz.prog 128 #[.int .i64 k] w fun e w'=>e= .returned (.tuple #[.string ⟨#[]⟩,.bool false])/\w'=w:=by
 simp only[knownL,List.mem_cons,List.not_mem_nil,or_false,not_or]at h
 obtain⟨n1,n2,n3,n4,n6,n7,n8,n9,n10,n11,n12,n13,n14,n15,n16,n20,n21,n22,n23,n24,n25,n26,n27,n28,n29,n30,n31,n32,n33,n34,n35,n36,n37,n40,n41,n42⟩:=h
 go_enter Tryz.func128,Tryz.ntmps128
 go_wp2
 go_ret2
 exact⟨rfl,rfl⟩
theorem kidsRow_any (k:Int) (w:World):Calls Tryz.prog 128 #[.int .i64 k] w fun e w'=>e= .returned (.tuple #[.string (rowB k),.bool (rowW k).isSome])/\w'=w:=by
 by_cases h:k∈knownL
 ·obtain⟨ws,h1,_⟩:=rowW_yes k h
  rw[h1,Option.isSome_some]
  simp only[knownL,List.mem_cons,List.not_mem_nil,or_false]at h
  rcases(show(k=1\/k=2\/k=3\/k=4\/k=6\/k=7\/k=8\/k=9\/k=10)\/(k=11\/k=12\/k=13\/k=14\/k=15\/k=16\/k=20\/k=21\/k=22)\/(k=23\/k=24\/k=25\/k=26\/k=27\/k=28\/k=29\/k=30\/k=31)\/(k=32\/k=33\/k=34\/k=35\/k=36\/k=37\/k=40\/k=41\/k=42) by omega) with h|h|h|h
  ·exact kidsRow0 k w h
  ·exact kidsRow1 k w h
  ·exact kidsRow2 k w h
  ·exact kidsRow3 k w h
 ·obtain⟨h1,h2⟩:=rowW_no k h
  rw[h1,h2]
  exact kidsRowNo k w h
def setW (n:Nat):List (Nat×Nat):=List.replicate n (5,0)++[(3,0),(3,1)]
def setB (n:Nat):ByteArray:=⟨(Lib.repeatL [116,97,114,103,101,116,32] n).toArray⟩++⟨#[101,120,112,114,32,101,120,112,114,42]⟩
theorem setB_list (n:Nat):(setB n).data.toList=Lib.repeatL [116,97,114,103,101,116,32] n++[101,120,112,114,32,101,120,112,114,42]:=by
 unfold setB
 rw[ByteArray.data_append]
 simp
theorem setB_fields:∀n,Lib.fields (Lib.repeatL [116,97,114,103,101,116,32] n++[101,120,112,114,32,101,120,112,114,42])=(setW n).map fun x=>wordL x.1 x.2
 |0=>by decide
 |n+1=>by
  have ih:=setB_fields n
  have e:Lib.fields (Lib.repeatL [116,97,114,103,101,116,32] (n+1)++[101,120,112,114,32,101,120,112,114,42])=[116,97,114,103,101,116]::Lib.fields (Lib.repeatL [116,97,114,103,101,116,32] n++[101,120,112,114,32,101,120,112,114,42]):=by
   rw[Lib.repeatL]
   rfl
  rw[e,ih]
  rfl
theorem setB_ascii (n:Nat):∀(j:Nat) b,(setB n).data.toList[j]?=some b->b.toNat<128:=by
 rw[setB_list]
 have hall:∀(l:List UInt8),(l.all fun b=>decide (b.toNat<128))=true->∀b∈l,b.toNat<128:=fun l hl b hb=>by simpa using List.all_eq_true.1 hl b hb
 have hr:∀n,∀b∈Lib.repeatL [116,97,114,103,101,116,32] n,b.toNat<128:=by
  intro n
  induction n with
  |zero=>intro b hb;simp[Lib.repeatL]at hb
  |succ n ih=>
   intro b hb
   rw[Lib.repeatL]at hb
   rcases List.mem_append.1 hb with hb|hb
   ·exact hall _ (by decide) b hb
   ·exact ih b hb
 intro j b hb
 rcases List.mem_append.1 (List.mem_of_getElem? hb) with h|h
 ·exact hr n b h
 ·exact hall _ (by decide) b h
theorem setB_size (n:Nat):(setB n).size=7*n+10:=by
 have h:=congrArg List.length (setB_list n)
 rw[List.length_append,Lib.repeatL_length]at h
 simp at h
 have e:(setB n).size=(setB n).data.size:=rfl
 omega
theorem setW_ok (n:Nat):∀x∈setW n,x.1<10/\x.2<3:=by
 intro x hx
 unfold setW at hx
 rcases List.mem_append.1 hx with hx|hx
 ·rw[(List.mem_replicate.1 hx).2];decide
 ·simp at hx;rcases hx with rfl|rfl<;>decide
theorem kidsFit_set (w:World) (b:Nat) (nk nf nt nl num:Int) (n:Nat) (hn:n<=200) (vk:Value) (ks:List Int) (hk:KidsAt w vk ks) (hl:ks.length<=1048576) (htab:∀W,Below w.heap.size w W->Lib.TabIs Tryz.prog W "strings.asciiSpace" .u8 Lib.asciiSpaceTab)
  (hb:w.heap[b]?=some (.cells #[.int .i64 nk,.int .i64 nf,.int .i64 nt,.int .i64 nl,.int .i64 num,vk,.int .i64 (n:Int)] 112 (0,0))):
  Calls Tryz.prog 88 #[.iface 109 (.pointer (some ⟨b,0,none⟩))] w fun e w'=>e= .returned (.bool (kmatch (setW n) ks))/\Below w.heap.size w w':=by
 have ha1:=fun w=>as11 b w
 have kr:=repeat_tgt n w hn
 have km:=fun W (hB:Below w.heap.size w W)=>kidsMatch_any W (setB n) (setW n) vk ks (by rw[setB_list];exact setB_fields n) (setW_ok n) (by rw[setB_size];omega) (setB_ascii n) (htab W hB) (hk.below hB) hl (by unfold setW;rw[List.length_append,List.length_replicate];simp;omega)
 obtain⟨ak,ck,rfl⟩:=hk.form
 have c5:w.cell? ⟨b,5,none⟩=some (.slice ak ks.length ck):=by rw[cell_of_row _ _ _ _ _ _ hb];rfl
 have c6:w.cell? ⟨b,6,none⟩=some (.int .i64 (n:Int)):=by rw[cell_of_row _ _ _ _ _ _ hb];rfl
 have hsz:((⟨#[101,120,112,114,32,101,120,112,114,42]⟩:ByteArray)).size=10:=rfl
 have hsr:((⟨(Lib.repeatL [116,97,114,103,101,116,32] n).toArray⟩:ByteArray)).size=7*n:=by
  have e:((⟨(Lib.repeatL [116,97,114,103,101,116,32] n).toArray⟩:ByteArray)).size=(Lib.repeatL [116,97,114,103,101,116,32] n).length:=by simp[ByteArray.size]
  rw[e,Lib.repeatL_length];simp;omega
 unfold setB at km
 generalize kmatch (setW n) ks=R at km⊢
 generalize ks.length=L at km c5
 generalize (⟨(Lib.repeatL [116,97,114,103,101,116,32] n).toArray⟩:ByteArray)=SR at km kr hsr
 have HC5:Hid (w.cell? ⟨b,5,none⟩=some (.slice ak L ck)):=c5
 clear hb hk htab c5
 go_enter Tryz.func88,Tryz.ntmps88
 go_wp2_with (go_at_call 126;fail)
 refine kr.mono ?_
 rintro e w2 ⟨rfl,hb2⟩
 have c5:=cell_kept hb2 HC5.out
 have km2:=km w2 hb2
 clear km kr
 go_wp2_with (go_at_call 127;fail)
 refine km2.mono ?_
 rintro e w3 ⟨rfl,hb3⟩
 go_wp2_with fail
 go_ret
 exact⟨rfl,hb2.trans (hb3.mono hb2.size)⟩
theorem asS (k:Int) (h:cls k≠1) (b:Nat) (w:World):(Instr.typeAssert (.iface (ptT (cls k)) (.pointer (some ⟨b,0,none⟩))) 49 109 true).run Tryz.prog w= .ok (.tuple #[.pointer none,.bool false]) w:=by
 rcases cls_lt k with g|g|g|g|g|g|g
 ·rw[g];exact as01 b w
 ·exact absurd g h
 ·rw[g];exact as21 b w
 ·rw[g];exact as31 b w
 ·rw[g];exact as41 b w
 ·rw[g];exact as51 b w
 ·rw[g];exact as61 b w
def rkB (k:Int) (ks:List Int):Bool:=match rowW k with|some ws=>kmatch ws ks|none=>false
theorem kidsFit_oth (w:World) (b:Nat) (k:Int) (hc:cls k≠1) (vk:Value) (ks:List Int) (hk:KidsAt w vk ks) (hl:ks.length<=1048576) (htab:Lib.TabIs Tryz.prog w "strings.asciiSpace" .u8 Lib.asciiSpaceTab)
  (c0:w.cell? ⟨b,0,none⟩=some (.int .i64 k)) (c5:w.cell? ⟨b,5,none⟩=some vk):
  Calls Tryz.prog 88 #[nodeV k b] w fun e w'=>e= .returned (.bool (rkB k ks))/\Below w.heap.size w w':=by
 have ha1:=fun w=>asS k hc b w
 have hmt:=fun w=>methK k b w
 have kh:=fun w=>head_any b w
 have kr:=fun w=>kidsRow_any k w
 unfold nodeV rkB
 by_cases hk2:k∈knownL
 ·obtain⟨ws,h1,h2,h3,h4,h5,h6⟩:=rowW_yes k hk2
  have km:=kidsMatch_any w (rowB k) ws vk ks h2 h3 (by omega) h5 htab hk hl (by omega)
  rw[h1]at kr⊢
  simp only[Option.isSome_some]at kr⊢
  obtain⟨ak,ck,rfl⟩:=hk.form
  generalize ks.length=L at km c5
  generalize kmatch ws ks=R at km⊢
  generalize rowB k=S at km kr
  generalize ptT (cls k)=tp at ha1 hmt⊢
  clear hk htab h2 h3 h4 h5 h6 h1 hk2 hc
  go_enter Tryz.func88,Tryz.ntmps88
  go_wp2_with (first|(go_at_call 233;refine(kh _).mono ?_;rintro e w' ⟨rfl,rfl⟩)|(go_at_call 128;refine(kr _).mono ?_;rintro e w' ⟨rfl,rfl⟩)|(go_at_call 127;refine km.mono ?_;rintro e w3 ⟨rfl,hb3⟩))
  go_ret
  exact⟨rfl,hb3⟩
 ·obtain⟨h1,h2⟩:=rowW_no k hk2
  rw[h1,h2]at kr
  rw[h1]
  simp only[Option.isSome_none]at kr⊢
  generalize ptT (cls k)=tp at ha1 hmt⊢
  clear hk htab hk2 hc h1 h2
  go_enter Tryz.func88,Tryz.ntmps88
  go_wp2_with (first|(go_at_call 233;refine(kh _).mono ?_;rintro e w' ⟨rfl,rfl⟩)|(go_at_call 128;refine(kr _).mono ?_;rintro e w' ⟨rfl,rfl⟩))
  go_ret
  exact⟨rfl,Below.refl _ _⟩
end Go.Proofs.YtelfejiiabbpfaaGreatDoor
namespace Go.Proofs.YtelfejiiabbpfaaGreatDoor
open Go.RowKit Go.Maps Go.WideMaps
theorem rowOf_any (w:World) (b:Nat) (N:Nd) (vn kv:Value) (num:Int) (hn:∃a n c,vn= .slice a n c) (h:InBox w b N vn num kv):
  Calls Tryz.prog 86 #[nodeV N.k b] w fun e w'=>e= .returned (vNd (rowN N (cls N.k)) (rowV vn (cls N.k)) (.slice none 0 0))/\Below w.heap.size w w':=by
 obtain⟨a1,n1,e1,rfl⟩:=hn
 unfold InBox at h
 unfold nodeV
 rcases cls_lt N.k with hc|hc|hc|hc|hc|hc|hc
 ·rw[hc]at h⊢;exact rowOf0 w b N.k N.f N.t N.l num kv a1 n1 e1 h
 ·rw[hc]at h⊢;exact rowOf1 w b N.k N.f N.t N.l num kv N.n h
 ·rw[hc]at h⊢;exact rowOf2 w b N.k N.f N.t N.l num kv N.n h
 ·rw[hc]at h⊢;exact rowOf3 w b N.k N.f N.t N.l num kv N.x h
 ·rw[hc]at h⊢;exact rowOf4 w b N.k N.f N.t N.l num kv N.op h
 ·rw[hc]at h⊢
  refine(rowOf5 w b N.k N.f N.t N.l num kv a1 n1 e1 (decide (N.op=1)) h).mono ?_
  rintro e w' ⟨rfl,hb⟩
  refine⟨?_,hb⟩
  unfold vNd rowN rowV
  simp
 ·rw[hc]at h⊢;exact rowOf6 w b N.k N.f N.t N.l num kv h
def ffB (N:Nd) (L:Nat):Nat->Bool
 |0=>decide (1<=(N.nm.length:Int)/\(N.nm.length:Int)<=mostN N.k)&&nmsB N.nm N.nm.length 0
 |1=>decide (1<=N.n/\N.n<(L:Int))
 |2=>true
 |3=>txB N.k N.x
 |4=>if N.k=30 then(decide ((19:Int)<=N.op)&&decide (N.op<=22)) else(decide ((1:Int)<=N.op)&&decide (N.op<=18))
 |5=>nmsB N.nm N.nm.length 0
 |_=>true
theorem fieldsFit_any (w:World) (lb mb:Nat) (vs:Value) (h:Lk w lb mb vs) (b:Nat) (N:Nd) (vn:Value) (num:Int) (ak:Option Addr) (L ck:Nat) (hL:L<=1048576) (hn:StrsAt w vn N.nm) (hl:N.nm.length<=1048576) (hs:∀s∈N.nm,s.size<=1048576) (hx:N.x.size<=1048576) (hb:InBox w b N vn num (.slice ak L ck)):
  Calls Tryz.prog 87 #[.pointer (some ⟨lb,0,none⟩),nodeV N.k b] w fun e w'=>e= .returned (.bool (ffB N L (cls N.k)))/\Below w.heap.size w w':=by
 unfold InBox at hb
 unfold nodeV
 have same:∀{R:Bool},(Calls Tryz.prog 87 #[.pointer (some ⟨lb,0,none⟩),.iface (ptT (cls N.k)) (.pointer (some ⟨b,0,none⟩))] w fun e w'=>e= .returned (.bool R)/\w'=w)->(Calls Tryz.prog 87 #[.pointer (some ⟨lb,0,none⟩),.iface (ptT (cls N.k)) (.pointer (some ⟨b,0,none⟩))] w fun e w'=>e= .returned (.bool R)/\Below w.heap.size w w'):=fun hh=>hh.mono fun e w' ⟨h1,h2⟩=>⟨h1,h2 ▸ Below.refl _ _⟩
 rcases cls_lt N.k with hc|hc|hc|hc|hc|hc|hc
 ·refine same ?_;rw[hc]at hb⊢;exact ff0 w lb mb vs h b N.k N.f N.t N.l num _ vn N.nm hn hl hs hb
 ·rw[hc]at hb⊢;exact ff1 w lb b N.k N.f N.t N.l num N.n ak L ck hL hb
 ·refine same ?_;rw[hc]at hb⊢;exact ff2 w lb b
 ·rw[hc]at hb⊢;exact ff3 w lb mb vs h b N.k N.f N.t N.l num _ N.x (by omega) hb
 ·refine same ?_;rw[hc]at hb⊢;exact ff4 w lb b N.k N.f N.t N.l num N.op _ hb
 ·refine same ?_;rw[hc]at hb⊢;exact ff5 w lb mb vs h b N.k N.f N.t N.l num _ vn (decide (N.op=1)) N.nm hn hl hs hb
 ·refine same ?_;rw[hc]at hb⊢;exact ff6 w lb b
theorem InBox.cells {W:World}{b:Nat}{N:Nd}{vn kv:Value}{num:Int}(h:InBox W b N vn num kv):W.cell? ⟨b,0,none⟩=some (.int .i64 N.k)/\W.cell? ⟨b,1,none⟩=some (.int .i64 N.f)/\W.cell? ⟨b,2,none⟩=some (.int .i64 N.t)/\W.cell? ⟨b,4,none⟩=some (.int .i64 num)/\W.cell? ⟨b,5,none⟩=some kv/\∀j,W.frozen? ⟨b,j,none⟩=false:=by
 unfold InBox at h
 refine⟨?_,?_,?_,?_,?_,fun j=>frozen_of_row _ _ _ _ _ h⟩
 ·rw[cell_of_row _ _ _ _ _ _ h];simp
 ·rw[cell_of_row _ _ _ _ _ _ h];simp
 ·rw[cell_of_row _ _ _ _ _ _ h];simp
 ·rw[cell_of_row _ _ _ _ _ _ h];simp
 ·rw[cell_of_row _ _ _ _ _ _ h];simp
def kfB (N:Nd) (ks:List Int):Bool:=if cls N.k=1 then kmatch (setW N.n.toNat) ks else rkB N.k ks
theorem kidsFit_any (w:World) (b:Nat) (N:Nd) (vn kv:Value) (num:Int) (ks:List Int) (hk:KidsAt w kv ks) (hl:ks.length<=1048576) (htab:∀W,Below w.heap.size w W->Lib.TabIs Tryz.prog W "strings.asciiSpace" .u8 Lib.asciiSpaceTab) (hb:InBox w b N vn num kv) (hn:cls N.k=1->0<=N.n/\N.n<=200):
  Calls Tryz.prog 88 #[nodeV N.k b] w fun e w'=>e= .returned (.bool (kfB N ks))/\Below w.heap.size w w':=by
 unfold kfB
 by_cases hc:cls N.k=1
 ·rw[if_pos hc]
  obtain⟨h0,h1⟩:=hn hc
  unfold InBox at hb
  unfold nodeV
  rw[hc]at hb⊢
  have e:N.n=((N.n.toNat:Nat):Int):=by omega
  refine kidsFit_set w b N.k N.f N.t N.l num N.n.toNat (by omega) kv ks hk hl htab ?_
  rw[<-e]
  exact hb
 ·rw[if_neg hc]
  obtain⟨c0,_,_,_,c5,_⟩:=hb.cells
  exact kidsFit_oth w b N.k hc kv ks hk hl (htab w (Below.refl _ _)) c0 c5
end Go.Proofs.YtelfejiiabbpfaaGreatDoor
