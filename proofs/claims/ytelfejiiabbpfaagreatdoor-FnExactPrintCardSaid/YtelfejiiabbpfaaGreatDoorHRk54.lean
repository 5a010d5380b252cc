import Derived.Test.YtelfejiiabbpfaaGreatDoorHRk35
import Derived.Test.YtelfejiiabbpfaaGreatDoorHRk50
import Derived.Test.YtelfejiiabbpfaaGreatDoorHRk36
import Derived.Test.YtelfejiiabbpfaaGreatDoorHRk33
import Derived.Test.YtelfejiiabbpfaaGreatDoorHRk37
import Derived.Test.YtelfejiiabbpfaaGreatDoorHRk38
import Derived.Test.YtelfejiiabbpfaaGreatDoorHRk39
import Derived.Test.YtelfejiiabbpfaaGreatDoorHRk51
import Derived.Test.YtelfejiiabbpfaaGreatDoorHRk40
import Derived.Test.YtelfejiiabbpfaaGreatDoorHRk41
import Derived.Test.YtelfejiiabbpfaaGreatDoorHRk34
import Derived.Test.YtelfejiiabbpfaaGreatDoorHRk42
import Derived.Test.YtelfejiiabbpfaaGreatDoorHRk53
import Derived.Test.YtelfejiiabbpfaaGreatDoorTie
import Derived.Test.YtelfejiiabbpfaaGreatDoorCards
import Derived.SevenTiedAt
import Derived.Lib.SmallJoins
set_option linter.unusedVariables false
set_option maxRecDepth 100000
set_option maxHeartbeats 12800000
namespace Go.Proofs.YtelfejiiabbpfaaGreatDoor
open Go.RowKit Go.Maps Go.WideMaps
theorem pw_form {op:Int}(h:1<=op/\op<=18):((pwF op).2=(pwF op).1+1/\(pwF op).1≠4/\1<=(pwF op).1/\(pwF op).1<=10)\/((pwF op).1=4/\(pwF op).2=4):=by
 unfold pwF
 repeat' split
 all_goals first|(left;exact⟨rfl,by decide,by decide,by decide⟩)|(right;exact⟨rfl,rfl⟩)
theorem inf_cases {N:Nd}(h:isInf N.k=true):N.k=28\/N.k=29\/N.k=31:=by unfold isInf at h;simp at h;omega
theorem inf_form {N:Nd}(h:isInf N.k=true) (ho:N.k=31->1<=N.op/\N.op<=18):((infR N=infL N+1/\infL N≠4/\1<=infL N/\infL N<=10)\/(infL N=4/\infR N=4))/\powP N.k N.op=infL N/\rgtK N.k N.op=infR N:=by
 unfold infL infR powP rgtK
 rcases inf_cases h with e|e|e
 ·rw[e];exact⟨.inl ⟨rfl,by simp,by simp,by simp⟩,rfl,rfl⟩
 ·rw[e];exact⟨.inl ⟨rfl,by simp,by simp,by simp⟩,rfl,rfl⟩
 ·rw[e];exact⟨pw_form (ho e),rfl,rfl⟩
theorem noinf {M:Nd}(h:isInf M.k=false):11<=powP M.k M.op:=by
 unfold isInf at h
 simp at h
 unfold powP
 rw[if_neg (by omega),if_neg (by omega),if_neg (by omega)]
 split<;>omega
theorem left_eq (ns:List Nd) (E:Int->ByteArray) (N:Nd) (q:Int) (hN:isInf N.k=true) (hoN:N.k=31->1<=N.op/\N.op<=18) (hoM:(nodeI ns q).k=31->1<=(nodeI ns q).op/\(nodeI ns q).op<=18):
  (if heldL N (nodeI ns q)=true then parB (E q) else E q)=holdB ns E q (leftK N (powP N.k N.op)):=by
 obtain⟨h1,h2,h3⟩:=inf_form hN hoN
 unfold holdB leftK heldL
 rw[h2,h3]
 cases hM:isInf (nodeI ns q).k with
 |false=>
  have:=noinf hM
  rw[if_neg (by simp),if_neg]
  split<;>omega
 |true=>
  obtain⟨g1,g2,g3⟩:=inf_form hM hoM
  rw[g2]
  by_cases hd:infR (nodeI ns q)<=infL N
  ·rw[if_pos (by simp[hd]),if_pos]
   split<;>omega
  ·rw[if_neg (by simp[hd]),if_neg]
   split<;>omega
theorem right_eq (ns:List Nd) (E:Int->ByteArray) (N:Nd) (q:Int) (hN:isInf N.k=true) (hoN:N.k=31->1<=N.op/\N.op<=18) (hoM:(nodeI ns q).k=31->1<=(nodeI ns q).op/\(nodeI ns q).op<=18):
  (if heldR2 N (nodeI ns q)=true then parB (E q) else E q)=holdB ns E q (rgtK N.k N.op):=by
 obtain⟨h1,h2,h3⟩:=inf_form hN hoN
 unfold holdB heldR2
 rw[h3]
 cases hM:isInf (nodeI ns q).k with
 |false=>
  have:=noinf hM
  rw[if_neg (by simp),if_neg (by omega)]
 |true=>
  obtain⟨g1,g2,g3⟩:=inf_form hM hoM
  rw[g2]
  by_cases hd:infL (nodeI ns q)<infR N
  ·rw[if_pos (by simp[hd]),if_pos hd]
  ·rw[if_neg (by simp[hd]),if_neg hd]
theorem un_eq (ns:List Nd) (E:Int->ByteArray) (N:Nd) (q:Nat) (hq:kidI N 0=(q:Int)) (ho:19<=N.op/\N.op<=22) (hoM:(nodeI ns q).k=31->1<=(nodeI ns q).op/\(nodeI ns q).op<=18):
  pfxB N.op++(if(decide (N.op=19)&&negK (nodeI ns q))=true then⟨#[32]⟩ else ByteArray.empty)++(if isInf (nodeI ns q).k=true then parB (E q) else E q)=unB ns E N:=by
 unfold unB
 rw[hq]
 congr 1
 ·unfold pfxB unS
  rw[hq]
  rcases(show N.op=19\/N.op=20\/N.op=21\/N.op=22 by omega) with e|e|e|e
  ·rw[e]
   cases hn:negK (nodeI ns q)<;>simp
  ·rw[e];simp
  ·rw[e];simp
  ·rw[e];simp
 ·unfold holdB
  cases hM:isInf (nodeI ns q).k with
  |false=>
   have:=noinf hM
   rw[if_neg (by simp),if_neg (by omega)]
  |true=>
   obtain⟨g1,g2,g3⟩:=inf_form hM hoM
   rw[if_pos rfl,if_pos (by omega)]
theorem fix_txt {op:Int}(h:1<=op/\op<=18):fixI (60+op)=txtI (60+op):=by
 obtain⟨h1,h2⟩:=h
 rcases(show op=1\/op=2\/op=3\/op=4\/op=5\/op=6\/op=7\/op=8\/op=9\/op=10\/op=11\/op=12\/op=13\/op=14\/op=15\/op=16\/op=17\/op=18 by omega) with rfl|rfl|rfl|rfl|rfl|rfl|rfl|rfl|rfl|rfl|rfl|rfl|rfl|rfl|rfl|rfl|rfl|rfl
 all_goals decide+kernel
theorem sgn_and {N:Nd}(h:N.k=28):sgnB N=⟨#[32,97,110,100,32]⟩:=by unfold sgnB infK;rw[if_pos h];decide+kernel
theorem sgn_or {N:Nd}(h:N.k=29):sgnB N=⟨#[32,111,114,32]⟩:=by unfold sgnB infK;rw[if_neg (by omega),if_pos h];decide+kernel
theorem sgn_bin {N:Nd}(h:N.k=31) (ho:1<=N.op/\N.op<=18):sgnB N=⟨#[32]⟩++txtI (60+N.op)++⟨#[32]⟩:=by unfold sgnB infK;rw[if_neg (by omega),if_neg (by omega),if_pos h,fix_txt ho]
theorem infK_bd {N:Nd}(ho:N.k=31->1<=N.op/\N.op<=18):infK N<=100/\0<=infK N:=by
 unfold infK
 by_cases e:N.k=31
 ·have:=ho e
  rw[if_neg (by omega),if_neg (by omega),if_pos e];omega
 ·split
  ·omega
  ·split
   ·omega
   ·omega
theorem fix_size {N:Nd}(hN:isInf N.k=true) (ho:N.k=31->1<=N.op/\N.op<=18):(fixI (infK N)).size<=100:=by
 rcases inf_cases hN with e|e|e
 ·unfold infK;rw[if_pos e];decide+kernel
 ·unfold infK;rw[if_neg (by omega),if_pos e];decide+kernel
 ·have h:=ho e
  unfold infK;rw[if_neg (by omega),if_neg (by omega),if_pos e,fix_txt h]
  have:=bin_size h
  omega
theorem sep_one (x:ByteArray):sepB [x]=x:=by rw[sepB_cons];show x++ByteArray.empty=x;exact ByteArray.append_empty
theorem prm_eq (N:Nd):⟨#[40]⟩++sepB (prsL N)++⟨#[41]⟩++⟨#[32]⟩=prmB N:=by
 unfold prmB prsL
 by_cases ho:N.op=1
 ·rw[if_pos ho,if_pos ho,sepB_snoc]
  by_cases hn:N.nm=[]
  ·rw[if_pos hn,if_pos hn,hn]
   show(⟨#[40]⟩++dotB)++⟨#[41]⟩++⟨#[32]⟩=⟨#[40]⟩++ByteArray.empty++⟨#[46,46,46]⟩++⟨#[41,32]⟩
   decide+kernel
  ·rw[if_neg hn,if_neg hn]
   have e:(⟨#[41]⟩:ByteArray)++⟨#[32]⟩=⟨#[41,32]⟩:=by decide+kernel
   rw[<-e]
   unfold dotB
   simp only[ByteArray.append_assoc]
 ·rw[if_neg ho,if_neg ho]
  have e:(⟨#[41]⟩:ByteArray)++⟨#[32]⟩=⟨#[41,32]⟩:=by decide+kernel
  rw[<-e,show ∀x:ByteArray,x++ByteArray.empty=x from fun x=>ByteArray.append_empty]
  simp only[ByteArray.append_assoc]
theorem prs_size {ns:List Nd}{N:Nd}(h:seB ns N=true) (hn:N.nm.length<=200):(sepB (prsL N)).size<=1000000:=by
 have h1:∀s∈prsL N,s.size<=4000:=by
  intro s hs
  unfold prsL at hs
  split at hs
  ·rcases List.mem_append.1 hs with hs|hs
   ·exact nm_short h s hs
   ·obtain rfl:=List.mem_singleton.1 hs;decide
  ·exact nm_short h s hs
 have h2:=nms_size _ h1
 have h3:(prsL N).length<=201:=by
  unfold prsL
  split
  ·rw[List.length_append];show _+1<=_;omega
  ·omega
 omega
theorem map_one {ks:List Int}(E:Int->ByteArray) {q:Int}(hl:ks.length=1) (hq:ks[0]?=some q):sepB (ks.map E)=E q:=by
 match ks,hl with
 |[a],_=>
  obtain rfl:a=q:=by simpa using hq
  exact sep_one _
structure Cx (w0:World) (ns:List Nd) (L:List Im) (base:Nat) (vs:Value):Prop where
 tp:Tp w0 ns L base vs
 pow:PowAt w0
 lay:Lay w0
 sz:Szd ns
 len:ns.length<=3000
 n0:∀i:Int, -9223372036854775808<=(nodeI ns i).n
 n1:∀i:Int,(nodeI ns i).n<=9223372036854775807
structure VA (w0:World) (vb:Nat) (ns:List Nd) (L:List Im) (f:Nat):Prop where
 e:∀(z t:Nat),z<f->z<ns.length->exprK (nodeI ns z).k=true->t+f<=50000->Vis w0 vb L t z (txE ns f z t)
 s:∀(z t:Nat),z<f->z<ns.length->statK (nodeI ns z).k=true->t+f<=50000->Vis w0 vb L t z (txS ns f z t)
 b:∀(z t:Nat) (word:ByteArray),z<f->z<ns.length->(nodeI ns z).k=7->t+f<=50000->word.size<=100->Pw w0 vb 94 #[vP vb,mgV w0 t,.string word,nV (imI L z)] (txBr ns f z word t)
theorem VA.zero (w0:World) (vb:Nat) (ns:List Nd) (L:List Im):VA w0 vb ns L 0:=⟨fun _ _ h=>absurd h (by omega),fun _ _ h=>absurd h (by omega),fun _ _ _ h=>absurd h (by omega)⟩
section
variable {w0 : World} {vb : Nat} {ns : List Nd} {L : List Im} {base : Nat} {vs : Value} {f : Nat}
theorem Cx.op (C:Cx w0 ns L base vs):∀j:Nat,j<ns.length->(nodeI ns j).k=31->1<=(nodeI ns j).op/\(nodeI ns j).op<=18:=fun j hj e=>(nb_two (nb_se (C.sz.nb j hj)).1 (by omega)).2.2 e
theorem blkV (C:Cx w0 ns L base vs) (V:VA w0 vb ns L f) {q t:Nat}(hq:q<=f) (hql:q<ns.length) (hk:(nodeI ns q).k=1) (ht:t+f<50000):Vis w0 vb L t q (blB (fun k t=>txS ns f k t) (nodeI ns q).ks t):=by
 obtain⟨hs,hl2⟩:=nb_se (C.sz.nb q hql)
 have hb:=nb_block hs hk
 refine v_1 C.tp hql hk (m_block w0 vb ns L base vs C.tp t (by omega) q hql _ rfl (by omega) (fun k t=>txS ns f k t) (fun z hz=>?_))
 obtain⟨j,hj,rfl⟩:=kid_mem hz
 obtain⟨y,hy⟩:=kid_of (C.sz.nb q hql) hql j hj
 have h1:=sb_at _ 0 hb j (by omega) (by omega)
 rw[hy.id]at h1⊢
 exact V.s y (t+1) (by have:=hy.lt;omega) hy.len h1 (by omega)
theorem exV (C:Cx w0 ns L base vs) (V:VA w0 vb ns L f) {i t:Nat}(hi:i<ns.length) (hif:i<=f) (ht:t+f<=50000) {a m:Nat}(h:∀j,a<=j->j<a+m->exprK (nodeI ns (kidI (nodeI ns i) j)).k=true) (hm:a+m<=(nodeI ns i).ks.length):∀z∈((nodeI ns i).ks.drop a).take m,Vis w0 vb L t z (txE ns f z t):=by
 intro z hz
 obtain⟨j,hj,e⟩:=List.getElem_of_mem hz
 rw[List.length_take,List.length_drop]at hj
 rw[List.getElem_take,List.getElem_drop]at e
 obtain⟨y,hy⟩:=kid_of (C.sz.nb i hi) hi (a+j) (by omega)
 have e2:=kid_get0 (N:=nodeI ns i) (j:=a+j) (by omega)
 rw[e2,hy.id]at e
 have h1:=h (a+j) (by omega) (by omega)
 rw[hy.id]at h1
 rw[<-e]
 exact V.e y t (by have:=hy.lt;omega) hy.len h1 ht
theorem lsV {t:Nat}{zs:List Int}(h:∀z∈zs,Vis w0 vb L t z (txE ns f z t)) (hn:zs.length<=1048576):∀v,SlAt w0 L v zs->Pw w0 vb 93 #[vP vb,mgV w0 t,v] (sepB (zs.map fun k=>txE ns f k t)):=fun v hv=>list_any w0 vb L t zs v hv hn _ h
theorem bsV (C:Cx w0 ns L base vs) (V:VA w0 vb ns L f) {q t:Nat}(hq:q<f) (hql:q<ns.length) (he:exprK (nodeI ns q).k=true) (ht:t+f<=50000):Pw w0 vb 103 #[vP vb,mgV w0 t,nV (imI L q)] (bsB ns (fun k=>txE ns f k t) q):=by
 have:=baseI_any w0 vb ns L base vs C.tp t q hql _ (V.e q t hq hql he ht)
 unfold bsB
 exact this
theorem bodV (C:Cx w0 ns L base vs) (V:VA w0 vb ns L f) {q t:Nat}(hq:q<=f) (hql:q<ns.length) (hk:(nodeI ns q).k=36) (ht:t+f<50000):Pw w0 vb 92 #[vP vb,mgV w0 t,nV (imI L q)] (bodB ns (fun k t=>txS ns f k t) (nodeI ns q) t):=by
 obtain⟨hs,hl2⟩:=nb_se (C.sz.nb q hql)
 obtain⟨h1,h2,h3,h4⟩:=nb_fn hs hk
 obtain⟨y,hy⟩:=kid_of (C.sz.nb q hql) hql 0 (by omega)
 rw[hy.id]at h2
 have:=m_body w0 vb ns L base vs C.tp t (by omega) q hql _ rfl hk (by omega) h3 (prs_size hs h3) y hy.at_ _ (blkV C V (by have:=hy.lt;omega) hy.len h2 ht)
 unfold bodB
 rw[hy.id,<-prm_eq]
 exact this
theorem entV (C:Cx w0 ns L base vs) (V:VA w0 vb ns L f) {q t:Nat}(hq:q<=f) (hql:q<ns.length) (hk:40<=(nodeI ns q).k/\(nodeI ns q).k<=42) (ht:t+f<=50000):Vis w0 vb L t q (entB ns (fun k=>txE ns f k t) (nodeI ns q)):=by
 obtain⟨hs,hl2⟩:=nb_se (C.sz.nb q hql)
 have hx:=txt_of (C.sz.nb q hql)
 have kd:=fun j hj=>kid_of (C.sz.nb q hql) hql j hj
 unfold entB
 by_cases e1:(nodeI ns q).k=41
 ·rw[if_pos e1]
  obtain⟨h1,h2,h3⟩:=nb_two hs (by omega)
  obtain⟨a,ha⟩:=kd 0 (by omega)
  obtain⟨b,hb⟩:=kd 1 (by omega)
  have ea:=ex_at 2 0 h2 0 (by omega) (by omega)
  have wa:=ha.lt
  have hE:=exV C V (t:=t) hql hq ht (a:=1) (m:=1) (fun j g1 g2=>by have e:j=1:=(by omega);subst e;exact ex_at 2 0 h2 1 (by omega) (by omega)) (by omega)
  rw[List.take_of_length_le (by rw[List.length_drop];omega)]at hE
  have hm:=m_pair w0 vb ns L base vs C.tp t (by omega) q hql _ rfl (by omega) h1 a ha.at_ _ (key_any w0 vb t _ _ (V.e a t (by omega) ha.len (by rw[<-ha.id];exact ea) ht)) _ (lsV hE (by rw[List.length_drop];omega))
  have hd:((nodeI ns q).ks.drop 1).map (fun k=>txE ns f k t)=[txE ns f b t]:=by
   have hb1:=hb.at_
   match hks:(nodeI ns q).ks,h1 with
   |[x,y],_=>
    rw[hks]at hb1
    obtain rfl:y=(b:Int):=by simpa using hb1
    rfl
  rw[hd,sep_one]at hm
  rw[ha.id,hb.id]
  have e4:(⟨#[93]⟩:ByteArray)++⟨#[32,61,32]⟩=⟨#[93,32,61,32]⟩:=by decide+kernel
  rw[<-e4]
  have:=v_41 C.tp hql e1 hm
  simpa only[ByteArray.append_assoc] using this
 rw[if_neg e1]
 obtain⟨h1,h2,h3⟩:=nb_one hs (show _ by omega)
 obtain⟨a,ha⟩:=kd 0 (by omega)
 have wa:=ha.lt
 rw[ha.id]at h2
 by_cases e2:(nodeI ns q).k=42
 ·rw[if_pos e2]
  have hE:=exV C V (t:=t) hql hq ht (a:=0) (m:=1) (fun j g1 g2=>by have e:j=0:=(by omega);subst e;rw[ha.id];exact h2) (by omega)
  rw[List.drop_zero,List.take_of_length_le (by omega)]at hE
  have hm:=m_named w0 vb ns L base vs C.tp t (by omega) q hql _ rfl e2 (by omega) hx _ (lsV hE (by omega))
  rw[map_one _ h1 ha.at_]at hm
  rw[ha.id]
  exact v_42 C.tp hql e2 hm
 ·rw[if_neg e2,ha.id]
  exact v_40 C.tp hql (by omega) (m_item w0 vb ns L base vs C.tp t (by omega) q hql _ rfl (by omega) a ha.at_ _ (V.e a t (by omega) ha.len h2 ht))
theorem exprV (C:Cx w0 ns L base vs) (V:VA w0 vb ns L f) {i t:Nat}(hif:i<=f) (hi:i<ns.length) (he:exprK (nodeI ns i).k=true) (ht:t+f<50000):Vis w0 vb L t i (prE ns (fun q=>txE ns f q t) (fun q t=>txS ns f q t) (nodeI ns i) t):=by
 obtain⟨hs,hl2⟩:=nb_se (C.sz.nb i hi)
 have hx:=txt_of (C.sz.nb i hi)
 have kd:=fun j hj=>kid_of (C.sz.nb i hi) hi j hj
 have hlk:(nodeI ns i).ks.length<=1048576:=by omega
 have ht1:t<=100000:=by omega
 have hk:=of_decide_eq_true he
 have inf:isInf (nodeI ns i).k=true->Pw w0 vb 56 #[vP vb,mgV w0 t,nV (imI L i)] (infB ns (fun q=>txE ns f q t) (nodeI ns i) (sgnB (nodeI ns i)) (powP (nodeI ns i).k (nodeI ns i).op)):=by
  intro hin
  have hcs:=inf_cases hin
  obtain⟨h1,h2,h3⟩:=nb_two hs (by omega)
  obtain⟨a,ha⟩:=kd 0 (by omega)
  obtain⟨b,hb⟩:=kd 1 (by omega)
  have ea:=ex_at 2 0 h2 0 (by omega) (by omega)
  have eb:=ex_at 2 0 h2 1 (by omega) (by omega)
  rw[ha.id]at ea
  rw[hb.id]at eb
  have wa:=ha.lt
  have wb:=hb.lt
  have hm:=m_infix w0 vb ns L base vs C.tp C.pow C.lay.tabs t i hi hin C.op a ha.at_ ha.len _ (V.e a t (by omega) ha.len ea (by omega)) b hb.at_ hb.len _ (V.e b t (by omega) hb.len eb (by omega)) (infK_bd (C.op i hi)) (fix_size hin (C.op i hi))
  rw[left_eq ns (fun q=>txE ns f q t) _ (a:Int) hin (C.op i hi) (C.op a ha.len),right_eq ns (fun q=>txE ns f q t) _ (b:Int) hin (C.op i hi) (C.op b hb.len)]at hm
  unfold infB
  rw[ha.id,hb.id]
  exact hm
 unfold prE
 by_cases e1:(nodeI ns i).k=28
 ·rw[if_pos e1,<-sgn_and e1];exact v_28 C.tp hi e1 (inf (by rw[e1];rfl))
 rw[if_neg e1]
 by_cases e2:(nodeI ns i).k=29
 ·rw[if_pos e2,<-sgn_or e2];exact v_29 C.tp hi e2 (inf (by rw[e2];rfl))
 rw[if_neg e2]
 by_cases e3:(nodeI ns i).k=31
 ·rw[if_pos e3,<-sgn_bin e3 (C.op i hi e3)];exact v_31 C.tp hi e3 (inf (by rw[e3];rfl))
 rw[if_neg e3]
 by_cases e4:(nodeI ns i).k=30
 ·rw[if_pos e4]
  obtain⟨h1,h2,h3⟩:=nb_one hs (by omega)
  obtain⟨a,ha⟩:=kd 0 (by omega)
  have wa:=ha.lt
  rw[ha.id]at h2
  have hm:=m_prefix w0 vb ns L base vs C.tp C.pow t i hi e4 C.op a ha.at_ ha.len _ (V.e a t (by omega) ha.len h2 (by omega))
  rw[un_eq ns (fun q=>txE ns f q t) _ a ha.id (h3 e4) (C.op a ha.len)]at hm
  exact v_30 C.tp hi e4 hm
 rw[if_neg e4]
 by_cases e5:(nodeI ns i).k=32
 ·rw[if_pos e5]
  obtain⟨h1,h2,h3⟩:=nb_two hs (by omega)
  obtain⟨a,ha⟩:=kd 0 (by omega)
  obtain⟨b,hb⟩:=kd 1 (by omega)
  have ea:=ex_at 2 0 h2 0 (by omega) (by omega)
  have eb:=ex_at 2 0 h2 1 (by omega) (by omega)
  have wa:=ha.lt
  have wb:=hb.lt
  rw[ha.id]at ea⊢
  rw[hb.id]at eb⊢
  have:=v_32 C.tp hi e5 (m_index w0 vb ns L base vs C.tp t ht1 i hi _ rfl hlk a ha.at_ _ (bsV C V (by omega) ha.len ea (by omega)) b hb.at_ _ (key_any w0 vb t _ _ (V.e b t (by omega) hb.len eb (by omega))))
  simpa only[ByteArray.append_assoc] using this
 rw[if_neg e5]
 by_cases e6:(nodeI ns i).k=33
 ·rw[if_pos e6]
  obtain⟨h1,h2,h3⟩:=nb_one hs (by omega)
  obtain⟨a,ha⟩:=kd 0 (by omega)
  have wa:=ha.lt
  rw[ha.id]at h2⊢
  exact v_33 C.tp hi e6 (m_field w0 vb ns L base vs C.tp t ht1 i hi _ rfl e6 hlk hx a ha.at_ _ (bsV C V (by omega) ha.len h2 (by omega)))
 rw[if_neg e6]
 by_cases e7:(nodeI ns i).k=34
 ·rw[if_pos e7]
  obtain⟨h1,h2⟩:=nb_call hs e7
  obtain⟨a,ha⟩:=kd 0 (by omega)
  have wa:=ha.lt
  have ea:=ex_at _ 0 h2 0 (by omega) (by omega)
  have hE:=exV C V (t:=t) hi hif (by omega) (a:=1) (m:=(nodeI ns i).ks.length-1) (fun j h3 h4=>ex_at _ 0 h2 j (by omega) (by omega)) (by omega)
  rw[List.take_of_length_le (by rw[List.length_drop];exact Nat.le_refl _)]at hE
  rw[ha.id]at ea⊢
  exact v_34 C.tp hi e7 (m_call w0 vb ns L base vs C.tp t ht1 i hi _ rfl hlk a ha.at_ _ (bsV C V (by omega) ha.len ea (by omega)) _ (lsV hE (by rw[List.length_drop];omega)))
 rw[if_neg e7]
 by_cases e8:(nodeI ns i).k=35
 ·rw[if_pos e8]
  have h1:=nb_table hs e8
  unfold tblB
  refine v_35 C.tp hi e8 (m_table w0 vb ns L base vs C.tp t ht1 i hi _ rfl hlk _ (fun v hv=>list_any w0 vb L t _ v hv hlk (fun k=>entB ns (fun q=>txE ns f q t) (nodeI ns k)) (fun z hz=>?_)))
  obtain⟨j,hj,rfl⟩:=kid_mem hz
  obtain⟨y,hy⟩:=kd j hj
  have h2:=en_at _ 0 h1 j (by omega) (by omega)
  rw[hy.id]at h2⊢
  exact entV C V (by have:=hy.lt;omega) hy.len h2 (by omega)
 rw[if_neg e8]
 by_cases e9:(nodeI ns i).k=36
 ·rw[if_pos e9]
  exact v_36 C.tp hi e9 (m_fnex w0 vb ns L base vs C.tp t ht1 i hi _ rfl hlk _ (bodV C V hif hi e9 ht))
 rw[if_neg e9]
 by_cases e10:(nodeI ns i).k=37
 ·rw[if_pos e10]
  obtain⟨h1,h2,h3⟩:=nb_one hs (by omega)
  obtain⟨a,ha⟩:=kd 0 (by omega)
  have wa:=ha.lt
  rw[ha.id]at h2⊢
  exact v_37 C.tp hi e10 (m_one w0 vb ns L base vs C.tp t ht1 i hi _ rfl hlk a ha.at_ _ (operand_held w0 vb t _ _ (V.e a t (by omega) ha.len h2 (by omega))))
 rw[if_neg e10]
 unfold plB
 rcases(show(nodeI ns i).k=20\/(nodeI ns i).k=21\/(nodeI ns i).k=22\/(nodeI ns i).k=23\/(nodeI ns i).k=24\/(nodeI ns i).k=25\/(nodeI ns i).k=26\/(nodeI ns i).k=27 by omega) with e|e|e|e|e|e|e|e
 ·rw[if_pos e];exact v_20 C.tp hi e (m_nil w0 vb ns L base vs C.tp t ht1 i hi _ rfl hlk)
 ·rw[if_neg (by omega),if_pos e];exact v_21 C.tp hi e (m_true w0 vb ns L base vs C.tp t ht1 i hi _ rfl hlk)
 ·rw[if_neg (by omega),if_neg (by omega),if_pos e];exact v_22 C.tp hi e (m_false w0 vb ns L base vs C.tp t ht1 i hi _ rfl hlk)
 ·rw[if_neg (by omega),if_neg (by omega),if_neg (by omega),if_pos e];exact v_23 C.tp hi e (m_int w0 vb ns L base vs C.tp t ht1 i hi _ rfl e hlk C.lay (C.n0 i) (C.n1 i))
 ·rw[if_neg (by omega),if_neg (by omega),if_neg (by omega),if_neg (by omega),if_pos (by omega)];exact v_24 C.tp hi e (m_float w0 vb ns L base vs C.tp t ht1 i hi _ rfl e hlk hx)
 ·rw[if_neg (by omega),if_neg (by omega),if_neg (by omega),if_neg (by omega),if_neg (by omega),if_pos e];exact v_25 C.tp hi e (m_str w0 vb ns L base vs C.tp t ht1 i hi _ rfl e hlk hx)
 ·rw[if_neg (by omega),if_neg (by omega),if_neg (by omega),if_neg (by omega),if_pos (by omega)];exact v_26 C.tp hi e (m_name w0 vb ns L base vs C.tp t ht1 i hi _ rfl e hlk hx)
 ·rw[if_neg (by omega),if_neg (by omega),if_neg (by omega),if_neg (by omega),if_neg (by omega),if_neg (by omega),if_pos e];exact v_27 C.tp hi e (m_rest w0 vb ns L base vs C.tp t ht1 i hi _ rfl hlk)
end
section
variable {w0 : World} {vb : Nat} {ns : List Nd} {L : List Im} {base : Nat} {vs : Value} {f : Nat}
theorem take1 {N:Nd}{q:Nat}(E:Int->ByteArray) (hl:0<N.ks.length) (hq:N.ks[0]?=some (q:Int)):sepB ((N.ks.take 1).map E)=E q:=by
 refine map_one E (by rw[List.length_take];omega) ?_
 rw[List.getElem?_take,if_pos (by omega)];exact hq
theorem brV (C:Cx w0 ns L base vs) (V:VA w0 vb ns L f) {i t:Nat}(hif:i<=f) (hi:i<ns.length) (hk:(nodeI ns i).k=7) (ht:t+f<50000) (word:ByteArray) (hw:word.size<=100):
  Pw w0 vb 94 #[vP vb,mgV w0 t,.string word,nV (imI L i)] (prBr ns (fun q=>txE ns f q t) (fun q t=>txS ns f q t) (fun q w=>txBr ns f q w t) (nodeI ns i) word t):=by
 obtain⟨hs,hl2⟩:=nb_se (C.sz.nb i hi)
 have kd:=fun j hj=>kid_of (C.sz.nb i hi) hi j hj
 have hlk:(nodeI ns i).ks.length<=1048576:=by omega
 have ht1:t<=100000:=by omega
 obtain⟨h1,h2,h3,h4,h5⟩:=nb_if hs hk
 obtain⟨a,ha⟩:=kd 0 (by omega)
 obtain⟨b,hb⟩:=kd 1 (by omega)
 have wa:=ha.lt
 have wb:=hb.lt
 have hE:=exV C V (t:=t) hi hif (by omega) (a:=0) (m:=1) (fun j g1 g2=>by have e:j=0:=(by omega);subst e;exact h3) (by omega)
 rw[List.drop_zero]at hE
 have hX:=lsV hE (by rw[List.length_take];omega)
 rw[take1 _ (by omega) ha.at_]at hX
 rw[hb.id]at h4
 have hV1:=blkV C V (t:=t) (show b<=f by omega) hb.len h4 ht
 unfold prBr
 rw[ha.id,hb.id]
 rcases Nat.lt_or_ge (nodeI ns i).ks.length 3 with g|g
 ·rw[if_pos g,show ∀x:ByteArray,x++ByteArray.empty=x from fun x=>ByteArray.append_empty]
  exact b_two w0 vb ns L base vs C.tp t ht1 i hi _ rfl hlk word hw (by omega) _ hX b hb.at_ _ hV1
 ·rw[if_neg (by omega)]
  obtain⟨c,hc⟩:=kd 2 (by omega)
  have wc:=hc.lt
  rw[hc.id]at h5⊢
  by_cases e:(nodeI ns c).k=7
  ·rw[if_pos e]
   exact b_elif w0 vb ns L base vs C.tp t ht1 i hi _ rfl hlk word hw (by omega) _ hX b hb.at_ _ hV1 c hc.at_ hc.len e _ (V.b c t _ (by omega) hc.len e (by omega) (by decide))
  ·rw[if_neg e]
   exact b_else w0 vb ns L base vs C.tp t ht1 i hi _ rfl hlk word hw (by omega) _ hX b hb.at_ _ hV1 c hc.at_ _ (blkV C V (by omega) hc.len (by omega) ht) hc.len e
theorem statV (C:Cx w0 ns L base vs) (V:VA w0 vb ns L f) {i t:Nat}(hif:i<=f) (hi:i<ns.length) (hst:statK (nodeI ns i).k=true) (ht:t+f<50000):
  Vis w0 vb L t i (prS ns (fun q=>txE ns f q t) (fun q t=>txS ns f q t) (fun _ w=>prBr ns (fun q=>txE ns f q t) (fun q t=>txS ns f q t) (fun q w=>txBr ns f q w t) (nodeI ns i) w t) (nodeI ns i) t):=by
 obtain⟨hs,hl2⟩:=nb_se (C.sz.nb i hi)
 have kd:=fun j hj=>kid_of (C.sz.nb i hi) hi j hj
 have hlk:(nodeI ns i).ks.length<=1048576:=by omega
 have ht1:t<=100000:=by omega
 have hk:=of_decide_eq_true hst
 have exK:∀k:Int,k=34->exprK k=true:=fun k e=>by rw[e];rfl
 have nmz:(nodeI ns i).nm.length<=200->(sepB (nodeI ns i).nm).size<=1000000:=fun h=>by have:=nms_size _ (nm_short hs);omega
 have nm1:(nodeI ns i).nm.length=1->sepB (nodeI ns i).nm=nm0 (nodeI ns i):=fun h=>by
  unfold nm0
  match hn:(nodeI ns i).nm,h with
  |[x],_=>exact sep_one x
 unfold prS
 by_cases e1:(nodeI ns i).k=1
 ·rw[if_pos e1];exact blkV C V hif hi e1 ht
 rw[if_neg e1]
 by_cases e2:(nodeI ns i).k=2
 ·rw[if_pos e2]
  obtain⟨h1,h2⟩:=nb_let hs e2
  by_cases g:(nodeI ns i).ks=[]
  ·rw[if_pos g,show ∀x:ByteArray,x++ByteArray.empty=x from fun x=>ByteArray.append_empty]
   exact v_2 C.tp hi e2 (m_let0 w0 vb ns L base vs C.tp t ht1 i hi _ rfl e2 hlk (by omega) (nmz h2) (by rw[g];rfl))
  ·rw[if_neg g]
   have hE:=exV C V (t:=t) hi hif (by omega) (a:=0) (m:=(nodeI ns i).ks.length) (fun j h3 h4=>ex_at _ 0 h1 j (by omega) (by omega)) (by omega)
   rw[List.drop_zero,List.take_of_length_le (Nat.le_refl _)]at hE
   exact v_2 C.tp hi e2 (m_let w0 vb ns L base vs C.tp t ht1 i hi _ rfl e2 hlk (by omega) (nmz h2) (by rcases Nat.eq_zero_or_pos (nodeI ns i).ks.length with e|e;exact absurd (List.eq_nil_of_length_eq_zero e) g;exact e) _ (lsV hE hlk))
 rw[if_neg e2]
 by_cases e3:(nodeI ns i).k=3
 ·rw[if_pos e3]
  obtain⟨h1,h2,h3⟩:=nb_const hs e3
  obtain⟨a,ha⟩:=kd 0 (by omega)
  have hE:=exV C V (t:=t) hi hif (by omega) (a:=0) (m:=1) (fun j g1 g2=>by have e:j=0:=(by omega);subst e;exact h2) (by omega)
  rw[List.drop_zero,List.take_of_length_le (by omega)]at hE
  have hm:=m_const w0 vb ns L base vs C.tp t ht1 i hi _ rfl e3 hlk (by omega) (nmz (by omega)) _ (lsV hE hlk)
  rw[map_one _ h1 ha.at_,nm1 h3]at hm
  rw[ha.id]
  exact v_3 C.tp hi e3 hm
 rw[if_neg e3]
 by_cases e4:(nodeI ns i).k=4
 ·rw[if_pos e4]
  obtain⟨h1,h2,h3⟩:=nb_fns hs e4
  obtain⟨a,ha⟩:=kd 0 (by omega)
  have wa:=ha.lt
  rw[ha.id]at h2⊢
  have hm:=m_fnst w0 vb ns L base vs C.tp t ht1 i hi _ rfl e4 hlk (by omega) (nmz (by omega)) a ha.at_ _ (bodV C V (by omega) ha.len h2 ht)
  rw[nm1 h3]at hm
  exact v_4 C.tp hi e4 hm
 rw[if_neg e4]
 by_cases e5:(nodeI ns i).k=5
 ·rw[if_pos e5]
  obtain⟨h1,h2,h3,h4⟩:=nb_set hs e5
  obtain⟨m,hm⟩:∃m:Nat,(nodeI ns i).n=(m:Int):=⟨(nodeI ns i).n.toNat,by omega⟩
  have hmt:(nodeI ns i).n.toNat=m:=by omega
  rw[hmt]at h3 h4⊢
  have hA:=exV C V (t:=t) hi hif (by omega) (a:=0) (m:=m) (fun j h5 h6=>tg_at _ 0 h3 j (by omega) (by omega)) (by omega)
  rw[List.drop_zero]at hA
  have hB:=exV C V (t:=t) hi hif (by omega) (a:=m) (m:=(nodeI ns i).ks.length-m) (fun j h5 h6=>ex_at _ m h4 j (by omega) (by omega)) (by omega)
  rw[List.take_of_length_le (by rw[List.length_drop];exact Nat.le_refl _)]at hB
  have:=v_5 C.tp hi e5 (m_set w0 vb ns L base vs C.tp t ht1 i hi _ rfl e5 hlk m hm (by omega) (by omega) _ (lsV hA (by rw[List.length_take];omega)) _ (lsV hB (by rw[List.length_drop];omega)))
  simpa only[ByteArray.append_assoc] using this
 rw[if_neg e5]
 by_cases e6:(nodeI ns i).k=6
 ·rw[if_pos e6]
  obtain⟨h1,h2⟩:=nb_do hs (by omega)
  obtain⟨a,ha⟩:=kd 0 (by omega)
  have wa:=ha.lt
  rw[ha.id]at h2⊢
  exact v_6 C.tp hi e6 (m_do w0 vb ns L base vs C.tp t ht1 i hi _ rfl hlk a ha.at_ _ (V.e a t (by omega) ha.len (exK _ h2) (by omega)))
 rw[if_neg e6]
 by_cases e7:(nodeI ns i).k=7
 ·rw[if_pos e7]
  exact v_7 C.tp hi e7 (m_if w0 vb ns L base vs C.tp t ht1 i hi _ rfl hlk _ (brV C V hif hi e7 ht _ (by decide)))
 rw[if_neg e7]
 by_cases e8:(nodeI ns i).k=8
 ·rw[if_pos e8]
  obtain⟨h1,h2,h3⟩:=nb_while hs e8
  obtain⟨a,ha⟩:=kd 0 (by omega)
  obtain⟨b,hb⟩:=kd 1 (by omega)
  have wa:=ha.lt
  have wb:=hb.lt
  have hE:=exV C V (t:=t) hi hif (by omega) (a:=0) (m:=1) (fun j g1 g2=>by have e:j=0:=(by omega);subst e;exact h2) (by omega)
  rw[List.drop_zero]at hE
  have hX:=lsV hE (by rw[List.length_take];omega)
  rw[take1 _ (by omega) ha.at_]at hX
  rw[hb.id]at h3
  rw[ha.id,hb.id]
  exact v_8 C.tp hi e8 (m_while w0 vb ns L base vs C.tp t ht1 i hi _ rfl hlk h1 _ hX b hb.at_ _ (blkV C V (by omega) hb.len h3 ht))
 rw[if_neg e8]
 by_cases e9:(nodeI ns i).k=9\/(nodeI ns i).k=10
 ·rw[if_pos e9]
  by_cases e10:(nodeI ns i).k=10
  ·rw[if_neg (by omega)]
   obtain⟨h1,h2,h3,h4⟩:=nb_each hs e10
   rw[h1]
   have hE:=exV C V (t:=t) hi hif (by omega) (a:=0) (m:=1) (fun j g1 g2=>by have e:j=0:=(by omega);subst e;exact h2) (by omega)
   rw[List.drop_zero]at hE
   obtain⟨b,hb⟩:=kd 1 (by omega)
   have wb:=hb.lt
   show Vis _ _ _ _ _ (_++_++_++_++_++blB _ (nodeI ns (kidI (nodeI ns i) 1)).ks t)
   rw[hb.id]at h3⊢
   exact v_10 C.tp hi e10 (m_each w0 vb ns L base vs C.tp t ht1 i hi _ rfl e10 hlk (by omega) (nmz h4) h1 _ (lsV hE (by rw[List.length_take];omega)) b hb.at_ _ (blkV C V (by omega) hb.len h3 ht))
  ·have e9':(nodeI ns i).k=9:=by omega
   rw[if_pos e9']
   obtain⟨h1,h2,h3,h4⟩:=nb_for hs e9'
   rcases h1 with h1|h1
   ·rw[h1]at h2 h3⊢
    have hE:=exV C V (t:=t) hi hif (by omega) (a:=0) (m:=2) (fun j h5 h6=>ex_at _ 0 h2 j (by omega) (by omega)) (by omega)
    rw[List.drop_zero]at hE
    obtain⟨b,hb⟩:=kd 2 (by omega)
    have wb:=hb.lt
    have h3':(nodeI ns (kidI (nodeI ns i) 2)).k=1:=h3
    show Vis _ _ _ _ _ (_++_++_++_++_++blB _ (nodeI ns (kidI (nodeI ns i) 2)).ks t)
    rw[hb.id]at h3'⊢
    exact v_9 C.tp hi e9' (m_for3 w0 vb ns L base vs C.tp t ht1 i hi _ rfl e9' hlk (by omega) (nmz (by omega)) h1 _ (lsV hE (by rw[List.length_take];omega)) b hb.at_ _ (blkV C V (by omega) hb.len h3' ht))
   ·rw[h1]at h2 h3⊢
    have hE:=exV C V (t:=t) hi hif (by omega) (a:=0) (m:=3) (fun j h5 h6=>ex_at _ 0 h2 j (by omega) (by omega)) (by omega)
    rw[List.drop_zero]at hE
    obtain⟨b,hb⟩:=kd 3 (by omega)
    have wb:=hb.lt
    have h3':(nodeI ns (kidI (nodeI ns i) 3)).k=1:=h3
    show Vis _ _ _ _ _ (_++_++_++_++_++blB _ (nodeI ns (kidI (nodeI ns i) 3)).ks t)
    rw[hb.id]at h3'⊢
    exact v_9 C.tp hi e9' (m_for4 w0 vb ns L base vs C.tp t ht1 i hi _ rfl e9' hlk (by omega) (nmz (by omega)) h1 _ (lsV hE (by rw[List.length_take];omega)) b hb.at_ _ (blkV C V (by omega) hb.len h3' ht))
 rw[if_neg e9]
 by_cases e11:(nodeI ns i).k=11
 ·rw[if_pos e11];exact v_11 C.tp hi e11 (m_break w0 vb ns L base vs C.tp t ht1 i hi _ rfl hlk)
 rw[if_neg e11]
 by_cases e12:(nodeI ns i).k=12
 ·rw[if_pos e12];exact v_12 C.tp hi e12 (m_next w0 vb ns L base vs C.tp t ht1 i hi _ rfl hlk)
 rw[if_neg e12]
 by_cases e13:(nodeI ns i).k=13
 ·rw[if_pos e13]
  have h1:=nb_ret hs e13
  by_cases g:(nodeI ns i).ks=[]
  ·rw[if_pos g,show ∀x:ByteArray,x++ByteArray.empty=x from fun x=>ByteArray.append_empty]
   exact v_13 C.tp hi e13 (m_ret0 w0 vb ns L base vs C.tp t ht1 i hi _ rfl hlk (by rw[g];rfl))
  ·rw[if_neg g]
   have hE:=exV C V (t:=t) hi hif (by omega) (a:=0) (m:=(nodeI ns i).ks.length) (fun j h3 h4=>ex_at _ 0 h1 j (by omega) (by omega)) (by omega)
   rw[List.drop_zero,List.take_of_length_le (Nat.le_refl _)]at hE
   exact v_13 C.tp hi e13 (m_ret w0 vb ns L base vs C.tp t ht1 i hi _ rfl hlk (by rcases Nat.eq_zero_or_pos (nodeI ns i).ks.length with e|e;exact absurd (List.eq_nil_of_length_eq_zero e) g;exact e) _ (lsV hE hlk))
 rw[if_neg e13]
 by_cases e14:(nodeI ns i).k=14
 ·rw[if_pos e14]
  obtain⟨h1,h2,h3,h4⟩:=nb_try hs e14
  obtain⟨a,ha⟩:=kd 0 (by omega)
  obtain⟨b,hb⟩:=kd 1 (by omega)
  have wa:=ha.lt
  have wb:=hb.lt
  rw[ha.id]at h2⊢
  rw[hb.id]at h3⊢
  exact v_14 C.tp hi e14 (m_try w0 vb ns L base vs C.tp t ht1 i hi _ rfl e14 hlk (by omega) (nmz h4) a ha.at_ _ (blkV C V (by omega) ha.len h2 ht) b hb.at_ _ (blkV C V (by omega) hb.len h3 ht))
 rw[if_neg e14]
 by_cases e15:(nodeI ns i).k=15
 ·rw[if_pos e15]
  obtain⟨h1,h2⟩:=nb_throw hs e15
  obtain⟨a,ha⟩:=kd 0 (by omega)
  have hE:=exV C V (t:=t) hi hif (by omega) (a:=0) (m:=1) (fun j g1 g2=>by have e:j=0:=(by omega);subst e;exact h2) (by omega)
  rw[List.drop_zero,List.take_of_length_le (by omega)]at hE
  have hm:=m_throw w0 vb ns L base vs C.tp t ht1 i hi _ rfl hlk _ (lsV hE hlk)
  rw[map_one _ h1 ha.at_]at hm
  rw[ha.id]
  exact v_15 C.tp hi e15 hm
 rw[if_neg e15,if_pos (by omega)]
 obtain⟨h1,h2⟩:=nb_do hs (by omega)
 obtain⟨a,ha⟩:=kd 0 (by omega)
 have hE:=exV C V (t:=t) hi hif (by omega) (a:=0) (m:=1) (fun j g1 g2=>by have e:j=0:=(by omega);subst e;exact exK _ h2) (by omega)
 rw[List.drop_zero,List.take_of_length_le (by omega)]at hE
 have hm:=m_defer w0 vb ns L base vs C.tp t ht1 i hi _ rfl hlk _ (lsV hE hlk)
 rw[map_one _ h1 ha.at_]at hm
 rw[ha.id]
 exact v_16 C.tp hi (by omega) hm
theorem vA_step (C:Cx w0 ns L base vs) (V:VA w0 vb ns L f):VA w0 vb ns L (f+1):=
 ⟨fun z t hz hl he ht=>by rw[txE];exact exprV C V (by omega) hl he (by omega),
  fun z t hz hl he ht=>by rw[txS];exact statV C V (by omega) hl he (by omega),
  fun z t word hz hl h7 ht hw=>by rw[txBr];exact brV C V (by omega) hl h7 (by omega) word hw⟩
theorem vA (C:Cx w0 ns L base vs):∀f,VA w0 vb ns L f
 |0=>VA.zero w0 vb ns L
 |f+1=>vA_step C (vA C f)
end
end Go.Proofs.YtelfejiiabbpfaaGreatDoor
namespace Go.Proofs.YtelfejiiabbpfaaGreatDoor
open Go.Lib (strCells strCells_length)
open Go.RowKit Go.Maps Go.WideMaps
theorem Pg.new (W0:World):Pg W0 ByteArray.empty (W0.alloc (.cells #[.slice none 0 0,.bool false] 54)):=
 ⟨(Below.refl _ W0).alloc (Nat.le_refl _) _,.slice none 0 0,ByteArray.empty,false,heap_alloc_new W0 _,World.ownsRow_nil _ _ _ _,by decide,fun _=>⟨rfl,rfl⟩,fun h=>absurd h (by decide)⟩
theorem cat_emp (x:ByteArray):ByteArray.empty++x=x:=ByteArray.empty_append
theorem implPrint_any (w:World) (v:Value) (ns:List Nd) (h:NdsAt w v ns) (hGv:∀(ad:Addr) (n c i:Nat) (N:Nd) (vn:Value),v= .slice (some ad) n c->ns[i]?=some N->w.cell? ⟨(ad.add (i*9)).block,(ad.add (i*9)).off+7,none⟩=some vn->StrsJ vn) (hl:ns.length<=1048576) (sm:∀N∈ns,NdSmall N) (hi:∀N∈ns,NdInt N) (lay:Lay w) (pow:PowAt w)
  (htab:∀W,Below w.heap.size w W->Lib.TabIs Tryz.prog W "strings.asciiSpace" .u8 Lib.asciiSpaceTab):
  Calls Tryz.prog 7 #[.agg #[v]] w fun e w'=>e= .returned (.string (printR ns))/\Below w.heap.size w w':=by
 have hb0:∀o,Below w.heap.size w (w.alloc o):=fun o=>(Below.refl _ w).alloc (Nat.le_refl _) o
 obtain⟨tt,fr,hG⟩:=lay.tabs.word
 have HK:Hid (∀W,Below w.heap.size w W->Calls Tryz.prog 14 #[.agg #[v]] W (LinkPg StrsJ W ns)):=fun W hW=>
  linkedg_any StrsJ W v ns (fun ad n c i N vn e hN hc=>by
   subst e
   obtain⟨p',e,vn0,vk0,g⟩:=h.get hN
   cases e
   have:=cell_kept hW g.c7
   rw[this]at hc
   obtain rfl:vn0=vn:=by simpa using hc
   exact hGv ad n c i N vn0 rfl hN g.c7) (h.below hW) hl sm (lay.errs.below hW (Nat.le_refl _)) tt fr ((hW.block _ (lt_of_block hG)).trans hG) (fun W2 h2=>htab W2 (hW.trans (h2.mono hW.size)))
 obtain⟨a,c,rfl⟩:=h.form
 obtain⟨n,hn⟩:∃n,ns.length=n:=⟨_,rfl⟩
 rw[hn]at HK⊢
 have HN:Hid (ns.length=n/\(∀N∈ns,NdSmall N)/\(∀N∈ns,NdInt N)/\Lay w/\PowAt w):=⟨hn,sm,hi,lay,pow⟩
 have kl:=HK.out _ (hb0 (.cells #[.slice a n c] 29))
 clear h hl sm hi lay pow hG htab hn HK hGv
 go_enter Tryz.func7,Tryz.ntmps7
 go_wp2_with (go_at_call 14;fail)
 refine kl.mono ?_
 rintro e w1 ⟨hb1,hc⟩
 have hs1:(w.alloc (.cells #[.slice a n c] 29)).heap.size=w.heap.size+1:=World.size_alloc _ _
 have hbw1:Below w.heap.size w w1:=(hb0 _).trans (hb1.mono (by omega))
 have bF:∀o,Below w1.heap.size w1 (w1.alloc o):=fun o=>(Below.refl _ w1).alloc (Nat.le_refl _) o
 rcases hc with⟨h0,rfl⟩|⟨h0,base,vs,L,x,rfl,hx,hLn,hns,hnm⟩
 ·have e1:((treeF ns).1 !=0)=true:=by rw[bne_iff_ne];exact h0
  have HE:Hid (printR ns=⟨#[]⟩):=by show _=_;unfold printR;rw[if_neg h0]
  generalize (treeF ns).1=F1 at e1
  generalize (treeF ns).2=F2
  clear kl h0
  go_wp2_with fail
  go_ret
  exact⟨by rw[HE.out];rfl,hbw1.trans ((bF _).mono hbw1.size)⟩
 ·have ok:(treeF ns).1=0:=by rw[h0]
  have hbw2:Below w.heap.size w (w1.alloc (.cells #[.int .i64 0,.int .i64 0] 35)):=hbw1.trans ((bF _).mono hbw1.size)
  obtain⟨l1,l2,l3⟩:=len_of ok
  have C:Cx (w1.alloc (.cells #[.int .i64 0,.int .i64 0] 35)) ns L base vs:=by
   refine⟨⟨hns.below (bF _),hLn,fun y hy=>(hnm y hy).1.below (hb1.trans ((bF _).mono hb1.size)),fun y hy=>(hnm y hy).2⟩,HN.out.2.2.2.2.below hbw2 (Nat.le_refl _),HN.out.2.2.2.1.below hbw2 (Nat.le_refl _),szd_of ok,l2,fun i=>?_,fun i=>?_⟩
   all_goals
    unfold nodeI
    rw[List.getD_eq_getElem?_getD]
    cases e:ns[i.toNat]? with
    |none=>decide
    |some N=>have:=(HN.out.2.2.1 N (List.mem_of_getElem? e)).n;simp only[Option.getD_some];omega
  have e1:((0:Int)!=0)=false:=rfl
  have hs2:(w1.alloc (.cells #[.int .i64 0,.int .i64 0] 35)).heap.size=w1.heap.size+1:=World.size_alloc _ _
  have hn:=HN.out.1
  have hxi:imI L ((n-1:Nat):Int)=x:=by
   unfold imI
   rw[Int.toNat_natCast,List.getD_eq_getElem?_getD,<-hn,hx];rfl
  have hNr:nodeI ns ((ns.length:Int)-1)=nodeI ns ((n-1:Nat):Int):=by congr 1;omega
  rw[hNr]at l3
  obtain⟨hsb,hl2⟩:=nb_se (C.sz.nb (n-1) (by omega))
  have hbk:=nb_block hsb l3
  have hpt:printT ns=catB ((nodeI ns ((n-1:Nat):Int)).ks.map fun k=>txS ns ns.length k 0++(⟨#[10]⟩:ByteArray)):=by unfold printT;rw[hNr]
  have KL:Hid (∀vb,Pw (w1.alloc (.cells #[.int .i64 0,.int .i64 0] 35)) vb 16 #[vP vb,mgV (w1.alloc (.cells #[.int .i64 0,.int .i64 0] 35)) 0,nV x] (printT ns)):=fun vb=>by
   have:=m_lines (w1.alloc (.cells #[.int .i64 0,.int .i64 0] 35)) vb ns L base vs C.tp (n-1) (by omega) _ rfl (by omega) (fun z=>txS ns ns.length z 0) (fun z hz=>by
    obtain⟨j,hj,rfl⟩:=kid_mem hz
    obtain⟨y,hy⟩:=kid_of (C.sz.nb (n-1) (by omega)) (by omega) j hj
    have h1:=sb_at _ 0 hbk j (by omega) (by omega)
    rw[hy.id]at h1⊢
    exact(vA C ns.length).s y 0 hy.len hy.len h1 (by omega))
   rw[hxi,<-hpt]at this
   exact this
  have HR:Hid (printR ns=printF ns):=by show _=_;unfold printR;rw[if_pos ok]
  obtain⟨D,hD⟩:∃D,printT ns=D:=⟨_,rfl⟩
  have HF:Hid (printF ns=if 65536<D.size then ByteArray.empty else D):=by show _=_;unfold printF;rw[hD]
  rw[hD]at KL
  obtain⟨xv,hxv⟩:∃xv,nV x=xv:=⟨_,rfl⟩
  rw[hxv]at KL
  unfold nV nodeV at hxv
  have hg:=Pg.new (w1.alloc (.cells #[.int .i64 0,.int .i64 0] 35))
  have HB:Hid (Below w.heap.size w (w1.alloc (.cells #[.int .i64 0,.int .i64 0] 35))/\Pg (w1.alloc (.cells #[.int .i64 0,.int .i64 0] 35)) ByteArray.empty ((w1.alloc (.cells #[.int .i64 0,.int .i64 0] 35)).alloc (.cells #[.slice none 0 0,.bool false] 54))/\(w1.alloc (.cells #[.int .i64 0,.int .i64 0] 35)).heap.size=w1.heap.size+1):=⟨hbw2,hg,hs2⟩
  have kv:=newVisitor_any ((w1.alloc (.cells #[.int .i64 0,.int .i64 0] 35)).alloc (.cells #[.slice none 0 0,.bool false] 54))
  rw[World.size_alloc,hs2]at kv
  have hnv:nV x=xv:=hxv
  rw[hnv]
  clear kl C hns hnm h0 ok hb1 hx hLn l1 l2 l3 hxi hNr hsb hl2 hbk hpt hD hxv hnv hg hbw2 hs2
  go_wp2_with (go_at_call 15;fail)
  refine kv.mono ?_
  rintro e w5 ⟨rfl,hv5,hb5⟩
  generalize w1.alloc (.cells #[.int .i64 0,.int .i64 0] 35)=W0 at KL HB hb5 hv5⊢
  have P5:Hid (Ps W0 (w1.heap.size+1+1) ByteArray.empty w5):=⟨HB.out.2.1.below (by rw[World.size_alloc,HB.out.2.2];exact hb5),by rw[HB.out.2.2];omega,hv5⟩
  have kq:=KL.out (w1.heap.size+1+1) _ _ P5.out
  unfold mgV mgA vP at kq
  rw[HB.out.2.2]at kq
  clear hv5 hb5 kv
  go_wp2_with (go_at_call 16;fail)
  refine kq.mono ?_
  rintro e w6 ⟨rfl,p6,k6⟩
  rw[cat_emp]at p6
  have H6:Hid (Below w.heap.size w w6):=HB.out.1.trans (p6.pg.bel.mono HB.out.1.size)
  obtain⟨o,X,ov,hb,ho,hX,hT1,hT2⟩:=p6.pg.row
  rw[HB.out.2.2]at hb
  obtain⟨dn,hdn⟩:∃dn,X.size=dn:=⟨_,rfl⟩
  rw[hdn]at ho hX
  obtain⟨av,cv,rfl⟩:=own_form ho
  have x0:w6.cell? ⟨w1.heap.size+1,0,none⟩=some (.slice av dn cv):=by rw[cell_of_row _ _ _ _ _ _ hb];rfl
  have x1:w6.cell? ⟨w1.heap.size+1,1,none⟩=some (.bool ov):=by rw[cell_of_row _ _ _ _ _ _ hb];rfl
  clear p6 k6 kq hb
  by_cases hbig:65536<D.size
  ·have e2:=hT2 hbig
   subst e2
   have HE:Hid (printR ns=ByteArray.empty):=by show _=_;rw[HR.out,HF.out,if_pos hbig]
   clear hT1 hT2 ho
   go_wp2_with fail
   go_ret
   exact⟨by rw[HE.out];rfl,H6.out⟩
  ·obtain⟨e2,e3⟩:=hT1 (by omega)
   subst e2 e3
   have HE:Hid (printR ns=X):=by show _=_;rw[HR.out,HF.out,if_neg hbig]
   clear hT1 hT2
   rcases own_zero_or ho with⟨h0,e⟩|⟨g,cap,e⟩
   ·cases e
    have hD0:X=⟨#[]⟩:=by
     apply ByteArray.ext
     have:X.data.size=0:=hdn
     exact Array.eq_empty_of_size_eq_zero this
    have kc:(convert 38 9 (.slice none 0 0)).run Tryz.prog w6= .ok (.string ⟨#[]⟩) w6:=by kernel_rfl
    clear ho hdn
    go_wp2_with fail
    go_ret
    exact⟨by rw[HE.out,hD0];rfl,H6.out⟩
   ·cases e
    have kc:=conv_strp ho
    clear hdn
    go_wp2_with fail
    go_ret
    exact⟨by rw[HE.out];rfl,H6.out⟩
end Go.Proofs.YtelfejiiabbpfaaGreatDoor
namespace Go.Proofs.YtelfejiiabbpfaaGreatDoor
open Go.RowKit Go.Maps Go.WideMaps
theorem NdsAt.formP {W:World}{v:Value}{l:List Nd}{n:Nat}(h:NdsAt W v l) (hn:l.length=n):∃a c,v= .slice a n c:=by subst hn;exact h.form
theorem Short.smallP {ns:List Nd}(h:Short ns):∀N∈ns,NdSmall N:=fun N hN=>by
 obtain⟨h1,h2,h3,h4⟩:=h.a N hN
 exact⟨h1,h2,h3,h4⟩
theorem NbsOwn.at_ {W:World}{base g n:Nat}{L:List Nb}(h:NbsOwn W base g n L []) {i:Nat}{N:Nd}(hN:(L.map Nb.N)[i]?=some N):∃x:Nb,x.N=N/\NdAt W ((⟨g,0,none⟩:Addr).add (i*9)) N x.vn x.vk:=by
 rw[List.getElem?_map]at hN
 cases hx:L[i]? with
 |none=>rw[hx]at hN;cases hN
 |some x=>
  rw[hx]at hN
  obtain rfl:=Option.some.inj hN
  exact⟨x,rfl,by rw[add_zero9];exact h.nd hx⟩
theorem NbsOwn.cap {W:World}{base g n:Nat}{L:List Nb}(h:NbsOwn W base g n L []):KCap W ⟨g,0,none⟩ (L.map Nb.N):=by
 intro i N a' c' hN hc
 obtain⟨x,hx,hd⟩:=h.at_ hN
 rw[hd.c8]at hc
 unfold Nb.vk at hc
 rw[hx]at hc
 simp only[Option.some.injEq,Value.slice.injEq]at hc
 omega
theorem NbsOwn.strj {W:World}{base g n:Nat}{L:List Nb}(h:NbsOwn W base g n L []):∀(ad:Addr) (n' c i:Nat) (N:Nd) (vn:Value),Value.slice (some ⟨g,0,none⟩) n n= .slice (some ad) n' c->(L.map Nb.N)[i]?=some N->W.cell? ⟨(ad.add (i*9)).block,(ad.add (i*9)).off+7,none⟩=some vn->StrsJ vn:=by
 intro ad n' c i N vn e hN hc
 cases e
 obtain⟨x,hx,hd⟩:=h.at_ hN
 rw[hd.c7]at hc
 obtain rfl:x.vn=vn:=by simpa using hc
 intro a m c' e
 unfold Nb.vn at e
 cases e
 exact⟨Nat.le_refl _,rfl⟩
theorem print_walk (w:World) (u:Value) (ns:List Nd) (h:NdsAt w u ns) (hs:∀N∈ns,NdLen N) (hi:∀N∈ns,NdInt N) (hl:ns.length<=9223372036854775807) (lay:Lay w) (pow:PowAt w)
  (htab:∀W,Below w.heap.size w W->Lib.TabIs Tryz.prog W "strings.asciiSpace" .u8 Lib.asciiSpaceTab):
  Calls Tryz.prog 3 #[.agg #[u]] w fun e w'=>e= .returned (.bool true)/\Below w.heap.size w w':=by
 have hb0:∀o,Below w.heap.size w (w.alloc o):=fun o=>(Below.refl _ w).alloc (Nat.le_refl _) o
 have kz:=fun o=>szTree_any (w.alloc o) u ns 1048576 (h.below (hb0 o)) hs hl (by omega) (by omega)
 obtain⟨n,hn⟩:∃n,ns.length=n:=⟨_,rfl⟩
 have HN:Hid (ns.length=n):=hn
 obtain⟨a,c,rfl⟩:=h.formP hn
 have HA:Hid (NdsAt w (.slice a n c) ns):=h
 by_cases hbk:bulkT ns<=1048576
 ·have sh:=short_of hbk
  rw[lessI_yes (by omega)]at kz
  obtain⟨R,hR⟩:∃R:Int,1048576-(bulkT ns:Int)=R:=⟨_,rfl⟩
  have hR0:¬R<0:=by omega
  rw[hR]at kz
  have hln:=sh.l
  rw[hn]at hln
  have HSH:Hid (Short ns/\(∀N∈ns,NdInt N)/\Lay w/\PowAt w/\(∀W,Below w.heap.size w W->Lib.TabIs Tryz.prog W "strings.asciiSpace" .u8 Lib.asciiSpaceTab)):=⟨sh,hi,lay,pow,htab⟩
  obtain⟨D,hD⟩:∃D,printR ns=D:=⟨_,rfl⟩
  have HD:Hid (printR ns=D):=hD
  have KT:Hid (∀W,NdsAt W (.slice a n c) ns->Calls Tryz.prog 6 #[.agg #[.slice a n c]] W fun e w'=>∃g,e= .returned (.agg #[.slice (some ⟨g,0,none⟩) n n])/\(∃L,L.map Nb.N=ns/\NbsOwn w' W.heap.size g n L [])/\Below W.heap.size W w'):=fun W hW=>by have:=toTree_any W (.slice a n c) ns hW sh.l sh.n;rw[hn]at this;exact this
  clear hR hbk h hs hl hn sh hi lay pow htab hD
  go_enter Tryz.func3,Tryz.ntmps3
  go_wp2_with (go_at_call 4;fail)
  have B0:=heap_alloc_new w (.cells #[.slice a n c] 24)
  have hs0:(w.alloc (.cells #[.slice a n c] 24)).heap.size=w.heap.size+1:=World.size_alloc _ _
  refine(kz _).mono ?_
  rintro e w1 ⟨rfl,hb1⟩
  have B1:=(hb1.block _ (by omega)).trans B0
  have hbw1:Below w.heap.size w w1:=(hb0 _).trans (hb1.mono (by omega))
  have c1:=one_cell1 B1
  clear B0 hb1 kz
  go_wp2_with (go_at_call 6;fail)
  refine(KT.out w1 (HA.out.below hbw1)).mono ?_
  rintro e w2 ⟨ga,rfl,⟨La,hLa,oa⟩,hb2⟩
  go_wp2_with (go_at_call 5;fail)
  refine(specPrint_any w2 ⟨ga,0,none⟩ n n ns (by rw[<-hLa];exact oa.nds) (by rw[<-hLa];exact oa.cap) HN.out hln HSH.out.1.smallP HSH.out.2.1).mono ?_
  rintro e w3 ⟨rfl,hb3⟩
  rw[HD.out]
  have hbw2:Below w.heap.size w w2:=hbw1.trans (hb2.mono hbw1.size)
  have hbw3:Below w.heap.size w w3:=hbw2.trans (hb3.mono hbw2.size)
  have B3:=(hb3.block _ (lt_of_block ((hb2.block _ (lt_of_block B1)).trans B1))).trans ((hb2.block _ (lt_of_block B1)).trans B1)
  have c3:=one_cell1 B3
  have hw3:w.heap.size<w3.heap.size:=lt_of_block B3
  clear c1 B1 hb2 hb3 oa hLa
  go_wp2_with (go_at_call 6;fail)
  refine(KT.out w3 (HA.out.below hbw3)).mono ?_
  rintro e w5 ⟨gx,rfl,⟨LX,hLX,ox⟩,hb5⟩
  clear c3
  go_wp2_with (go_at_call 7;fail)
  have B5:=heap_alloc_new w5 (.cells #[.slice (some ⟨gx,0,none⟩) n n] 29)
  have hb56:Below w5.heap.size w5 (w5.alloc (.cells #[.slice (some ⟨gx,0,none⟩) n n] 29)):=(Below.refl _ w5).alloc (Nat.le_refl _) _
  have hs6:(w5.alloc (.cells #[.slice (some ⟨gx,0,none⟩) n n] 29)).heap.size=w5.heap.size+1:=World.size_alloc _ _
  generalize w5.alloc (.cells #[.slice (some ⟨gx,0,none⟩) n n] 29)=W6 at B5 hb56 hs6⊢
  have ox6:=ox.below hb56
  have nx6:NdsAt W6 (.slice (some ⟨gx,0,none⟩) n n) ns:=by have:=ox6.nds;rw[hLX]at this;exact this
  have sj6:=ox6.strj
  rw[hLX]at sj6
  have hbw5:Below w.heap.size w w5:=hbw3.trans (hb5.mono hbw3.size)
  have hbw6:Below w.heap.size w W6:=hbw5.trans (hb56.mono hbw5.size)
  refine(implPrint_any W6 _ ns nx6 sj6 HSH.out.1.l HSH.out.1.smallP HSH.out.2.1 (HSH.out.2.2.1.below hbw6 (Nat.le_refl _)) (HSH.out.2.2.2.1.below hbw6 (Nat.le_refl _)) (fun W hW=>HSH.out.2.2.2.2 W (hbw6.trans (hW.mono hbw6.size)))).mono ?_
  rintro e w7 ⟨rfl,hb7⟩
  rw[HD.out]
  have hz5:=hb5.size
  have hz7:=hb7.size
  have hbw7:Below w.heap.size w w7:=hbw6.trans (hb7.mono hbw6.size)
  have nx7:=nx6.below hb7
  have b1k:=(hb7.block _ (by omega)).trans ((hb56.block _ (by omega)).trans ((hb5.block _ hw3).trans B3))
  have b5k:=(hb7.block _ (by omega)).trans B5
  have e1:=one_cell1 b1k
  have e5:=one_cell1 b5k
  have bD:∀(W:World),Below W.heap.size W W.drew:=fun W=>bel_drew1 (Below.refl _ W)
  have kt:=KT.out w7.drew ((HA.out.below hbw7).below (bD _))
  have kq:=fun (W:World) v (h1:NdsAt W v ns) (h2:NdsAt W (.slice (some ⟨gx,0,none⟩) n n) ns)=>eqTree_any W (.slice (some ⟨gx,0,none⟩) n n) v ns h2 h1 HSH.out.1.l HSH.out.1.n
  have nx9:NdsAt w7.drew (.slice (some ⟨gx,0,none⟩) n n) ns:=nx7.below (bD _)
  clear hb7 hb56 hb5 B3 B5 hbw1 hbw2 hbw3 hbw5 hbw6 nx6 ox hLX hz5 hz7 hs6 hw3 hs0 nx7 b1k b5k ox6 sj6
  go_wp2_with fail
  go_region_held3 (fun w'=>w'.cell? ⟨w.heap.size,0,none⟩=some (.slice a n c)/\w'.cell? ⟨w5.heap.size,0,none⟩=some (.slice (some ⟨gx,0,none⟩) n n)) (first|go_keep|exact⟨cell_kept hb11 (cell_kept hb10 e1),cell_kept hb11 (cell_kept hb10 e5)⟩|exact⟨cell_kept hb10 e1,cell_kept hb10 e5⟩) (first|(go_at_call 6;refine kt.mono ?_;rintro e w10 ⟨gt,rfl,⟨LT,hLT,ot⟩,hb10⟩)|(go_at_call 8;refine(kq _ _ (by have:=ot.nds;rw[hLT]at this;exact this) (nx9.below hb10)).mono ?_;rintro e w11 ⟨rfl,hb11⟩))
  have b911:Below w7.heap.size w7 w11:=((bD w7).trans hb10).trans (hb11.mono hb10.size)
  go_wp2_with fail
  go_ret
  exact⟨rfl,hbw7.trans (b911.mono hbw7.size)⟩
 ·rw[lessI_no (by omega)]at kz
  clear hbk h hs hl hn
  go_enter Tryz.func3,Tryz.ntmps3
  go_wp2_with (go_at_call 4;refine(kz _).mono ?_;rintro e w1 ⟨rfl,hb1⟩)
  go_ret
  exact⟨rfl,(hb0 _).trans (hb1.mono (by simp))⟩
end Go.Proofs.YtelfejiiabbpfaaGreatDoor
