import Derived.Test.YtnoojdbdapljoaaGreatDoorHOk02
import Derived.Test.YtnoojdbdapljoaaGreatDoorHOk04
set_option linter.all false
set_option maxRecDepth 100000
set_option maxHeartbeats 3200000
open Go.Proofs.Tryz renaming prog->M,sizeOf3->X,isAgg3->Z
open Option renaming some->N,none->O
open Go.Value renaming pointer->Q,string->Y,int->Ax,slice->A0,tuple->A2
open Go.Ending renaming returned->R
open Go renaming World->S,Calls->V,Value->A3
open Go.Shelf renaming Ren->U
open Go.RowKit renaming Below->W,intOf->A1
namespace Go.Proofs.YtnoojdbdapljoaaGreatDoor
open Go.RowKit
theorem Cc(s:ByteArray)(ao:s.size<=4000)(w:S):
  V M 44 #[Y s] w fun e t=>e= R (Y (ga (yK s)))/\W w.heap.size w t:=by
 go_in;go_wp2_with fail;go_loopw [4,5] (fun A r wr=>∃b g:Nat,b<=s.size/\r= Ax .i64 b/\wr.ownsRow w.heap.size 5 1 A g (B8 (qt s b))/\W w.heap.size w wr) (fun _ r _=>s.size-(A1 r).toNat)
 case atStart=>exact⟨0,1,be _,rfl,oI w 34,(aj _ _).alloc (ah _) _⟩
 case round=>
  obtain⟨b,g,u,rfl,h,c⟩:=hrel;have x:=tJ h;have z:=CG s b u;have an:g<=20000:=by omega
  clear x z;by_cases y:b<s.size
  ·have i:Hid (qt s (b+1)=qt s b++By (s[b].toNat:Int)):=CF s b y;obtain⟨a,q⟩:∃a:Int,a=(s[b].toNat:Int):=⟨_,rfl⟩;have af:0<=a:=by omega
   have ak:a<256:=by have:=s[b].toNat_lt;omega
   rw[<-q]at i;have am:∀w,(Instr.index 9 (Y s) (Ax .i64 (b:Int))).run M w= .ok (Ax .u8 a) w:=by
    intro w;rw[q];go_simp
   clear q;by_cases k:a=10
   ·subst k;go_wp2_with (at_builtin;refine gE rfl (.tmp 24) (.tmp 25) rfl w.heap.size _ g (qt s b) rfl h c.size (by omega) [92,110] 2 rfl (by decide) (by decide) _ rfl rfl ?_;intro m j w1 f d);go_roundw
    case rel=>exact⟨b+1,_,by omega,by go_num,by rw[i.out];exact f,c.trans d⟩
    case measure=>simp[A1];omega
   have I:(a==10)=false:=by simp[k]
   by_cases l:a=9
   ·subst l;go_wp2_with (at_builtin;refine gE rfl (.tmp 30) (.tmp 31) rfl w.heap.size _ g (qt s b) rfl h c.size (by omega) [92,116] 2 rfl (by decide) (by decide) _ rfl rfl ?_;intro m j w1 f d);go_roundw
    case rel=>exact⟨b+1,_,by omega,by go_num,by rw[i.out];exact f,c.trans d⟩
    case measure=>simp[A1];omega
   have J:(a==9)=false:=by simp[l]
   by_cases n:a=34
   ·subst n;go_wp2_with (at_builtin;refine gE rfl (.tmp 40) (.tmp 42) rfl w.heap.size _ g (qt s b) rfl h c.size (by omega) [92,34] 2 rfl (by decide) (by decide) _ rfl rfl ?_;intro m j w1 f d);go_roundw
    case rel=>exact⟨b+1,_,by omega,by go_num,by rw[i.out];exact f,c.trans d⟩
    case measure=>simp[A1];omega
   have K:(a==34)=false:=by simp[n]
   by_cases o:a=92
   ·subst o;go_wp2_with (at_builtin;refine gE rfl (.tmp 40) (.tmp 42) rfl w.heap.size _ g (qt s b) rfl h c.size (by omega) [92,92] 2 rfl (by decide) (by decide) _ rfl rfl ?_;intro m j w1 f d);go_roundw
    case rel=>exact⟨b+1,_,by omega,by go_num,by rw[i.out];exact f,c.trans d⟩
    case measure=>simp[A1];omega
   have L:(a==92)=false:=by simp[o]
   by_cases e5:a<32\/126<a
   ·have p:Hid (By a=[92,120,qo (a / 16),qo (a%16)]):=by unfold By Hid;rw[aa k,aa l,aa (by omega),ab e5]
    clear k l n o;have ap:=vh (a / 16) (by omega) (by omega);have ar:=vh (a%16) (by omega) (by omega);have ad:bits .and .u8 a 15=a%16:=ahs a (by omega) (by omega);have B:0<=a / 16:=by omega
    have C:a / 16<16:=by omega
    have E:0<=a%16:=by omega
    have F:a%16<16:=by omega
    rcases e5 with e5|e5;all_goals
     go_wp2_with fail;go_region_held3 (fun t=>True) (trivial) ((refine yA (by rfl) _ _ (by rfl) w.heap.size _ g (qt s b) (by rfl) h c.size (by omega) [92,120,_,_] 4 (by rfl) (by decide) (by decide) _ (by rfl) (by rfl) ?_;intro m j w1 f d))
     all_goals
      go_wp2;go_roundw
      case rel=>exact⟨b+1,_,by omega,by go_num,by rw[i.out,p.out];assumption,c.trans (by assumption)⟩
      case measure=>simp[A1];omega
   ·have p:Hid (By a=[a]):=by unfold By Hid;rw[aa k,aa l,aa (by omega),aa e5]
    have G:¬a<32:=by omega
    have H:¬126<a:=by omega
    clear k l n o e5;go_wp2_with (at_builtin;refine gE rfl (.tmp 17) (.tmp 19) rfl w.heap.size _ g (qt s b) rfl h c.size (by omega) [a] 1 rfl (by decide) (by decide) _ rfl rfl ?_;intro m j w1 f d);go_roundw
    case rel=>exact⟨b+1,_,by omega,by go_num,by rw[i.out,p.out];exact f,c.trans d⟩
    case measure=>simp[A1];omega
  ·have v:b=s.size:=by omega
   subst v;go_wp2_with (at_builtin;refine gE rfl (.tmp 62) (.tmp 63) rfl w.heap.size _ g (qt s s.size) rfl h c.size (by omega) [34] 1 rfl (by decide) (by decide) _ rfl rfl ?_;intro m j w1 f d;have av:=je f);go_ret;exact⟨rfl,c.trans d⟩
open Go.Maps Go.WideMaps
abbrev BuF(a b:Nat)(c:List A3)(w:S):Prop:=Lib.IsBuilderF 68 5 a b c w
abbrev BuA(a b:Nat)(c:List A3)(w:S):Prop:=Lib.BuilderAtF 68 5 a b (Q (N ⟨b,0,O⟩)) c w
theorem qm(b:Nat)(w:S)(h:w.cell? ⟨b,0,O⟩=N (.pointer O))(d:w.shape? b=N (68,2))(i:w.frozen? ⟨b,0,O⟩=false):
  V M 38 #[.pointer (N ⟨b,0,O⟩)] w fun e g=>e= .returned (.tuple #[])/\g=w.setCell ⟨b,0,O⟩ (.pointer (N ⟨b,0,O⟩)):=by
 obtain⟨j,c,f⟩:=Option.map_eq_some_iff.1 (show(Tryz.prog.info? 68).map (·.size)=N 2 by kernel_rfl);have k:=Lib.run_to_unsafe (P:=M) (w:=w) ⟨b,0,O⟩ Tryz.underlying66 Tryz.underlying138 c (by rw[f];decide) d (Nat.zero_lt_succ 1);have l:=Lib.run_from_unsafe (P:=M) (w:=w) ⟨b,0,O⟩ Tryz.underlying138 Tryz.underlying66 c d (by kernel_rfl);have m:∀a,(callFunc 71 #[a]).run M w= .ok (.value a) w:=fun a=>by
  rw[run_callFunc_extern Tryz.func71 (by kernel_rfl) (by kernel_rfl) (by kernel_rfl) (e:=Extern.AbiNoEscape.same) (by kernel_rfl),Lib.run_noEscape];rfl
 go_in;go_wp2;go_end0
 exact⟨rfl,rfl⟩
theorem zE(b:Nat)(w:S)(d:w.cell? ⟨b,0,O⟩=N (.pointer (N ⟨b,0,O⟩)))(g:w.shape? b=N (68,2)):
  V M 38 #[.pointer (N ⟨b,0,O⟩)] w fun e c=>e= .returned (.tuple #[])/\c=w:=by
 obtain⟨h,a,f⟩:=Option.map_eq_some_iff.1 (show(Tryz.prog.info? 68).map (·.size)=N 2 by kernel_rfl);have i:=Lib.run_neq_ptr_same (P:=M) w ⟨b,0,O⟩ Tryz.underlying66 a;go_in;go_wp2;go_end0
 exact⟨rfl,rfl⟩
theorem AK(a b:Nat)(d:List A3)(w:S)(h:BuF a b d w):
  V M 38 #[Q (N ⟨b,0,O⟩)] w fun e c=>e= R (A2 #[])/\BuA a b d c/\W a w c:=by
 rcases h with h|h
 ·refine(qm b w h.cell0 h.shape h.frozen0).mono ?_;rintro e c ⟨rfl,rfl⟩;exact⟨rfl,h.used _,(aj a w).setCell (p:=⟨b,0,O⟩) h.1 _⟩
 ·refine(zE b w h.cell0 h.shape).mono ?_;rintro e c ⟨rfl,rfl⟩;exact⟨rfl,h,aj a _⟩
theorem xu(a b:Nat)(c:List A3)(s:ByteArray)(w:S)(h:BuF a b c w)(ar:c.length+s.size<=140737488355328)(ap:a<=w.heap.size):
  V M 21 #[.pointer (N ⟨b,0,O⟩),.string s] w fun e v=>e= .returned (.tuple #[.int .i64 s.size,.nilIface])/\BuA a b (c++Lib.strCells s) v/\W a w v:=by
 obtain⟨G,y,C,E,F⟩:=dC (show(Tryz.prog.info? 5).map (fun k=>(k.zero,k.size,k.bytes))=N (N (.int .u8 0),1,1) by kernel_rfl);go_in;go_wp2_with (go_at_call 38;refine(AK a b c _ h).mono ?_);rintro e w1 ⟨rfl,x,o⟩;obtain⟨n,l,f,r,B⟩:=x;have J:w1.cell? ⟨b,0,O⟩=N (.pointer (N ⟨b,0,O⟩)):=by rw[Lib.cell_of_heap f];rfl
 have K:w1.cell? ⟨b,1,O⟩=N l:=by rw[Lib.cell_of_heap f];rfl
 have av:=o.size;go_wp2_with (at_builtin;refine Lib.wpList_append_own_stringF _ rfl _ _ 22 9 rfl a 5 G Tryz.underlying22 Tryz.underlying9 y C E F _ _ _ rfl r s rfl (by unfold maxLen;omega) (by omega) (by omega) ?_);intro I g t q _;have A:b<w1.heap.size:=ax f;have d:g.heap[b]?=N (.cells #[.pointer (N ⟨b,0,O⟩),l] 68 (0,0)):=by
  rw[q.block b A (fun e=>B e.symm)];exact f
 have ad:g.cell? ⟨b,0,O⟩=N (.pointer (N ⟨b,0,O⟩)):=by rw[Lib.cell_of_heap d];rfl
 have af:g.cell? ⟨b,1,O⟩=N l:=by rw[Lib.cell_of_heap d];rfl
 have ak:g.frozen? ⟨b,1,O⟩=false:=Lib.frozen_of_heap d 1;obtain⟨m,u,i,rfl⟩:∃m u i,I= .slice m u i:=by
  rcases t.2 with⟨j,_⟩|⟨an,i,L,am,j,_⟩
  ·exact⟨_,_,_,j⟩
  ·exact⟨_,_,_,j⟩
 go_wp2;go_ret2;refine⟨rfl,?_,?_⟩
 ·exact Lib.BuilderAtF.put (T:=68) (e:=5) n d (bs':=c++Lib.strCells s) (by simpa [Lib.strCells_length] using t) (by decide)
 ·exact(o.grown q (by omega) (fun H z=>(r.lt H z).1)).setCell (p:=⟨b,1,O⟩) n _
end Go.Proofs.YtnoojdbdapljoaaGreatDoor
namespace Go.Proofs
open Go.Shelf
def Tryz.lays170_ren:U:=⟨fun|170=>165|n=>n,fun|70=>66|3=>3|0=>0|72=>68|37=>22|5=>5|n=>n,fun|n=>n⟩
theorem Tryz.lays170:Go.Proofs.Lays.n170 M Tryz.lays170_ren:={
 mixed:=by kernel_rfl
 f170:=Tryz.func165.trans (congrArg N (by kernel_rfl))
 t0:=Tryz.underlying0
 a0:=Tryz.isAgg0
 z0:=Tryz.sizeOf0
 v0:=Tryz.zeroValue0
 t3:=Tryz.underlying3
 a3:=Z
 z3:=X
 v3:=Tryz.zeroValue3
 t37:=Tryz.underlying22
 a37:=Tryz.isAgg22
 z37:=Tryz.sizeOf22
 v37:=Tryz.zeroValue22
 t70:=Tryz.underlying66
 a70:=Tryz.isAgg66
 z70:=Tryz.sizeOf66
 v70:=Tryz.zeroValue66
 t72:=Tryz.underlying68
 a72:=Tryz.isAgg68
 z72:=Tryz.sizeOf68
 v72:=Tryz.zeroValue68}
def Tryz.lays169_ren:U:=⟨fun|169=>23|n=>n,fun|70=>66|9=>9|0=>0|72=>68|37=>22|127=>103|3=>3|5=>5|n=>n,fun|n=>n⟩
theorem Tryz.lays169:Go.Proofs.Lays.n169 M Tryz.lays169_ren:={
 mixed:=by kernel_rfl
 f169:=Tryz.func23.trans (congrArg N (by kernel_rfl))
 t0:=Tryz.underlying0
 a0:=Tryz.isAgg0
 z0:=Tryz.sizeOf0
 v0:=Tryz.zeroValue0
 t3:=Tryz.underlying3
 a3:=Z
 z3:=X
 v3:=Tryz.zeroValue3
 t9:=Tryz.underlying9
 a9:=Tryz.isAgg9
 z9:=Tryz.sizeOf9
 v9:=Tryz.zeroValue9
 t37:=Tryz.underlying22
 a37:=Tryz.isAgg22
 z37:=Tryz.sizeOf22
 v37:=Tryz.zeroValue22
 t70:=Tryz.underlying66
 a70:=Tryz.isAgg66
 z70:=Tryz.sizeOf66
 v70:=Tryz.zeroValue66
 t72:=Tryz.underlying68
 a72:=Tryz.isAgg68
 z72:=Tryz.sizeOf68
 v72:=Tryz.zeroValue68
 t127:=Tryz.underlying103
 a127:=Tryz.isAgg103
 z127:=Tryz.sizeOf103
 v127:=Tryz.zeroValue103}
theorem Tryz.Builder_Extra_169:Builder.Extra M Tryz.lays169_ren:={
 sizeBuilder:=by kernel_rfl
 liesBuilder:=by kernel_rfl
 t5:=Tryz.underlying5
 a5:=Tryz.isAgg5
 z5:=Tryz.sizeOf5
 v5:=Tryz.zeroValue5
 infoByte:=by kernel_rfl
 cellsByte:=by kernel_rfl
 sizeByte:=by kernel_rfl
 neB5:=by decide}
def Tryz.lays241_ren:U:=⟨fun|241=>138|277=>174|n=>n,fun|70=>66|3=>3|0=>0|72=>68|37=>22|5=>5|n=>n,fun|n=>n⟩
theorem Tryz.lays241:Go.Proofs.Lays.n241 M Tryz.lays241_ren:={
 mixed:=by kernel_rfl
 f241:=Tryz.func138.trans (congrArg N (by kernel_rfl))
 f277:=Tryz.func174.trans (congrArg N (by kernel_rfl))
 t0:=Tryz.underlying0
 a0:=Tryz.isAgg0
 z0:=Tryz.sizeOf0
 v0:=Tryz.zeroValue0
 t3:=Tryz.underlying3
 a3:=Z
 z3:=X
 v3:=Tryz.zeroValue3
 t37:=Tryz.underlying22
 a37:=Tryz.isAgg22
 z37:=Tryz.sizeOf22
 v37:=Tryz.zeroValue22
 t70:=Tryz.underlying66
 a70:=Tryz.isAgg66
 z70:=Tryz.sizeOf66
 v70:=Tryz.zeroValue66
 t72:=Tryz.underlying68
 a72:=Tryz.isAgg68
 z72:=Tryz.sizeOf68
 v72:=Tryz.zeroValue68}
theorem Tryz.Builder_Extra_241:Builder.Extra M Tryz.lays241_ren:={
 sizeBuilder:=by kernel_rfl
 liesBuilder:=by kernel_rfl
 t5:=Tryz.underlying5
 a5:=Tryz.isAgg5
 z5:=Tryz.sizeOf5
 v5:=Tryz.zeroValue5
 infoByte:=by kernel_rfl
 cellsByte:=by kernel_rfl
 sizeByte:=by kernel_rfl
 neB5:=by decide}
open Go.RowKit in
theorem Tryz.Builder_grow_fresh(a b n:Nat)(w:S)(d:a<=b)(g:w.heap[b]?=N (.cells #[Q (N ⟨b,0,O⟩),A0 O 0 0] 68 (0,0)))(f:a<=w.heap.size)(h:n<=281474976710656):
  V M 138 #[Q (N ⟨b,0,O⟩),Ax .i64 n] w fun e c=>e= R (A2 #[])/\(Lib.BuilderAt 68 5 a b (Q (N ⟨b,0,O⟩)) [] c/\W a w c):=Any.Builder_grow_fresh Tryz.lays241 Tryz.Builder_Extra_241 a b n w d g f h
open Go.RowKit in
theorem Tryz.Builder_Len_f(c b:Nat)(a:List A3)(w:S)(h:Lib.IsBuilderF 68 5 c b a w):
  V M 165 #[Q (N ⟨b,0,O⟩)] w fun e d=>e= R (Ax .i64 a.length)/\d=w:=Any.Builder_Len_f Tryz.lays170 c b a w h
open Go.RowKit in
theorem Tryz.Builder_String_any_k(a b:Nat)(c:List UInt8)(w:S)(h:Lib.IsBuilderF 68 5 a b (Lib.byteCells c) w)(f:a<=w.heap.size):
  V M 23 #[Q (N ⟨b,0,O⟩)] w fun e d=>e= R (Y ⟨c.toArray⟩)/\(Lib.IsBuilderF 68 5 a b (Lib.byteCells c) d/\W a w d/\Lib.OthersKept 5 (N b) w d):=Any.Builder_String_any_k Tryz.lays169 Tryz.Builder_Extra_169 a b c w h f
def Tryz.laysM171_ren:U:=⟨fun|171=>39|243=>72|246=>73|283=>134|284=>135|285=>136|286=>137|129=>170|317=>169|318=>171|319=>172|320=>173|337=>193|338=>194|n=>n,fun|3=>3|9=>9|2=>2|4=>4|171=>195|0=>0|53=>48|37=>22|5=>5|173=>198|212=>211|51=>212|20=>20|213=>213|46=>141|232=>238|233=>239|n=>n,fun|17=>1|18=>5|19=>6|n=>n⟩
theorem Tryz.laysM171:Go.Proofs.LaysM.n171 M Tryz.laysM171_ren:={
 mixed:=by kernel_rfl
 f129:=Tryz.func170.trans (congrArg N (by kernel_rfl))
 f171:=Tryz.func39.trans (congrArg N (by kernel_rfl))
 f243:=Tryz.func72.trans (congrArg N (by kernel_rfl))
 f246:=Tryz.func73.trans (congrArg N (by kernel_rfl))
 f283:=Tryz.func134.trans (congrArg N (by kernel_rfl))
 f284:=Tryz.func135.trans (congrArg N (by kernel_rfl))
 f285:=Tryz.func136.trans (congrArg N (by kernel_rfl))
 f286:=Tryz.func137.trans (congrArg N (by kernel_rfl))
 f317:=Tryz.func169.trans (congrArg N (by kernel_rfl))
 f318:=Tryz.func171.trans (congrArg N (by kernel_rfl))
 f319:=Tryz.func172.trans (congrArg N (by kernel_rfl))
 f320:=Tryz.func173.trans (congrArg N (by kernel_rfl))
 f337:=Tryz.func193.trans (congrArg N (by kernel_rfl))
 f338:=Tryz.func194.trans (congrArg N (by kernel_rfl))
 t0:=Tryz.underlying0
 a0:=Tryz.isAgg0
 z0:=Tryz.sizeOf0
 v0:=Tryz.zeroValue0
 t2:=Tryz.underlying2
 a2:=Tryz.isAgg2
 z2:=Tryz.sizeOf2
 v2:=Tryz.zeroValue2
 t3:=Tryz.underlying3
 a3:=Z
 z3:=X
 v3:=Tryz.zeroValue3
 t4:=Tryz.underlying4
 a4:=Tryz.isAgg4
 z4:=Tryz.sizeOf4
 v4:=Tryz.zeroValue4
 t5:=Tryz.underlying5
 a5:=Tryz.isAgg5
 z5:=Tryz.sizeOf5
 v5:=Tryz.zeroValue5
 t9:=Tryz.underlying9
 a9:=Tryz.isAgg9
 z9:=Tryz.sizeOf9
 v9:=Tryz.zeroValue9
 t20:=Tryz.underlying20
 a20:=Tryz.isAgg20
 z20:=Tryz.sizeOf20
 v20:=Tryz.zeroValue20
 t37:=Tryz.underlying22
 a37:=Tryz.isAgg22
 z37:=Tryz.sizeOf22
 v37:=Tryz.zeroValue22
 t46:=Tryz.underlying141
 a46:=Tryz.isAgg141
 z46:=Tryz.sizeOf141
 v46:=Tryz.zeroValue141
 t51:=Tryz.underlying212
 a51:=Tryz.isAgg212
 z51:=Tryz.sizeOf212
 v51:=Tryz.zeroValue212
 t53:=Tryz.underlying48
 a53:=Tryz.isAgg48
 z53:=Tryz.sizeOf48
 v53:=Tryz.zeroValue48
 t171:=Tryz.underlying195
 a171:=Tryz.isAgg195
 z171:=Tryz.sizeOf195
 v171:=Tryz.zeroValue195
 t173:=Tryz.underlying198
 a173:=Tryz.isAgg198
 z173:=Tryz.sizeOf198
 v173:=Tryz.zeroValue198
 t212:=Tryz.underlying211
 a212:=Tryz.isAgg211
 z212:=Tryz.sizeOf211
 v212:=Tryz.zeroValue211
 t213:=Tryz.underlying213
 a213:=Tryz.isAgg213
 z213:=Tryz.sizeOf213
 t232:=Tryz.underlying238
 a232:=Tryz.isAgg238
 z232:=Tryz.sizeOf238
 v232:=Tryz.zeroValue238
 t233:=Tryz.underlying239
 a233:=Tryz.isAgg239
 z233:=Tryz.sizeOf239
 v233:=Tryz.zeroValue239
 g17:=by kernel_rfl
 g18:=by kernel_rfl
 g19:=by kernel_rfl
 i0:=by kernel_rfl
 i2:=by kernel_rfl
 i3:=by kernel_rfl
 i4:=by kernel_rfl
 i5:=by kernel_rfl
 i9:=by kernel_rfl
 i20:=by kernel_rfl
 i37:=by kernel_rfl
 i46:=by kernel_rfl
 i51:=by kernel_rfl
 i53:=by kernel_rfl
 i171:=by kernel_rfl
 i173:=by kernel_rfl
 i212:=by kernel_rfl
 i232:=by kernel_rfl
 i233:=by kernel_rfl
 m17:=by kernel_rfl
 m18:=by kernel_rfl
 m19:=by kernel_rfl}
open Go.RowKit Go.Sort Go.Lib in
theorem Tryz.strconv_Itoa(n:Int)(a: -9223372036854775808<=n)(b:n<=9223372036854775807)(w:S)(c:Lib.TabIs M w "internal/strconv.uint64pow10" .u64 Lib.pow10Tab):
  V M 39 #[Ax .i64 n] w fun e d=>e= R (Y ⟨(Lib.itoa n).toArray⟩)/\∃k os,d=grow (w.drewN k) os:=Any.strconv_Itoa Tryz.laysM171 n a b w c
end Go.Proofs
namespace Go.Proofs.YtnoojdbdapljoaaGreatDoor
open Go.RowKit Go.Maps Go.WideMaps
theorem Ff(a b n:Nat)(w:S)(i:a<=b)(f:w.heap[b]?=N (.cells #[Q O,A0 O 0 0] 68 (0,0)))(t:a<=w.heap.size)(o:n<=281474976710656)(s:0<n):
  V M 75 #[Q (N ⟨b,0,O⟩),Ax .i64 n] w fun e g=>e= R (A2 #[])/\BuA a b [] g/\W a w g:=by
 have h:(w.setCell ⟨b,0,O⟩ (Q (N ⟨b,0,O⟩))).heap[b]?=N (.cells #[Q (N ⟨b,0,O⟩),A0 O 0 0] 68 (0,0)):=cD _ b 0 _ _ _ f;have c:W a w (w.setCell ⟨b,0,O⟩ (Q (N ⟨b,0,O⟩))):=(aj a w).setCell (p:=⟨b,0,O⟩) i _;have j:=qm b w (by rw[Lib.cell_of_heap f];rfl) (by simp[World.shape?,f]) (Lib.frozen_of_heap f 0);have u:¬(n:Int)<0:=by omega
 have v:(0:Int)<(n:Int):=by omega
 go_in;go_wp2_with (go_at_call 38;refine j.mono ?_;rintro e w1 ⟨rfl,rfl⟩);generalize w.setCell ⟨b,0,O⟩ (Q (N ⟨b,0,O⟩))=d at h c⊢;have k:d.cell? ⟨b,1,O⟩=N (A0 O 0 0):=by rw[Lib.cell_of_heap h];rfl
 have x:=c.size;clear j;go_region_held3 (fun g=>g.cell? ⟨b,1,O⟩=N (A0 O 0 0)) (first|go_keep|exact k) (fail)
 have r:=Tryz.Builder_grow_fresh a b n d.drew i h (by simpa using(show a<=d.heap.size by omega)) o;go_wp2_with (go_at_call 138;refine r.mono ?_;rintro e y ⟨rfl,l,m⟩);all_goals first
  |(rename_i q;rw[cJ]at q;omega)
  |skip
 go_end0
 exact⟨rfl,Lib.BuilderAtF.of l,(⟨c.os,c.tape,c.output,c.size,c.block⟩:W a w d.drew).trans m⟩
def Bu(a b:Nat)(T:ByteArray)(w:S):Prop:=BuF a b (Lib.strCells T) w
theorem AL(a b:ByteArray):Lib.strCells (a++b)=Lib.strCells a++Lib.strCells b:=by
 unfold Lib.strCells;rw[jj,Cy,en]
theorem kJ(a b:Nat)(T s:ByteArray)(w:S)(h:Bu a b T w)(i:T.size+s.size<=140737488355328)(g:a<=w.heap.size):
  V M 21 #[Q (N ⟨b,0,O⟩),Y s] w fun e c=>e= R (A2 #[Ax .i64 s.size,.nilIface])/\Bu a b (T++s) c/\W a w c:=by
 refine(xu a b _ s w h (by rw[Lib.strCells_length];exact i) g).mono ?_;rintro e c ⟨rfl,d,f⟩;exact⟨rfl,.inr (by rw[AL];exact d),f⟩
theorem ta(a b:Nat)(T:ByteArray)(w:S)(h:Bu a b T w)(g:a<=w.heap.size):
  V M 23 #[Q (N ⟨b,0,O⟩)] w fun e c=>e= R (Y T)/\Bu a b T c/\W a w c:=by
 refine(Tryz.Builder_String_any_k a b T.data.toList w h g).mono ?_;rintro e c ⟨rfl,d,f,_⟩;exact⟨rfl,d,f⟩
theorem aif(a:Nat)(w:S)(b:a<=w.heap.size):Bu a w.heap.size ⟨#[]⟩ (w.alloc (.cells #[Q O,A0 O 0 0] 68)):=
 .inl ⟨b,A0 O 0 0,aw w _,World.ownsRowF_of (bk _ _ _ _),by simp[Value.ownBlock]⟩
theorem Bu.lt{a b:Nat}{T:ByteArray}{w:S}(h:Bu a b T w):b<w.heap.size:=by
 rcases h with⟨_,c,h,_⟩|⟨_,c,h,_⟩
 ·exact ax h
 ·exact ax h
end Go.Proofs.YtnoojdbdapljoaaGreatDoor
namespace Go.Proofs
open Go.Shelf
def Tryz.lays212_ren:U:=⟨fun|212=>163|263=>186|264=>187|n=>n,fun|46=>141|51=>212|146=>221|53=>48|148=>223|n=>n,fun|n=>n⟩
theorem Tryz.lays212:Go.Proofs.Lays.n212 M Tryz.lays212_ren:={
 mixed:=by kernel_rfl
 f212:=Tryz.func163.trans (congrArg N (by kernel_rfl))
 f263:=Tryz.func186.trans (congrArg N (by kernel_rfl))
 f264:=Tryz.func187.trans (congrArg N (by kernel_rfl))
 t46:=Tryz.underlying141
 a46:=Tryz.isAgg141
 z46:=Tryz.sizeOf141
 v46:=Tryz.zeroValue141
 t51:=Tryz.underlying212
 a51:=Tryz.isAgg212
 z51:=Tryz.sizeOf212
 v51:=Tryz.zeroValue212
 t53:=Tryz.underlying48
 a53:=Tryz.isAgg48
 z53:=Tryz.sizeOf48
 v53:=Tryz.zeroValue48
 t146:=Tryz.underlying221
 a146:=Tryz.isAgg221
 z146:=Tryz.sizeOf221
 v146:=Tryz.zeroValue221
 t148:=Tryz.underlying223
 a148:=Tryz.isAgg223
 z148:=Tryz.sizeOf223
 v148:=Tryz.zeroValue223}
open Go.RowKit Go.Lib in
theorem Tryz.bits_Mul(x y:Nat)(a:x<18446744073709551616)(b:y<18446744073709551616)(w:S):
  V M 163 #[Ax .u64 x,Ax .u64 y] w fun e c=>e= R (A2 #[Ax .u64 ((x*y / 18446744073709551616:Nat):Int),Ax .u64 ((x*y%18446744073709551616:Nat):Int)])/\c=w:=Any.bits_Mul Tryz.lays212 x y a b w
end Go.Proofs
