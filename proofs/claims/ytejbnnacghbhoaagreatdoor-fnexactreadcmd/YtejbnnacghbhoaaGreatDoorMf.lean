import Derived.Test.YtejbnnacghbhoaaGreatDoorMn
import Derived.Test.YtejbnnacghbhoaaGreatDoorMe
import Derived.Test.YtejbnnacghbhoaaGreatDoorMb
set_option linter.unusedSimpArgs false
set_option linter.unusedVariables false
set_option maxHeartbeats 16000000
set_option maxRecDepth 100000
namespace Go.Proofs.YtejbnnacghbhoaaGreatDoor
open Go.RowKit Go.Maps Go.Sort Go.Shelf
theorem list_getD (L:List SR):(List.range L.length).map (fun i=>L.getD i dSR)=L:=by
 apply List.ext_getElem?;intro i;rw [List.getElem?_map];by_cases h:i<L.length
 ·rw [List.getElem?_range h,List.getElem?_eq_getElem h];simp [List.getD_eq_getElem?_getD,List.getElem?_eq_getElem h]
 ·rw [List.getElem?_eq_none (by simpa using h),List.getElem?_eq_none (by omega)];rfl
theorem flat_ms (L:List SR):QC srC L=msX (sK L) (sC L) (sR L) (sT L) (sM L) L.length:=by
 unfold QC msX;conv=>lhs;rw [←list_getD L]
 rw [List.flatMap_map];rfl
theorem rdI_sz (x:List UInt8):(rdI x).t.size≤x.length:=by
 have h1:=cr_len 32 x;have h2:=cr_len 32 (cr 32 x);unfold rdI;simp only;split
 ·rw [Qz];omega
 split
 ·rw [Qz];omega
 ·rw [Qz];omega
theorem lnI_sz (l:List UInt8): ∀x∈lnI l,x.length≤l.length:=by
 intro x hx;obtain⟨h1,h2⟩:=Qhj l;unfold lnI at hx;rcases List.mem_append.1 hx with hx | hx
 ·exact h1 x hx
 ·split at hx
  ·cases hx
  ·rw [List.mem_singleton]at hx;subst hx;exact h2
theorem lnI_many (l:List UInt8):(lnI l).length≤l.length+1:=by
 unfold lnI;rw [List.length_append,EJ];have:=List.count_le_length (a:=(10:UInt8)) (l:=l);split
 ·simp;omega
 ·simp;omega
theorem rmT_sz {s:ByteArray} (hs:s.size≤1048576) (i:Nat) (hi:i<(rmI s).length):(sT (rmI s) i).size≤1048576:=by
 have e:(rmI s).getD i dSR=(rmI s)[i]:=by rw [List.getD_eq_getElem?_getD,List.getElem?_eq_getElem hi];rfl
 unfold sT;rw [e];obtain⟨x,hx,he⟩:=List.mem_map.1 (List.getElem_mem hi);rw [←he];have h1:=rdI_sz x;have h2:=lnI_sz _ x hx;have h3:s.data.toList.length=s.size:=by simp
 omega
theorem lines_in (n:Nat) (s:ByteArray) (w:World):
  CallsIn Fence.wide n Tryz.prog 46 #[.string s] w fun e w'=>e= .returned (.func (.func 88) #[] #[.pointer (some ⟨w.heap.size,0,none⟩)])∧w'=w.alloc (.cells #[.string s] 9):=by
 refine callsIn_of_wp Tryz.func46 rfl trivial ?_ rfl;simp only [Tryz.ntmps46,List.size_toArray,List.length_cons,List.length_nil,Nat.reduceAdd,Nat.reduceSub,Array.replicate_succ,Array.replicate_zero,List.push_toArray,List.append_toArray,List.nil_append,List.cons_append];gi_wp2
 go_ret;exact⟨rfl,rfl⟩
def PostRM (s:ByteArray) (B:Nat) (w':World) (e:Ending):Prop:=
 (rmB s=true∧ ∃v,e= .returned (.tuple #[v,.bool true])∧w'.ownsRow B 69 5 v (rmI s).length (QC srC (rmI s)))∨(rmB s=false∧e= .returned (.tuple #[.slice none 0 0,.bool false]))
theorem rm_in (n0:Nat) (hn0:4≤n0) (s:ByteArray) (w:World) (hs:s.size≤1048576) (hg:RG w):
  CallsIn Fence.wide n0 Tryz.prog 17 #[.string s] w fun e w'=>PostRM s w.heap.size w' e∧Below w.heap.size w w':=by
 have h1:1≤n0:=by omega
 have HG:Hid (RG w):=hg;have hne:=stSlNe;have eg: ∀args w,(callFunc 88 args).run Tryz.prog w= .ok (.enter 88 args) w:=enters_of Tryz.func88 (by kernel_rfl) rfl;obtain⟨cn,HCN⟩: ∃cn:Nat,Hid (s.data.toList.count 10=cn):=⟨_,rfl⟩;refine callsIn_of_wp_marks Tryz.func17 rfl trivial ?_ rfl;simp only [Tryz.ntmps17,List.size_toArray,List.length_cons,List.length_nil,Nat.reduceAdd,Nat.reduceSub,Array.replicate_succ,Array.replicate_zero,List.push_toArray,List.append_toArray,List.nil_append,List.cons_append];gi_wp2
 refine⟨trivial,?_⟩;refine(callsIn_wide.2 (Qn6 s _)).mono ?_;rintro e w' ⟨rfl,rfl⟩;rw [HCN.out];clear hg;by_cases h30:cn≤30
 ·have q1: ¬(30:Int)<(cn:Int):=by omega
  have q2: ¬30<cn:=by omega
  have q3:decide ((30:Int)<(cn:Int))=false:=decide_eq_false q1;gi_wp2
  refine⟨trivial,?_⟩;refine(lines_in _ s _).mono ?_;rintro e w9 ⟨rfl,rfl⟩;gi_wp2
  refine wpIn_rangeFunc ?_;intro fn hfn;show∃_,_;obtain⟨w,rfl⟩: ∃v,v=w':=⟨_,rfl⟩;obtain⟨Wa,hWa⟩: ∃Wa,w.alloc (.cells #[.slice none 0 0] 34)=Wa:=⟨_,rfl⟩;have hsa:Wa.heap.size=w.heap.size+1:=by rw [←hWa];simp
  have hba:Below w.heap.size w Wa:=by rw [←hWa];exact(Below.refl _ w).alloc (Nat.le_refl _) _
  have hva:Wa.heap[w.heap.size]? =some (.cells #[.slice none 0 0] 34 (0,0)):=by rw [←hWa];exact World.alloc_heap_new w _
  rw [hWa];obtain⟨W0,hW0⟩: ∃W0,Wa.alloc (.cells #[.string s] 9)=W0:=⟨_,rfl⟩;have hs0:W0.heap.size=w.heap.size+1+1:=by rw [←hW0];simp [hsa]
  have hb0:Below Wa.heap.size Wa W0:=by rw [←hW0];exact(Below.refl _ Wa).alloc (Nat.le_refl _) _
  have hn0':W0.heap[w.heap.size+1]? =some (.cells #[.string s] 9 (0,0)):=by rw [←hW0,←hsa];exact World.alloc_heap_new Wa _
  rw [hW0];have d2:W0.cell? ⟨w.heap.size+1,0,none⟩=some (.string s):=by simp [World.cell?,hn0']
  have g2:W0.frozen? ⟨w.heap.size+1,0,none⟩=false:=by simp [World.frozen?,hn0']
  obtain⟨rc,hrc⟩: ∃rc,rmRec fn s (cn:Int) (.func (.func 88) #[] #[.pointer (some ⟨w.heap.size+1,0,none⟩)]) w.heap.size W0.heap.size .ready none=rc:=⟨_,rfl⟩;obtain⟨W1,hW1⟩: ∃W1,(W0.alloc (.deferred (some []))).alloc (.loop rc)=W1:=⟨_,rfl⟩
  have hold: ∀k:Nat,k<W0.heap.size→W1.heap[k]? =W0.heap[k]?:=fun k hk=>by
   rw [←hW1];exact(Below.heap_alloc _ _ k (by simp;omega)).trans (Below.heap_alloc _ _ k hk)
  have hb01:Below W0.heap.size W0 W1:=by rw [←hW1];exact((Below.refl _ W0).alloc (Nat.le_refl _) _).alloc (by simp) _
  have hbw:Below w.heap.size w W1:=Qc (Qc hba hb0) hb01;have hs1:W1.heap.size=W0.heap.size+2:=by rw [←hW1];simp
  have hv1:W1.heap[w.heap.size]? =some (.cells #[.slice none 0 0] 34 (0,0)):=(hold _ (by omega)).trans ((hb0.block _ (by omega)).trans hva)
  have hL1:W1.heap[W0.heap.size+1]? =some (.loop rc):=by
   rw [←hW1];have:=World.alloc_heap_new (W0.alloc (.deferred (some []))) (.loop rc);rwa [World.size_alloc]at this
  have hK1:W1.heap[W0.heap.size]? =some (.deferred (some [])):=by rw [←hW1];exact(Below.heap_alloc _ _ _ (by simp)).trans (World.alloc_heap_new W0 _)
  have b0:W1.cell? ⟨w.heap.size+1,0,none⟩=some (.string s):=(World.cell?_of_block (hold (w.heap.size+1) (by omega))).trans d2;have b1:W1.frozen? ⟨w.heap.size+1,0,none⟩=false:=by have:=g2;unfold World.frozen? at this ⊢;simpa only [hold (w.heap.size+1) (by omega)]using this
  have hmany:(lnI s.data.toList).length≤1048577:=by
   have h9:=lnI_many s.data.toList;have h8:s.data.toList.length=s.size:=by simp
   omega
  have key:=lines1 (n0-1) (by omega) (W0.heap.size+1) (w.heap.size+1) s hs
   (fun pre W=>RmAt w fn s (cn:Int) (.func (.func 88) #[] #[.pointer (some ⟨w.heap.size+1,0,none⟩)]) w.heap.size (W0.heap.size+1) W0.heap.size W1.heap.size pre W)
   W1 b0 b1 ⟨⟨_,hv1,⟨rfl,.inl ⟨rfl,rfl⟩⟩⟩,by rw [hrc];exact hL1,hK1,hbw,Nat.le_refl _⟩
   (fun pre Wa Wb hx hy=>hx.keep hy (by omega) (by omega) (by omega) (by omega) (by omega))
   (fun pre x p Wa hx hl9 hp9 hx9 ht9=>by
    have hza:=hx.size;obtain⟨fn2,tm2,as2,bo2,e2,r2⟩:=rmYield (n0-1-1) w fn s (cn:Int) (.func (.func 88) #[] #[.pointer (some ⟨w.heap.size+1,0,none⟩)]) w.heap.size (W0.heap.size+1) W0.heap.size W1.heap.size (w.heap.size+1) (by omega) (by omega) (by omega) (by omega) (by omega) (by omega) (by omega) (by omega) (by omega) HG.out pre x p Wa hx (by omega) hp9 hx9 ht9 (by omega)
    exact⟨fn2,tm2,as2,bo2,e2,r2⟩)
  refine⟨W0.heap.size+1,[{target:= .collected W0.heap.size,args:= #[]}],W1,{target:= .fn (.func 88) #[.pointer (some ⟨w.heap.size+1,0,none⟩)],args:= #[.func (.yield (W0.heap.size+1)) #[] #[]]},W1,88,
   #[.func (.yield (W0.heap.size+1)) #[] #[]]++ #[.pointer (some ⟨w.heap.size+1,0,none⟩)],W1,?_,?_,?_,?_,fun _=>h1,?_⟩
  ·rw [←hW1,←hrc];exact run_enterLoop_outer _ _ _ _ _
  ·simp [resolve,go_sem]
  ·intro f' hf';trivial
  ·simp [invoke,go_sem,eg]
  ·refine key.mono ?_;rintro e W2 ⟨⟨v0,rfl⟩,h2⟩;obtain⟨v,hv,hrow2⟩:=h2.box;have hend:=run_endLoop (P:=Tryz.prog) h2.L (by simp [rmRec]);obtain⟨W3,hW3⟩: ∃W3,W2.putObj (W0.heap.size+1) (.loop {rmRec fn s (cn:Int) (.func (.func 88) #[] #[.pointer (some ⟨w.heap.size+1,0,none⟩)]) w.heap.size W0.heap.size .ready none with state:= .exhausted})=W3:=⟨_,rfl⟩;rw [hW3]at hend;have hg3:W2.grownBy W3 (some (W0.heap.size+1)):=by rw [←hW3];exact grownBy_putObj_a _ _ _
   have hv3:W3.heap[w.heap.size]? =some (.cells #[v] 34 (0,0)):=by rw [←hW3];exact(World.putObj_heap_other (by omega)).trans hv
   have hK3:W3.heap[W0.heap.size]? =some (.deferred (some [])):=by rw [←hW3];exact(World.putObj_heap_other (by omega)).trans h2.K
   have hrow3:W3.ownsRow W1.heap.size 69 5 v (rmI s).length (QC srC (rmI s)):=hrow2.kept hg3 (ownsRow_ne_a hrow2 h2.L (fun cur e=>by cases e));have hb3:Below w.heap.size w W3:=h2.below.grown hg3 h2.below.size (fun k e=>by cases e;omega);have hz3:W1.heap.size≤W3.heap.size:=Nat.le_trans h2.size hg3.size;obtain⟨hc3,hf3⟩:=cell_of_box_a hv3;have hBW3:w.heap.size<W3.heap.size:=(Array.getElem?_eq_some_iff.1 hv3).1;obtain⟨FF,cF,rfl,hnn,_⟩:=Qu hrow3;have HMS:Hid (MsRow W3 FF (rmI s).length (sK (rmI s)) (sC (rmI s)) (sR (rmI s)) (sT (rmI s)) (sM (rmI s))):=ms_of_own (by rw [flat_ms]at hrow3;exact hrow3) (fun i hi=>by have:=rmT_sz hs i hi;unfold maxLen;omega)
   have HTS:Hid (∀i,i<(rmI s).length→(sT (rmI s) i).size≤1048576):=fun i hi=>rmT_sz hs i hi;have HG3:=hd (HG.out.below hb3);clear hW3 key;rw [hs0]at hK3;refine⟨none,W3,hend,?_⟩;gi_wp2
   refine⟨trivial,?_⟩;refine(callsIn_wide.2 (impl_MacroText W3 HMS.out HTS.out HG3.out.gi HG3.out.sw)).mono ?_;rintro e W4 ⟨rfl,hb4⟩;have hK4:W4.heap[w.heap.size+1+1]? =some (.deferred (some [])):=(hb4.block _ (Array.getElem?_eq_some_iff.1 hK3).1).trans hK3;have hv4:W4.heap[w.heap.size]? =some (.cells #[.slice FF (rmI s).length cF] 34 (0,0)):=(hb4.block _ hBW3).trans hv3;have hrow4:=Qi hrow3 hb4;have hb9:Below w.heap.size w W4:=Qc hb3 hb4
   obtain⟨hc4,hf4⟩:=cell_of_box_a hv4;obtain⟨mt,HMT⟩: ∃mt,Hid (mtO (sK (rmI s)) (sC (rmI s)) (sR (rmI s)) (sT (rmI s)) (sM (rmI s)) (rmI s).length=mt):=⟨_,rfl⟩
   have HRB:Hid (rmB s=(mt.toList==s.toList)):=by
    show _=_;unfold rmB;rw [HCN.out,decide_eq_true h30,←HMT.out];rfl
   rw [HMT.out];obtain⟨n9,HN9⟩: ∃n9,Hid ((rmI s).length=n9):=⟨_,rfl⟩;by_cases hq:mt=s
   ·have he:=Jv hq;have HB:Hid (rmB s=true):=HRB.out.trans he;clear hq;gi_wp2
    refine⟨by simp,.inl ⟨_,_,rfl,run_takeDeferred hK4,?_⟩⟩;refine⟨.tuple #[.slice FF (rmI s).length cF,.bool true],by simp [results,Tryz.results17,go_sem],?_⟩;exact⟨.inl ⟨HB.out,_,rfl,ownsRow_base_a (hrow4.kept (grownBy_putObj_a _ _ _) (ownsRow_ne_a hrow4 hK4 (fun cur e=>by cases e))) (by omega)⟩,hb9.grown (grownBy_putObj_a _ _ _) hb9.size (fun k e=>by cases e;omega)⟩
   ·have he:=QF hq;have HB:Hid (rmB s=false):=HRB.out.trans he;clear hq;gi_wp2
    refine⟨by simp,.inl ⟨_,_,rfl,run_takeDeferred hK4,?_⟩⟩;refine⟨.tuple #[.slice none 0 0,.bool false],by simp [results,Tryz.results17,go_sem],?_⟩;exact⟨.inr ⟨HB.out,rfl⟩,hb9.grown (grownBy_putObj_a _ _ _) hb9.size (fun k e=>by cases e;omega)⟩
 ·have q1:(30:Int)<(cn:Int):=by omega
  have HB:Hid (rmB s=false):=by show _=_;unfold rmB;rw [HCN.out,decide_eq_false h30];rfl
  gi_wp2
  refine⟨.tuple #[.slice none 0 0,.bool false],by simp [results,Tryz.results17,go_sem],?_⟩;exact⟨.inr ⟨HB.out,rfl⟩,Below.refl _ _⟩
theorem impl_ReadMacro (s:ByteArray) (w:World) (hs:s.size≤1048576) (hg:RG w):Calls Tryz.prog 17 #[.string s] w fun e w'=>PostRM s w.heap.size w' e∧Below w.heap.size w w':=
 callsIn_wide.1 (rm_in 9 (by omega) s w hs hg)
end Go.Proofs.YtejbnnacghbhoaaGreatDoor
namespace Go.Proofs.YtejbnnacghbhoaaGreatDoor
open Go.RowKit
theorem wpList_app_st {ops:Array Oper} {rest:List Oper} {op:Oper} {a:Act} {W:World} {Q:Exit→Act→World→Prop} (hgd:op.guard=none) (s x:Operand) (ho:op.op= .call {callee:= .builtin .append,args:= #[s,x],argTypes:= #[34,34]}) (B:Nat) (v:Value) (n:Nat) (xs:List Value) (hs:a.eval s=v)
  (hown:W.ownsRow B 69 5 v n xs) (z:SR) (g:Nat) (hx:a.eval x= .slice (some ⟨g,0,none⟩) 1 1) (hc: ∀j u,(srC z)[j]? =some u→W.cell? ((⟨g,0,none⟩:Addr).add j)=some u) (hn:n≤1099511627776) (hB:B≤W.heap.size)
  (h: ∀v' w',w'.ownsRow B 69 5 v' (n+1) (xs++srC z)→W.grownBy w' v.ownBlock→wpList Tryz.prog ops Q rest (a.put op.dst v') w'):wpList Tryz.prog ops Q (op::rest) a W:=by
 obtain⟨i0,hi,iz0,iz1,iz2⟩:=info_parts infoStm;refine wpList_append_own W hgd s x 34 ho B 69 i0 (.agg #[.int .i64 0,.int .i64 0,.int .i64 0,.string ⟨#[]⟩,.int .i64 0]) 5 48 Tryz.underlying34 hi iz0 iz1 iz2 rfl (by decide) v n xs hs hown ⟨g,0,none⟩ 1 1 (srC z) hx rfl hc ?_ ?_ ?_ hB ?_
 ·intro u hu;simp [srC]at hu;rcases hu with rfl | rfl | rfl | rfl | rfl<;>rfl
 ·unfold maxLen;omega
 ·omega
 ·intro v' w3 hown' hgrow _;exact h v' w3 hown' hgrow
theorem own_keepR {W W':World} {B n s:Nat} {e:TypeId} {v:Value} {xs:List Value} (h:W.ownsRow B e s v n xs) (hb: ∀g,v.ownBlock=some g→W'.heap[g]? =W.heap[g]?):W'.ownsRow B e s v n xs:=by
 refine⟨h.1,?_⟩;rcases h.2 with h1 | ⟨g,cap,cur,rfl,h2,h3,h4⟩
 ·exact .inl h1
 ·exact .inr ⟨g,cap,cur,rfl,h2,(hb g rfl).trans h3,h4⟩
theorem own_setB {W:World} {B n s b:Nat} {e:TypeId} {v:Value} {xs:List Value} (h:W.ownsRow B e s v n xs) (hb: ∀g,v.ownBlock=some g→g≠b) (o:Nat) (u:Value):(W.setCell ⟨b,o,none⟩ u).ownsRow B e s v n xs:=
 own_keepR h (fun g hg=>Below.heap_setCell _ _ _ _ (by simpa using hb g hg))
theorem kd_lits (w:List UInt8):(w= [115,101,116]↔kdL w=1)∧(w= [112,117,116]↔kdL w=2)∧(w= [117,110,108,101,115,115]↔kdL w=3)∧(w= [119,104,105,108,101]↔kdL w=4)∧(w= [97,98,111,114,116]↔kdL w=5):=by
 unfold kdL;by_cases h1:w= [115,101,116]
 ·subst h1;decide
 by_cases h2:w= [112,117,116]
 ·subst h2;decide
 by_cases h3:w= [117,110,108,101,115,115]
 ·subst h3;decide
 by_cases h4:w= [119,104,105,108,101]
 ·subst h4;decide
 by_cases h5:w= [97,98,111,114,116]
 ·subst h5;decide
 simp [h1,h2,h3,h4,h5]
theorem lit_b {w:ByteArray} {L:List UInt8} {k j:Int} (h:w.data.toList=L↔kdL w.data.toList=j) (hk:kdL w.data.toList=k):(w.toList==L)=decide (k=j):=by
 rw [ByteArray.toList_eq];by_cases e:k=j
 ·rw [decide_eq_true e,beq_iff_eq];exact h.2 (hk.trans e)
 ·rw [decide_eq_false e,beq_eq_false_iff_ne];exact fun e9=>e (hk.symm.trans (h.1 e9))
def rmP (xs:List (List UInt8)) (k:Nat):List SR:=(xs.take k).map rdS
theorem rmP_len {xs:List (List UInt8)} {k:Nat} (h:k≤xs.length):(rmP xs k).length=k:=by unfold rmP;rw [List.length_map,List.length_take];omega
theorem rmP_snoc {xs:List (List UInt8)} {k:Nat} {x:List UInt8} (h:xs[k]? =some x):rmP xs (k+1)=rmP xs k++ [rdS x]:=by unfold rmP;rw [List.take_add_one,h,List.map_append];rfl
theorem rdS_sz (x:List UInt8):(rdS x).t.size≤x.length:=by
 have h1:=cr_len 32 x;have h2:=cr_len 32 (cr 32 x);unfold rdS;simp only;split
 ·rw [Qz];omega
 split
 ·rw [Qz];omega
 ·rw [Qz];omega
theorem rmST_sz {s:ByteArray} (hs:s.size≤1048576) (i:Nat) (hi:i<(rmS s).length):(sT (rmS s) i).size≤1048576:=by
 have e:(rmS s).getD i dSR=(rmS s)[i]:=by rw [List.getD_eq_getElem?_getD,List.getElem?_eq_getElem hi];rfl
 unfold sT;rw [e];obtain⟨x,hx,he⟩:=List.mem_map.1 (List.getElem_mem hi);rw [←he];have h1:=rdS_sz x;have h2:=(Qhj s.data.toList).1 x hx;have h3:s.data.toList.length=s.size:=by simp
 omega
theorem spec_ReadMacro (s:ByteArray) (w:World) (hs:s.size≤1048576):Calls Tryz.prog 23 #[.string s] w fun e w'=>
  ∃B,w.heap.size≤B∧PostRM s B w' e∧Below w.heap.size w w':=by
 obtain⟨xs,HXS⟩: ∃xs,Hid ((ln s.data.toList).1=xs):=⟨_,rfl⟩;obtain⟨rr,HRR⟩: ∃rr,Hid (decide ((ln s.data.toList).2= [])=rr):=⟨_,rfl⟩;have HMS:Hid (rmS s=rmP xs xs.length):=by show _=_;unfold rmS rmP;rw [HXS.out,List.take_length]
 have HSA:Hid (rmB s=(rr&&decide (xs.length≤30)&&DW (rmS s)&&(mtL (rmS s)).toList==s.toList)∧(rmB s=true→rmS s=rmI s)):=by
  have:=Qsn s;rw [HXS.out,HRR.out]at this;exact this
 have HXZ:Hid (∀x∈xs,x.length≤1048576):=fun x hx=>by
  have h1:=(Qhj s.data.toList).1 x (by rw [HXS.out];exact hx);have h3:s.data.toList.length=s.size:=by simp
  omega
 go_enter Tryz.func23,Tryz.ntmps23;go_wp2_with fail
 refine(Qi4 s w hs).mono ?_;rintro e w1 ⟨lv,rfl,hlr,hb1⟩;rw [HXS.out]at hlr;rw [HRR.out];obtain⟨n,HN⟩: ∃n,Hid (xs.length=n):=⟨_,rfl⟩;rw [HN.out]at hlr;have HLR:Hid (w1.ownsRow w.heap.size 9 1 lv n (stB xs)):=hlr
 have K1:Hid (Below w.heap.size w w1):=hb1;obtain⟨LA,lc,rfl,hln,hlcell⟩:=Qu hlr
 have HLC:Hid (∀j,j<n→ ∃g,LA=some ⟨g,0,none⟩∧g<w1.heap.size∧ ∀x,xs[j]? =some x→w1.cell? ⟨g,j,none⟩=some (.string (bs x))):=fun j hj=>by
  obtain⟨g,e1,_,e2,e3,_⟩:=hlcell j (by omega);refine⟨g,e1,e2,fun x hx=> ?_⟩;rw [e3];unfold stB;rw [List.getElem?_map,hx];rfl
 have hsz1:=hb1.size;unfold maxLen at hln;clear hlr hb1 hlcell;cases rr
 ·have HB:Hid (rmB s=false):=by show _=_;rw [HSA.out.1];rfl
  go_wp2_with fail
  refine bodyPost_ret (v:= .tuple #[.slice none 0 0,.bool false]) ?_ rfl ⟨w.heap.size,Nat.le_refl _,.inr ⟨HB.out,rfl⟩,K1.out⟩;simp (maxDischargeDepth:=9) [results,Tryz.results23,go_sem, *]
 by_cases h30:n≤30
 case neg=>
  have q1:(30:Int)<(n:Int):=by omega
  have HB:Hid (rmB s=false):=by show _=_;rw [HSA.out.1,HN.out,decide_eq_false h30];rfl
  go_wp2_with fail
  refine bodyPost_ret (v:= .tuple #[.slice none 0 0,.bool false]) ?_ rfl ⟨w.heap.size,Nat.le_refl _,.inr ⟨HB.out,rfl⟩,K1.out⟩;simp (maxDischargeDepth:=9) [results,Tryz.results23,go_sem, *]
 have q1: ¬(30:Int)<(n:Int):=by omega
 go_wp2_with fail
 go_loopw [6,7] (fun v i wr=> ∃k:Nat,k≤n∧i= .int .i64 k∧wr.ownsRow w1.heap.size 69 5 v k (QC srC (rmP xs k))∧Below w1.heap.size w1 wr) (fun _ i _=>n-(intOf i).toNat)
 case atStart=>exact⟨0,Nat.zero_le _,rfl,Qa5 (Nat.le_refl _) rfl,by go_grown⟩
 case round=>
  obtain⟨k,hk,rfl,hown,hbel⟩:=hrel;have HO:Hid (wr.ownsRow w1.heap.size 69 5 u6 k (QC srC (rmP xs k))):=hown;have KA:Hid (Below w1.heap.size w1 wr):=hbel;have hszr:=hbel.size;clear hown hbel;by_cases hlt:k<n
  ·obtain⟨x,hx⟩: ∃x,xs[k]? =some x:=⟨_,List.getElem?_eq_getElem (by rw [HN.out];exact hlt)⟩;have HSN:Hid (rmP xs (k+1)=rmP xs k++ [rdS x]):=rmP_snoc hx;have hxl:x.length≤1048576:=HXZ.out x (List.mem_of_getElem? hx);obtain⟨lg,rfl,hlg,hlx⟩:=HLC.out k hlt;have c0:=hlx x hx;rw [←KA.out.cell (p:=⟨_,_,none⟩) hlg]at c0;have hlg2:lg<wr.heap.size:=by omega
   clear hlx hx;have q0:(0:Int)≤(k:Int):=by omega
   have q2:(k:Int)<(n:Int):=by omega
   obtain⟨l,HL⟩: ∃l,Hid (bs x=l):=⟨_,rfl⟩;have hlz:l.size≤1048576:=by rw [←HL.out];exact hxl
   have HLX:Hid (l.data.toList=x):=by rw [←HL.out];exact bs_lq x
   rw [HL.out]at c0;obtain⟨wd,HW⟩: ∃wd,Hid (bs (cw 32 x)=wd):=⟨_,rfl⟩;obtain⟨y,HY⟩: ∃y,Hid (bs (cr 32 x)=y):=⟨_,rfl⟩;obtain⟨p,HP⟩: ∃p,Hid (bs (cw 32 y.data.toList)=p):=⟨_,rfl⟩;obtain⟨q,HQ⟩: ∃q,Hid (bs (cr 32 y.data.toList)=q):=⟨_,rfl⟩;obtain⟨kk,HK⟩: ∃kk,Hid (kdL (cw 32 x)=kk):=⟨_,rfl⟩;have hzy:y.size≤1048576:=by rw [←HY.out,Qz];have:=cr_len 32 x;omega
   have hyl:y.data.toList.length=y.size:=by simp
   have hzp:p.size≤1048576:=by rw [←HP.out,Qz];have:=cw_len 32 y.data.toList;omega
   have eyl:cr 32 x=y.data.toList:=by rw [←HY.out];rfl
   have HR:Hid (rdS x=if kk=5 then⟨5,0,0,y,0⟩else if kk=1∨kk=2 then⟨kk,pqA p (l1I (rp3 p)),pqB p (l1I (rp3 p)),q,0⟩else⟨kk,0,0,q,(l1I p).getD 0⟩):=by
    show _=_;unfold rdS;simp only [HK.out,eyl,HP.out,HQ.out,Nh]
   have HKR:Hid (kk=0∨kk=1∨kk=2∨kk=3∨kk=4∨kk=5):=by rw [←HK.out];exact kd_range _
   have HKW:Hid (kdL wd.data.toList=kk):=by rw [←HW.out];exact HK.out
   obtain⟨t1,t2,t3,t4,t5⟩:=kd_lits wd.data.toList;have j1:=lit_b t1 HKW.out;have j2:=lit_b t2 HKW.out;have j3:=lit_b t3 HKW.out;have j4:=lit_b t4 HKW.out;have j5:=lit_b t5 HKW.out;clear hyl eyl t1 t2 t3 t4 t5
   go_wp2_with fail
   refine(Qn5 l wr hlz).mono ?_;rintro e X1 ⟨rfl,hb⟩;rw [HLX.out,HW.out,HY.out];have KX1:Hid (Below wr.heap.size wr X1):=hb;have HO1:=hd (Qi HO.out hb);have hz1:=hb.size;clear hb HO c0 HKW HW
   obtain⟨b,HBN⟩: ∃b,Hid (X1.heap.size=b):=⟨_,rfl⟩;obtain⟨Z,HZ⟩: ∃X,Hid (X1.alloc (.cells #[.int .i64 0,.int .i64 0,.int .i64 0,.string ⟨#[]⟩,.int .i64 0] 69)=X):=⟨_,rfl⟩;have C0:Hid (BX Z b [.int .i64 0,.int .i64 0,.int .i64 0,.string ⟨#[]⟩,.int .i64 0]):=by rw [←HZ.out,←HBN.out];exact bx_new X1 _ _
   have KZ:Hid (Below wr.heap.size wr Z):=Qc KX1.out (by rw [←HZ.out];exact(Below.refl _ _).alloc (Nat.le_refl _) _);have HOZ:Hid (Z.ownsRow w1.heap.size 69 5 u6 k (QC srC (rmP xs k))):=by rw [←HZ.out];exact HO1.out.alloc _
   have hbw:wr.heap.size≤b:=by have:=HBN.out;omega
   have HOB:Hid (∀g,(u6:Value).ownBlock=some g→g≠b):=fun g hg=>by have:=(HO1.out.lt g hg).2;have:=HBN.out;omega
   have hbz:b<Z.heap.size:=C0.out.lt (by simp);clear HO1 KX1;rcases HKR.out with rfl | rfl | rfl | rfl | rfl | rfl
   ·simp only [Int.reduceEq,decide_true,decide_false]at j1 j2 j3 j4 j5;go_wp2_with fail
    rw [HZ.out,HBN.out];refine(Qn5 y Z hzy).mono ?_;rintro e X2 ⟨rfl,hb⟩;rw [HP.out,HQ.out];have C2:Hid (BX X2 b [.int .i64 0,.int .i64 0,.int .i64 0,.string ⟨#[]⟩,.int .i64 0]):=C0.out.below (by simp) hb;have K2:=hd (Qc KZ.out hb);have O2:=hd (Qi HOZ.out hb)
    clear hb HZ HBN HOZ KZ C0;go_wp2_with fail
    refine(VL p X2 hzp).mono ?_;rintro e X3 ⟨rfl,hb⟩;have C3:Hid (BX X3 b [.int .i64 0,.int .i64 0,.int .i64 0,.string ⟨#[]⟩,.int .i64 0]):=C2.out.below (by simp) hb;have K3:=hd (Qc K2.out hb);have O3:=hd (Qi O2.out hb);obtain⟨pa,HPA⟩: ∃o,Hid (pqA p (l1I (rp3 p))=o):=⟨_,rfl⟩;obtain⟨pb,HPB⟩: ∃o,Hid (pqB p (l1I (rp3 p))=o):=⟨_,rfl⟩
    obtain⟨m,HM⟩: ∃o,Hid ((l1I p).getD 0=o):=⟨_,rfl⟩;have HV:Hid (plV (rpC p) (l1I (rp3 p)) (QE p) (QE (rp2 p))= .tuple #[.agg #[.int .i64 pa,.int .i64 pb,.bool (Xd (rpC p) (l1I (rp3 p))&&QE p),.bool (Xd (rpC p) (l1I (rp3 p))&&QE (rp2 p))],.bool (Xd (rpC p) (l1I (rp3 p)))]):=by rw [←HPA.out,←HPB.out];exact(rfl:plV _ _ _ _=_)
    rw [HV.out];generalize (Xd (rpC p) (l1I (rp3 p))&&QE p)=z1
    generalize (Xd (rpC p) (l1I (rp3 p))&&QE (rp2 p))=z2
    generalize (Xd (rpC p) (l1I (rp3 p)))=z3
    clear hb K2 O2 C2;go_wp2_with fail
    obtain⟨Y,HYY⟩: ∃X,Hid (X3.alloc (.cells #[.int .i64 pa,.int .i64 pb,.bool z1,.bool z2] 79)=X):=⟨_,rfl⟩;have KXY:Hid (Below X3.heap.size X3 Y):=by rw [←HYY.out];exact(Below.refl _ _).alloc (Nat.le_refl _) _
    have CP:Hid (BX Y X3.heap.size [.int .i64 pa,.int .i64 pb,.bool z1,.bool z2]):=by rw [←HYY.out];exact bx_new X3 _ _
    have CY:Hid (BX Y b [.int .i64 0,.int .i64 0,.int .i64 0,.string ⟨#[]⟩,.int .i64 0]):=C3.out.below (by simp) KXY.out;have KY:=hd (Qc K3.out KXY.out);have OY:=hd (Qi O3.out KXY.out);rw [HYY.out];refine(YH p Y (by omega)).mono ?_;rintro e X4 ⟨rfl,rfl⟩;rw [HM.out]
    obtain⟨pg,HPG⟩: ∃g,Hid (X3.heap.size=g):=⟨_,rfl⟩;rw [HPG.out]at CP ⊢;clear HYY KXY C3 K3 O3 HPG;have x0:=(CY.out 0 _ rfl).1;have f0:=(CY.out 0 _ rfl).2;have x3:=(CY.out 3 _ rfl).1;have f3:=(CY.out 3 _ rfl).2
    have x4:=(CY.out 4 _ rfl).1;have f4:=(CY.out 4 _ rfl).2;have hbY:b<X4.heap.size:=CY.out.lt (by simp);have HE:Hid (rdS x=⟨0,0,0,q,m⟩):=by show _=_;rw [HR.out,if_neg (by decide),if_neg (by decide),HM.out]
    clear HR;have D4:Hid (BX ((X4.setCell ⟨b,4,none⟩ (.int .i64 m)).setCell ⟨b,3,none⟩ (.string q)) b (srC ⟨0,0,0,q,m⟩)):=((CY.out.set 4 _ (by simp)).set 3 _ (by simp));have HO4:Hid ((((X4.setCell ⟨b,4,none⟩ (.int .i64 m)).setCell ⟨b,3,none⟩ (.string q))).ownsRow w1.heap.size 69 5 u6 k (QC srC (rmP xs k))):=(own_setB (own_setB OY.out HOB.out _ _) HOB.out _ _);have K4:Hid (Below wr.heap.size wr ((X4.setCell ⟨b,4,none⟩ (.int .i64 m)).setCell ⟨b,3,none⟩ (.string q))):=((KY.out.setCell (p:=⟨b,4,none⟩) (by show wr.heap.size≤b;omega) _).setCell (p:=⟨b,3,none⟩) (by show wr.heap.size≤b;omega) _);go_upto_region 30 with fail
    obtain⟨Y9,HY9⟩: ∃Y,Hid (((X4.setCell ⟨b,4,none⟩ (.int .i64 m)).setCell ⟨b,3,none⟩ (.string q))=Y):=⟨_,rfl⟩;rw [HY9.out]at D4 HO4 K4 ⊢;clear HY9 x0 f0 x3 f3 x4 f4
    go_wp2_with (first
    | (refine loaB D4.out [.int .i64 0,.int .i64 0,.int .i64 0,.string q,.int .i64 m] (fun j hj=>by rw [Nat.zero_add];rfl) rfl 69 _ rfl rfl _ Tryz.underlying69 rfl infoSt5 ?_)
    | (refine wpList_app_st rfl _ _ rfl w1.heap.size _ k _ rfl (HO4.out.alloc _) ⟨0,0,0,q,m⟩ _ rfl (st_new _ ⟨0,0,0,q,m⟩) (by omega) (by have:=K4.out.size;simp;omega) ?_;intro v' w9 hown' hg9;have HO9:Hid (w9.ownsRow w1.heap.size 69 5 v' (k+1) (QC srC (rmP xs (k+1)))):=(by rw [HSN.out,Vn,HE.out];exact hown');have K9:Hid (Below w1.heap.size w1 w9):=(Qc KA.out K4.out |>fun h9=>(h9.alloc (by have:=K4.out.size;simp;omega) _).grown hg9 (by have:=K4.out.size;simp;omega) (fun g hg=>(HO4.out.lt g hg).1));clear hown' hg9))
    all_goals
     go_roundw
     case rel=>exact⟨k+1,by omega,by go_num,HO9.out,K9.out⟩
     case measure=>simp [intOf];omega
   ·simp only [Int.reduceEq,decide_true,decide_false]at j1 j2 j3 j4 j5;go_wp2_with fail
    rw [HZ.out,HBN.out];refine(Qn5 y Z hzy).mono ?_;rintro e X2 ⟨rfl,hb⟩;rw [HP.out,HQ.out];have C2:Hid (BX X2 b [.int .i64 0,.int .i64 0,.int .i64 0,.string ⟨#[]⟩,.int .i64 0]):=C0.out.below (by simp) hb;have K2:=hd (Qc KZ.out hb);have O2:=hd (Qi HOZ.out hb)
    clear hb HZ HBN HOZ KZ C0;go_wp2_with fail
    refine(VL p X2 hzp).mono ?_;rintro e X3 ⟨rfl,hb⟩;have C3:Hid (BX X3 b [.int .i64 0,.int .i64 0,.int .i64 0,.string ⟨#[]⟩,.int .i64 0]):=C2.out.below (by simp) hb;have K3:=hd (Qc K2.out hb);have O3:=hd (Qi O2.out hb);obtain⟨pa,HPA⟩: ∃o,Hid (pqA p (l1I (rp3 p))=o):=⟨_,rfl⟩;obtain⟨pb,HPB⟩: ∃o,Hid (pqB p (l1I (rp3 p))=o):=⟨_,rfl⟩
    obtain⟨m,HM⟩: ∃o,Hid ((l1I p).getD 0=o):=⟨_,rfl⟩;have HV:Hid (plV (rpC p) (l1I (rp3 p)) (QE p) (QE (rp2 p))= .tuple #[.agg #[.int .i64 pa,.int .i64 pb,.bool (Xd (rpC p) (l1I (rp3 p))&&QE p),.bool (Xd (rpC p) (l1I (rp3 p))&&QE (rp2 p))],.bool (Xd (rpC p) (l1I (rp3 p)))]):=by rw [←HPA.out,←HPB.out];exact(rfl:plV _ _ _ _=_)
    rw [HV.out];generalize (Xd (rpC p) (l1I (rp3 p))&&QE p)=z1
    generalize (Xd (rpC p) (l1I (rp3 p))&&QE (rp2 p))=z2
    generalize (Xd (rpC p) (l1I (rp3 p)))=z3
    clear hb K2 O2 C2;go_wp2_with fail
    obtain⟨Y,HYY⟩: ∃X,Hid (X3.alloc (.cells #[.int .i64 pa,.int .i64 pb,.bool z1,.bool z2] 79)=X):=⟨_,rfl⟩;have KXY:Hid (Below X3.heap.size X3 Y):=by rw [←HYY.out];exact(Below.refl _ _).alloc (Nat.le_refl _) _
    have CP:Hid (BX Y X3.heap.size [.int .i64 pa,.int .i64 pb,.bool z1,.bool z2]):=by rw [←HYY.out];exact bx_new X3 _ _
    have CY:Hid (BX Y b [.int .i64 0,.int .i64 0,.int .i64 0,.string ⟨#[]⟩,.int .i64 0]):=C3.out.below (by simp) KXY.out;have KY:=hd (Qc K3.out KXY.out);have OY:=hd (Qi O3.out KXY.out);rw [HYY.out];refine(YH p Y (by omega)).mono ?_;rintro e X4 ⟨rfl,rfl⟩;rw [HM.out]
    obtain⟨pg,HPG⟩: ∃g,Hid (X3.heap.size=g):=⟨_,rfl⟩;rw [HPG.out]at CP ⊢;clear HYY KXY C3 K3 O3 HPG;have x0:=(CY.out 0 _ rfl).1;have f0:=(CY.out 0 _ rfl).2;have x3:=(CY.out 3 _ rfl).1;have f3:=(CY.out 3 _ rfl).2
    have x4:=(CY.out 4 _ rfl).1;have f4:=(CY.out 4 _ rfl).2;have hbY:b<X4.heap.size:=CY.out.lt (by simp);have HE:Hid (rdS x=⟨1,pa,pb,q,0⟩):=by show _=_;rw [HR.out,if_neg (by decide),if_pos (by decide),HPA.out,HPB.out]
    clear HR x0 f0 x3 f3 x4 f4
    go_upto_region 30 with(first
    | (refine loaB (o:=0) CP.out [.int .i64 pa,.int .i64 pb] (fun j hj=>by match j,hj with | 0,_=>rfl | 1,_=>rfl) rfl 26 _ rfl rfl _ Tryz.underlying26 rfl infoRf2 ?_)
    | (refine stoB (o:=1) CY.out [.int .i64 pa,.int .i64 pb] (by simp) rfl 26 _ _ rfl rfl rfl infoRf2 rfl ?_;intro W5 hB5 hb5 hz5 hk5;have C5:Hid (BX W5 b [.int .i64 0,.int .i64 pa,.int .i64 pb,.string ⟨#[]⟩,.int .i64 0]):=hB5;have O5:Hid (W5.ownsRow w1.heap.size 69 5 u6 k (QC srC (rmP xs k))):=own_keepR OY.out (fun g hg=>hk5 g (HOB.out g hg));have K5:Hid (Below wr.heap.size wr W5):=KY.out.trans (hb5.mono (by omega));have x0:=(C5.out 0 _ rfl).1;have f0:=(C5.out 0 _ rfl).2;have x3:=(C5.out 3 _ rfl).1;have f3:=(C5.out 3 _ rfl).2;have hbY:b<W5.heap.size:=(by omega);clear hB5 hb5 hz5 hk5;have D4:Hid (BX ((W5.setCell ⟨b,3,none⟩ (.string q)).setCell ⟨b,0,none⟩ (.int .i64 1)) b (srC ⟨1,pa,pb,q,0⟩)):=(C5.out.set 3 _ (by simp)).set 0 _ (by simp);have HO4:Hid (((W5.setCell ⟨b,3,none⟩ (.string q)).setCell ⟨b,0,none⟩ (.int .i64 1)).ownsRow w1.heap.size 69 5 u6 k (QC srC (rmP xs k))):=own_setB (own_setB O5.out HOB.out _ _) HOB.out _ _;have K4:Hid (Below wr.heap.size wr ((W5.setCell ⟨b,3,none⟩ (.string q)).setCell ⟨b,0,none⟩ (.int .i64 1))):=(K5.out.setCell (p:=⟨b,3,none⟩) (by show wr.heap.size≤b;omega) _).setCell (p:=⟨b,0,none⟩) (by show wr.heap.size≤b;omega) _))
    obtain⟨Y9,HY9⟩: ∃Y,Hid (((W5.setCell ⟨b,3,none⟩ (.string q)).setCell ⟨b,0,none⟩ (.int .i64 1))=Y):=⟨_,rfl⟩;rw [HY9.out]at D4 HO4 K4 ⊢;clear HY9 x0 f0 x3 f3
    go_wp2_with (first
    | (refine loaB D4.out [.int .i64 1,.int .i64 pa,.int .i64 pb,.string q,.int .i64 0] (fun j hj=>by rw [Nat.zero_add];rfl) rfl 69 _ rfl rfl _ Tryz.underlying69 rfl infoSt5 ?_)
    | (refine wpList_app_st rfl _ _ rfl w1.heap.size _ k _ rfl (HO4.out.alloc _) ⟨1,pa,pb,q,0⟩ _ rfl (st_new _ ⟨1,pa,pb,q,0⟩) (by omega) (by have:=K4.out.size;simp;omega) ?_;intro v' w9 hown' hg9;have HO9:Hid (w9.ownsRow w1.heap.size 69 5 v' (k+1) (QC srC (rmP xs (k+1)))):=(by rw [HSN.out,Vn,HE.out];exact hown');have K9:Hid (Below w1.heap.size w1 w9):=(Qc KA.out K4.out |>fun h9=>(h9.alloc (by have:=K4.out.size;simp;omega) _).grown hg9 (by have:=K4.out.size;simp;omega) (fun g hg=>(HO4.out.lt g hg).1));clear hown' hg9))
    all_goals
     go_roundw
     case rel=>exact⟨k+1,by omega,by go_num,HO9.out,K9.out⟩
     case measure=>simp [intOf];omega
   ·simp only [Int.reduceEq,decide_true,decide_false]at j1 j2 j3 j4 j5;go_wp2_with fail
    rw [HZ.out,HBN.out];refine(Qn5 y Z hzy).mono ?_;rintro e X2 ⟨rfl,hb⟩;rw [HP.out,HQ.out];have C2:Hid (BX X2 b [.int .i64 0,.int .i64 0,.int .i64 0,.string ⟨#[]⟩,.int .i64 0]):=C0.out.below (by simp) hb;have K2:=hd (Qc KZ.out hb);have O2:=hd (Qi HOZ.out hb)
    clear hb HZ HBN HOZ KZ C0;go_wp2_with fail
    refine(VL p X2 hzp).mono ?_;rintro e X3 ⟨rfl,hb⟩;have C3:Hid (BX X3 b [.int .i64 0,.int .i64 0,.int .i64 0,.string ⟨#[]⟩,.int .i64 0]):=C2.out.below (by simp) hb;have K3:=hd (Qc K2.out hb);have O3:=hd (Qi O2.out hb);obtain⟨pa,HPA⟩: ∃o,Hid (pqA p (l1I (rp3 p))=o):=⟨_,rfl⟩;obtain⟨pb,HPB⟩: ∃o,Hid (pqB p (l1I (rp3 p))=o):=⟨_,rfl⟩
    obtain⟨m,HM⟩: ∃o,Hid ((l1I p).getD 0=o):=⟨_,rfl⟩;have HV:Hid (plV (rpC p) (l1I (rp3 p)) (QE p) (QE (rp2 p))= .tuple #[.agg #[.int .i64 pa,.int .i64 pb,.bool (Xd (rpC p) (l1I (rp3 p))&&QE p),.bool (Xd (rpC p) (l1I (rp3 p))&&QE (rp2 p))],.bool (Xd (rpC p) (l1I (rp3 p)))]):=by rw [←HPA.out,←HPB.out];exact(rfl:plV _ _ _ _=_)
    rw [HV.out];generalize (Xd (rpC p) (l1I (rp3 p))&&QE p)=z1
    generalize (Xd (rpC p) (l1I (rp3 p))&&QE (rp2 p))=z2
    generalize (Xd (rpC p) (l1I (rp3 p)))=z3
    clear hb K2 O2 C2;go_wp2_with fail
    obtain⟨Y,HYY⟩: ∃X,Hid (X3.alloc (.cells #[.int .i64 pa,.int .i64 pb,.bool z1,.bool z2] 79)=X):=⟨_,rfl⟩;have KXY:Hid (Below X3.heap.size X3 Y):=by rw [←HYY.out];exact(Below.refl _ _).alloc (Nat.le_refl _) _
    have CP:Hid (BX Y X3.heap.size [.int .i64 pa,.int .i64 pb,.bool z1,.bool z2]):=by rw [←HYY.out];exact bx_new X3 _ _
    have CY:Hid (BX Y b [.int .i64 0,.int .i64 0,.int .i64 0,.string ⟨#[]⟩,.int .i64 0]):=C3.out.below (by simp) KXY.out;have KY:=hd (Qc K3.out KXY.out);have OY:=hd (Qi O3.out KXY.out);rw [HYY.out];refine(YH p Y (by omega)).mono ?_;rintro e X4 ⟨rfl,rfl⟩;rw [HM.out]
    obtain⟨pg,HPG⟩: ∃g,Hid (X3.heap.size=g):=⟨_,rfl⟩;rw [HPG.out]at CP ⊢;clear HYY KXY C3 K3 O3 HPG;have x0:=(CY.out 0 _ rfl).1;have f0:=(CY.out 0 _ rfl).2;have x3:=(CY.out 3 _ rfl).1;have f3:=(CY.out 3 _ rfl).2
    have x4:=(CY.out 4 _ rfl).1;have f4:=(CY.out 4 _ rfl).2;have hbY:b<X4.heap.size:=CY.out.lt (by simp);have HE:Hid (rdS x=⟨2,pa,pb,q,0⟩):=by show _=_;rw [HR.out,if_neg (by decide),if_pos (by decide),HPA.out,HPB.out]
    clear HR x0 f0 x3 f3 x4 f4
    go_upto_region 30 with(first
    | (refine loaB (o:=0) CP.out [.int .i64 pa,.int .i64 pb] (fun j hj=>by match j,hj with | 0,_=>rfl | 1,_=>rfl) rfl 26 _ rfl rfl _ Tryz.underlying26 rfl infoRf2 ?_)
    | (refine stoB (o:=1) CY.out [.int .i64 pa,.int .i64 pb] (by simp) rfl 26 _ _ rfl rfl rfl infoRf2 rfl ?_;intro W5 hB5 hb5 hz5 hk5;have C5:Hid (BX W5 b [.int .i64 0,.int .i64 pa,.int .i64 pb,.string ⟨#[]⟩,.int .i64 0]):=hB5;have O5:Hid (W5.ownsRow w1.heap.size 69 5 u6 k (QC srC (rmP xs k))):=own_keepR OY.out (fun g hg=>hk5 g (HOB.out g hg));have K5:Hid (Below wr.heap.size wr W5):=KY.out.trans (hb5.mono (by omega));have x0:=(C5.out 0 _ rfl).1;have f0:=(C5.out 0 _ rfl).2;have x3:=(C5.out 3 _ rfl).1;have f3:=(C5.out 3 _ rfl).2;have hbY:b<W5.heap.size:=(by omega);clear hB5 hb5 hz5 hk5;have D4:Hid (BX ((W5.setCell ⟨b,3,none⟩ (.string q)).setCell ⟨b,0,none⟩ (.int .i64 2)) b (srC ⟨2,pa,pb,q,0⟩)):=(C5.out.set 3 _ (by simp)).set 0 _ (by simp);have HO4:Hid (((W5.setCell ⟨b,3,none⟩ (.string q)).setCell ⟨b,0,none⟩ (.int .i64 2)).ownsRow w1.heap.size 69 5 u6 k (QC srC (rmP xs k))):=own_setB (own_setB O5.out HOB.out _ _) HOB.out _ _;have K4:Hid (Below wr.heap.size wr ((W5.setCell ⟨b,3,none⟩ (.string q)).setCell ⟨b,0,none⟩ (.int .i64 2))):=(K5.out.setCell (p:=⟨b,3,none⟩) (by show wr.heap.size≤b;omega) _).setCell (p:=⟨b,0,none⟩) (by show wr.heap.size≤b;omega) _))
    obtain⟨Y9,HY9⟩: ∃Y,Hid (((W5.setCell ⟨b,3,none⟩ (.string q)).setCell ⟨b,0,none⟩ (.int .i64 2))=Y):=⟨_,rfl⟩;rw [HY9.out]at D4 HO4 K4 ⊢;clear HY9 x0 f0 x3 f3
    go_wp2_with (first
    | (refine loaB D4.out [.int .i64 2,.int .i64 pa,.int .i64 pb,.string q,.int .i64 0] (fun j hj=>by rw [Nat.zero_add];rfl) rfl 69 _ rfl rfl _ Tryz.underlying69 rfl infoSt5 ?_)
    | (refine wpList_app_st rfl _ _ rfl w1.heap.size _ k _ rfl (HO4.out.alloc _) ⟨2,pa,pb,q,0⟩ _ rfl (st_new _ ⟨2,pa,pb,q,0⟩) (by omega) (by have:=K4.out.size;simp;omega) ?_;intro v' w9 hown' hg9;have HO9:Hid (w9.ownsRow w1.heap.size 69 5 v' (k+1) (QC srC (rmP xs (k+1)))):=(by rw [HSN.out,Vn,HE.out];exact hown');have K9:Hid (Below w1.heap.size w1 w9):=(Qc KA.out K4.out |>fun h9=>(h9.alloc (by have:=K4.out.size;simp;omega) _).grown hg9 (by have:=K4.out.size;simp;omega) (fun g hg=>(HO4.out.lt g hg).1));clear hown' hg9))
    all_goals
     go_roundw
     case rel=>exact⟨k+1,by omega,by go_num,HO9.out,K9.out⟩
     case measure=>simp [intOf];omega
   ·simp only [Int.reduceEq,decide_true,decide_false]at j1 j2 j3 j4 j5;go_wp2_with fail
    rw [HZ.out,HBN.out];refine(Qn5 y Z hzy).mono ?_;rintro e X2 ⟨rfl,hb⟩;rw [HP.out,HQ.out];have C2:Hid (BX X2 b [.int .i64 0,.int .i64 0,.int .i64 0,.string ⟨#[]⟩,.int .i64 0]):=C0.out.below (by simp) hb;have K2:=hd (Qc KZ.out hb);have O2:=hd (Qi HOZ.out hb)
    clear hb HZ HBN HOZ KZ C0;go_wp2_with fail
    refine(VL p X2 hzp).mono ?_;rintro e X3 ⟨rfl,hb⟩;have C3:Hid (BX X3 b [.int .i64 0,.int .i64 0,.int .i64 0,.string ⟨#[]⟩,.int .i64 0]):=C2.out.below (by simp) hb;have K3:=hd (Qc K2.out hb);have O3:=hd (Qi O2.out hb);obtain⟨pa,HPA⟩: ∃o,Hid (pqA p (l1I (rp3 p))=o):=⟨_,rfl⟩;obtain⟨pb,HPB⟩: ∃o,Hid (pqB p (l1I (rp3 p))=o):=⟨_,rfl⟩
    obtain⟨m,HM⟩: ∃o,Hid ((l1I p).getD 0=o):=⟨_,rfl⟩;have HV:Hid (plV (rpC p) (l1I (rp3 p)) (QE p) (QE (rp2 p))= .tuple #[.agg #[.int .i64 pa,.int .i64 pb,.bool (Xd (rpC p) (l1I (rp3 p))&&QE p),.bool (Xd (rpC p) (l1I (rp3 p))&&QE (rp2 p))],.bool (Xd (rpC p) (l1I (rp3 p)))]):=by rw [←HPA.out,←HPB.out];exact(rfl:plV _ _ _ _=_)
    rw [HV.out];generalize (Xd (rpC p) (l1I (rp3 p))&&QE p)=z1
    generalize (Xd (rpC p) (l1I (rp3 p))&&QE (rp2 p))=z2
    generalize (Xd (rpC p) (l1I (rp3 p)))=z3
    clear hb K2 O2 C2;go_wp2_with fail
    obtain⟨Y,HYY⟩: ∃X,Hid (X3.alloc (.cells #[.int .i64 pa,.int .i64 pb,.bool z1,.bool z2] 79)=X):=⟨_,rfl⟩;have KXY:Hid (Below X3.heap.size X3 Y):=by rw [←HYY.out];exact(Below.refl _ _).alloc (Nat.le_refl _) _
    have CP:Hid (BX Y X3.heap.size [.int .i64 pa,.int .i64 pb,.bool z1,.bool z2]):=by rw [←HYY.out];exact bx_new X3 _ _
    have CY:Hid (BX Y b [.int .i64 0,.int .i64 0,.int .i64 0,.string ⟨#[]⟩,.int .i64 0]):=C3.out.below (by simp) KXY.out;have KY:=hd (Qc K3.out KXY.out);have OY:=hd (Qi O3.out KXY.out);rw [HYY.out];refine(YH p Y (by omega)).mono ?_;rintro e X4 ⟨rfl,rfl⟩;rw [HM.out]
    obtain⟨pg,HPG⟩: ∃g,Hid (X3.heap.size=g):=⟨_,rfl⟩;rw [HPG.out]at CP ⊢;clear HYY KXY C3 K3 O3 HPG;have x0:=(CY.out 0 _ rfl).1;have f0:=(CY.out 0 _ rfl).2;have x3:=(CY.out 3 _ rfl).1;have f3:=(CY.out 3 _ rfl).2
    have x4:=(CY.out 4 _ rfl).1;have f4:=(CY.out 4 _ rfl).2;have hbY:b<X4.heap.size:=CY.out.lt (by simp);have HE:Hid (rdS x=⟨3,0,0,q,m⟩):=by show _=_;rw [HR.out,if_neg (by decide),if_neg (by decide),HM.out]
    clear HR;have D4:Hid (BX (((X4.setCell ⟨b,4,none⟩ (.int .i64 m)).setCell ⟨b,3,none⟩ (.string q)).setCell ⟨b,0,none⟩ (.int .i64 3)) b (srC ⟨3,0,0,q,m⟩)):=(((CY.out.set 4 _ (by simp)).set 3 _ (by simp)).set 0 _ (by simp));have HO4:Hid (((((X4.setCell ⟨b,4,none⟩ (.int .i64 m)).setCell ⟨b,3,none⟩ (.string q)).setCell ⟨b,0,none⟩ (.int .i64 3))).ownsRow w1.heap.size 69 5 u6 k (QC srC (rmP xs k))):=(own_setB (own_setB (own_setB OY.out HOB.out _ _) HOB.out _ _) HOB.out _ _);have K4:Hid (Below wr.heap.size wr (((X4.setCell ⟨b,4,none⟩ (.int .i64 m)).setCell ⟨b,3,none⟩ (.string q)).setCell ⟨b,0,none⟩ (.int .i64 3))):=(((KY.out.setCell (p:=⟨b,4,none⟩) (by show wr.heap.size≤b;omega) _).setCell (p:=⟨b,3,none⟩) (by show wr.heap.size≤b;omega) _).setCell (p:=⟨b,0,none⟩) (by show wr.heap.size≤b;omega) _);go_upto_region 30 with fail
    obtain⟨Y9,HY9⟩: ∃Y,Hid ((((X4.setCell ⟨b,4,none⟩ (.int .i64 m)).setCell ⟨b,3,none⟩ (.string q)).setCell ⟨b,0,none⟩ (.int .i64 3))=Y):=⟨_,rfl⟩;rw [HY9.out]at D4 HO4 K4 ⊢;clear HY9 x0 f0 x3 f3 x4 f4
    go_wp2_with (first
    | (refine loaB D4.out [.int .i64 3,.int .i64 0,.int .i64 0,.string q,.int .i64 m] (fun j hj=>by rw [Nat.zero_add];rfl) rfl 69 _ rfl rfl _ Tryz.underlying69 rfl infoSt5 ?_)
    | (refine wpList_app_st rfl _ _ rfl w1.heap.size _ k _ rfl (HO4.out.alloc _) ⟨3,0,0,q,m⟩ _ rfl (st_new _ ⟨3,0,0,q,m⟩) (by omega) (by have:=K4.out.size;simp;omega) ?_;intro v' w9 hown' hg9;have HO9:Hid (w9.ownsRow w1.heap.size 69 5 v' (k+1) (QC srC (rmP xs (k+1)))):=(by rw [HSN.out,Vn,HE.out];exact hown');have K9:Hid (Below w1.heap.size w1 w9):=(Qc KA.out K4.out |>fun h9=>(h9.alloc (by have:=K4.out.size;simp;omega) _).grown hg9 (by have:=K4.out.size;simp;omega) (fun g hg=>(HO4.out.lt g hg).1));clear hown' hg9))
    all_goals
     go_roundw
     case rel=>exact⟨k+1,by omega,by go_num,HO9.out,K9.out⟩
     case measure=>simp [intOf];omega
   ·simp only [Int.reduceEq,decide_true,decide_false]at j1 j2 j3 j4 j5;go_wp2_with fail
    rw [HZ.out,HBN.out];refine(Qn5 y Z hzy).mono ?_;rintro e X2 ⟨rfl,hb⟩;rw [HP.out,HQ.out];have C2:Hid (BX X2 b [.int .i64 0,.int .i64 0,.int .i64 0,.string ⟨#[]⟩,.int .i64 0]):=C0.out.below (by simp) hb;have K2:=hd (Qc KZ.out hb);have O2:=hd (Qi HOZ.out hb)
    clear hb HZ HBN HOZ KZ C0;go_wp2_with fail
    refine(VL p X2 hzp).mono ?_;rintro e X3 ⟨rfl,hb⟩;have C3:Hid (BX X3 b [.int .i64 0,.int .i64 0,.int .i64 0,.string ⟨#[]⟩,.int .i64 0]):=C2.out.below (by simp) hb;have K3:=hd (Qc K2.out hb);have O3:=hd (Qi O2.out hb);obtain⟨pa,HPA⟩: ∃o,Hid (pqA p (l1I (rp3 p))=o):=⟨_,rfl⟩;obtain⟨pb,HPB⟩: ∃o,Hid (pqB p (l1I (rp3 p))=o):=⟨_,rfl⟩
    obtain⟨m,HM⟩: ∃o,Hid ((l1I p).getD 0=o):=⟨_,rfl⟩;have HV:Hid (plV (rpC p) (l1I (rp3 p)) (QE p) (QE (rp2 p))= .tuple #[.agg #[.int .i64 pa,.int .i64 pb,.bool (Xd (rpC p) (l1I (rp3 p))&&QE p),.bool (Xd (rpC p) (l1I (rp3 p))&&QE (rp2 p))],.bool (Xd (rpC p) (l1I (rp3 p)))]):=by rw [←HPA.out,←HPB.out];exact(rfl:plV _ _ _ _=_)
    rw [HV.out];generalize (Xd (rpC p) (l1I (rp3 p))&&QE p)=z1
    generalize (Xd (rpC p) (l1I (rp3 p))&&QE (rp2 p))=z2
    generalize (Xd (rpC p) (l1I (rp3 p)))=z3
    clear hb K2 O2 C2;go_wp2_with fail
    obtain⟨Y,HYY⟩: ∃X,Hid (X3.alloc (.cells #[.int .i64 pa,.int .i64 pb,.bool z1,.bool z2] 79)=X):=⟨_,rfl⟩;have KXY:Hid (Below X3.heap.size X3 Y):=by rw [←HYY.out];exact(Below.refl _ _).alloc (Nat.le_refl _) _
    have CP:Hid (BX Y X3.heap.size [.int .i64 pa,.int .i64 pb,.bool z1,.bool z2]):=by rw [←HYY.out];exact bx_new X3 _ _
    have CY:Hid (BX Y b [.int .i64 0,.int .i64 0,.int .i64 0,.string ⟨#[]⟩,.int .i64 0]):=C3.out.below (by simp) KXY.out;have KY:=hd (Qc K3.out KXY.out);have OY:=hd (Qi O3.out KXY.out);rw [HYY.out];refine(YH p Y (by omega)).mono ?_;rintro e X4 ⟨rfl,rfl⟩;rw [HM.out]
    obtain⟨pg,HPG⟩: ∃g,Hid (X3.heap.size=g):=⟨_,rfl⟩;rw [HPG.out]at CP ⊢;clear HYY KXY C3 K3 O3 HPG;have x0:=(CY.out 0 _ rfl).1;have f0:=(CY.out 0 _ rfl).2;have x3:=(CY.out 3 _ rfl).1;have f3:=(CY.out 3 _ rfl).2
    have x4:=(CY.out 4 _ rfl).1;have f4:=(CY.out 4 _ rfl).2;have hbY:b<X4.heap.size:=CY.out.lt (by simp);have HE:Hid (rdS x=⟨4,0,0,q,m⟩):=by show _=_;rw [HR.out,if_neg (by decide),if_neg (by decide),HM.out]
    clear HR;have D4:Hid (BX (((X4.setCell ⟨b,4,none⟩ (.int .i64 m)).setCell ⟨b,3,none⟩ (.string q)).setCell ⟨b,0,none⟩ (.int .i64 4)) b (srC ⟨4,0,0,q,m⟩)):=(((CY.out.set 4 _ (by simp)).set 3 _ (by simp)).set 0 _ (by simp));have HO4:Hid (((((X4.setCell ⟨b,4,none⟩ (.int .i64 m)).setCell ⟨b,3,none⟩ (.string q)).setCell ⟨b,0,none⟩ (.int .i64 4))).ownsRow w1.heap.size 69 5 u6 k (QC srC (rmP xs k))):=(own_setB (own_setB (own_setB OY.out HOB.out _ _) HOB.out _ _) HOB.out _ _);have K4:Hid (Below wr.heap.size wr (((X4.setCell ⟨b,4,none⟩ (.int .i64 m)).setCell ⟨b,3,none⟩ (.string q)).setCell ⟨b,0,none⟩ (.int .i64 4))):=(((KY.out.setCell (p:=⟨b,4,none⟩) (by show wr.heap.size≤b;omega) _).setCell (p:=⟨b,3,none⟩) (by show wr.heap.size≤b;omega) _).setCell (p:=⟨b,0,none⟩) (by show wr.heap.size≤b;omega) _);go_upto_region 30 with fail
    obtain⟨Y9,HY9⟩: ∃Y,Hid ((((X4.setCell ⟨b,4,none⟩ (.int .i64 m)).setCell ⟨b,3,none⟩ (.string q)).setCell ⟨b,0,none⟩ (.int .i64 4))=Y):=⟨_,rfl⟩;rw [HY9.out]at D4 HO4 K4 ⊢;clear HY9 x0 f0 x3 f3 x4 f4
    go_wp2_with (first
    | (refine loaB D4.out [.int .i64 4,.int .i64 0,.int .i64 0,.string q,.int .i64 m] (fun j hj=>by rw [Nat.zero_add];rfl) rfl 69 _ rfl rfl _ Tryz.underlying69 rfl infoSt5 ?_)
    | (refine wpList_app_st rfl _ _ rfl w1.heap.size _ k _ rfl (HO4.out.alloc _) ⟨4,0,0,q,m⟩ _ rfl (st_new _ ⟨4,0,0,q,m⟩) (by omega) (by have:=K4.out.size;simp;omega) ?_;intro v' w9 hown' hg9;have HO9:Hid (w9.ownsRow w1.heap.size 69 5 v' (k+1) (QC srC (rmP xs (k+1)))):=(by rw [HSN.out,Vn,HE.out];exact hown');have K9:Hid (Below w1.heap.size w1 w9):=(Qc KA.out K4.out |>fun h9=>(h9.alloc (by have:=K4.out.size;simp;omega) _).grown hg9 (by have:=K4.out.size;simp;omega) (fun g hg=>(HO4.out.lt g hg).1));clear hown' hg9))
    all_goals
     go_roundw
     case rel=>exact⟨k+1,by omega,by go_num,HO9.out,K9.out⟩
     case measure=>simp [intOf];omega
   ·simp only [Int.reduceEq,decide_true,decide_false]at j1 j2 j3 j4 j5;have HE:Hid (rdS x=⟨5,0,0,y,0⟩):=by show _=_;rw [HR.out,if_pos (by decide)]
    clear HR;have x0:=(C0.out 0 _ rfl).1;have f0:=(C0.out 0 _ rfl).2;have x3:=(C0.out 3 _ rfl).1;have f3:=(C0.out 3 _ rfl).2;have D4:Hid (BX ((Z.setCell ⟨b,3,none⟩ (.string y)).setCell ⟨b,0,none⟩ (.int .i64 5)) b (srC ⟨5,0,0,y,0⟩)):=(C0.out.set 3 _ (by simp)).set 0 _ (by simp);have HO4:Hid (((Z.setCell ⟨b,3,none⟩ (.string y)).setCell ⟨b,0,none⟩ (.int .i64 5)).ownsRow w1.heap.size 69 5 u6 k (QC srC (rmP xs k))):=own_setB (own_setB HOZ.out HOB.out _ _) HOB.out _ _
    have K4:Hid (Below wr.heap.size wr ((Z.setCell ⟨b,3,none⟩ (.string y)).setCell ⟨b,0,none⟩ (.int .i64 5))):=(KZ.out.setCell (p:=⟨b,3,none⟩) (by show wr.heap.size≤b;omega) _).setCell (p:=⟨b,0,none⟩) (by show wr.heap.size≤b;omega) _;go_upto_region 10 with fail
    rw [HZ.out,HBN.out];clear HZ HBN HOZ KZ C0;go_upto_region 30 with fail
    obtain⟨Y9,HY9⟩: ∃Y,Hid (((Z.setCell ⟨b,3,none⟩ (.string y)).setCell ⟨b,0,none⟩ (.int .i64 5))=Y):=⟨_,rfl⟩;rw [HY9.out]at D4 HO4 K4 ⊢;clear HY9 x0 f0 x3 f3
    go_wp2_with (first
    | (refine loaB D4.out [.int .i64 5,.int .i64 0,.int .i64 0,.string y,.int .i64 0] (fun j hj=>by rw [Nat.zero_add];rfl) rfl 69 _ rfl rfl _ Tryz.underlying69 rfl infoSt5 ?_)
    | (refine wpList_app_st rfl _ _ rfl w1.heap.size _ k _ rfl (HO4.out.alloc _) ⟨5,0,0,y,0⟩ _ rfl (st_new _ ⟨5,0,0,y,0⟩) (by omega) (by have:=K4.out.size;simp;omega) ?_;intro v' w9 hown' hg9;have HO9:Hid (w9.ownsRow w1.heap.size 69 5 v' (k+1) (QC srC (rmP xs (k+1)))):=(by rw [HSN.out,Vn,HE.out];exact hown');have K9:Hid (Below w1.heap.size w1 w9):=(Qc KA.out K4.out |>fun h9=>(h9.alloc (by have:=K4.out.size;simp;omega) _).grown hg9 (by have:=K4.out.size;simp;omega) (fun g hg=>(HO4.out.lt g hg).1));clear hown' hg9))
    all_goals
     go_roundw
     case rel=>exact⟨k+1,by omega,by go_num,HO9.out,K9.out⟩
     case measure=>simp [intOf];omega
  ·have q2: ¬(k:Int)<(n:Int):=by omega
   have e9:k=n:=by omega
   subst e9;have HPL:Hid (rmP xs k=rmS s):=by show _=_;rw [HMS.out,HN.out]
   have HLN:Hid ((rmS s).length=k):=by show _=_;rw [←HPL.out];exact rmP_len (by rw [HN.out];omega)
   obtain⟨FF,cF,rfl,_,_⟩:=Qu HO.out;have HOS:Hid (wr.ownsRow w1.heap.size 69 5 (.slice FF k cF) k (QC srC (rmS s))):=by rw [←HPL.out];exact HO.out
   have HMW:Hid (MsRow wr FF k (sK (rmS s)) (sC (rmS s)) (sR (rmS s)) (sT (rmS s)) (sM (rmS s))):=ms_of_own (by have h9:=HOS.out;rw [flat_ms,HLN.out]at h9;exact h9) (fun i hi=>by have:=rmST_sz hs i (by rw [HLN.out];exact hi);unfold maxLen;omega);have HTS:Hid (∀i,i<k→(sT (rmS s) i).size≤1048576):=fun i hi=>rmST_sz hs i (by rw [HLN.out];exact hi);have KW:=hd (Qc K1.out KA.out);have HOK:Hid (Zb (sK (rmS s)) (sC (rmS s)) (sR (rmS s)) (sT (rmS s)) (sM (rmS s)) k=DW (rmS s)):=by show _=_;unfold DW;rw [HLN.out]
   obtain⟨ok,HKO⟩: ∃ok,Hid (DW (rmS s)=ok):=⟨_,rfl⟩;clear HO HPL;go_wp2_with fail
   refine(Kw wr HMW.out HTS.out).mono ?_;rintro e w2 ⟨rfl,hb2⟩;rw [HOK.out,HKO.out];cases ok
   ·have HB:Hid (rmB s=false):=by show _=_;rw [HSA.out.1,HKO.out];simp
    go_wp2_with fail
    refine bodyPost_ret (v:= .tuple #[.slice none 0 0,.bool false]) ?_ rfl ⟨w.heap.size,Nat.le_refl _,.inr ⟨HB.out,rfl⟩,Qc KW.out hb2⟩;simp (maxDischargeDepth:=9) [results,Tryz.results23,go_sem]
   obtain⟨mt,HMT⟩: ∃mt,Hid (mtO (sK (rmS s)) (sC (rmS s)) (sR (rmS s)) (sT (rmS s)) (sM (rmS s)) k=mt):=⟨_,rfl⟩;have HML:Hid (mtL (rmS s)=mt):=by show _=_;unfold mtL;rw [HLN.out];exact HMT.out
   go_wp2_with fail
   refine(Qgb w2 (HMW.out.below hb2) HTS.out).mono ?_;rintro e w3 ⟨rfl,hb3⟩;rw [HMT.out];have KW3:=hd (Qc (Qc KW.out hb2) hb3);have HO3:=hd (Qi (Qi HOS.out hb2) hb3);clear hb2 hb3 HOS;by_cases hq:mt=s
   ·have he:=Jv hq;have HB:Hid (rmB s=true):=by show _=_;rw [HSA.out.1,HKO.out,HML.out,HN.out,decide_eq_true h30,he];rfl
    have HSI:Hid (rmS s=rmI s):=HSA.out.2 HB.out;clear hq;go_wp2_with fail
    refine bodyPost_ret (v:= .tuple #[.slice FF k cF,.bool true]) ?_ rfl ⟨w1.heap.size,by omega,.inl ⟨HB.out,_,rfl,by rw [←HSI.out,HLN.out];exact HO3.out⟩,KW3.out⟩;simp (maxDischargeDepth:=9) [results,Tryz.results23,go_sem]
   ·have he:=QF hq;have HB:Hid (rmB s=false):=by show _=_;rw [HSA.out.1,HKO.out,HML.out,he];simp
    clear hq;go_wp2_with fail
    refine bodyPost_ret (v:= .tuple #[.slice none 0 0,.bool false]) ?_ rfl ⟨w.heap.size,Nat.le_refl _,.inr ⟨HB.out,rfl⟩,KW3.out⟩;simp (maxDischargeDepth:=9) [results,Tryz.results23,go_sem]
end Go.Proofs.YtejbnnacghbhoaaGreatDoor
