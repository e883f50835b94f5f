import Derived.Test.YthjpfkpcemgefaaGreatDoorGzc
import Derived.Test.YthjpfkpcemgefaaGreatDoorGbf
set_option linter.unusedSimpArgs false
set_option linter.unusedVariables false
namespace Go.Proofs.YthjpfkpcemgefaaGreatDoor
open Go.RowKit
def PL (l:List UInt8):Prop:= ∀b∈l,32≤b.toNat∧b.toNat≤126
theorem PL_iff (l:List UInt8):plainB l=true↔PL l:=by
 unfold plainB PL
 rw [List.all_eq_true]
 simp only [decide_eq_true_eq]
theorem PL_app {l r:List UInt8} (h:PL l) (h':PL r):PL (l++r):=fun b hb=>by
 rcases List.mem_append.1 hb with hb | hb
 ·exact h b hb
 ·exact h' b hb
theorem PL_W {l:List UInt8} (h: ∀b∈l,isW b=true):PL l:=fun b hb=>by
 have h1:=h b hb
 unfold isW at h1
 simp only [Bool.or_eq_true,decide_eq_true_eq,beq_iff_eq]at h1
 rcases h1 with(h1 | h1) | h1
 ·omega
 ·omega
 ·subst h1;decide
theorem PL_qt {l:List UInt8} (h:PL l):PL (qt l):=by
 induction l with
 | nil=>exact fun b hb=>by cases hb
 | cons a t ih=>
  have h1:=h a (by simp)
  have h2:=ih (fun b hb=>h b (by simp [hb]))
  rw [qt_cons]
  split
  ·intro b hb
   simp only [List.cons_append,List.nil_append,List.mem_cons]at hb
   rcases hb with hb | hb | hb
   ·subst hb;decide
   ·subst hb;decide
   ·exact h2 b hb
  ·intro b hb
   simp only [List.cons_append,List.nil_append,List.mem_cons]at hb
   rcases hb with hb | hb
   ·subst hb;exact h1
   ·exact h2 b hb
theorem PL_dec (l:List UInt8) (h:(l.all fun b=>decide (32≤b.toNat∧b.toNat≤126))=true):PL l:=(PL_iff l).1 h
theorem PL_sg (o:Int) (h1:1≤o) (h2:o≤11):PL (sgT o):=by
 have hn:o=1∨o=2∨o=3∨o=4∨o=5∨o=6∨o=7∨o=8∨o=9∨o=10∨o=11:=by omega
 rcases hn with rfl | rfl | rfl | rfl | rfl | rfl | rfl | rfl | rfl | rfl | rfl
 all_goals exact PL_dec _ (by decide)
theorem it_list {n:Int} (h:0≤n):(itB n).data.toList=Lib.decDigits n.toNat:=by
 have:=Lib.itoa_nonneg n.toNat
 rw [show((n.toNat:Nat):Int)=n by omega]at this
 rw [←this]
 rfl
theorem PL_it {n:Int}:PL (itB n).data.toList:=by
 rcases Int.le_total 0 n with h | h
 ·rw [it_list h]
  exact PL_W fun b hb=>(dig_W (dig_all _ b hb)).1
 ·by_cases h0:n=0
  ·subst h0
   exact PL_dec _ (by decide+kernel)
  ·have e:(itB n).data.toList=45::Lib.decDigits (-n).toNat:=by
    have:=Lib.itoa_neg (-n).toNat (by omega)
    rw [show-(((-n).toNat:Nat):Int)=n by omega]at this
    rw [←this]
    rfl
   rw [e]
   intro b hb
   rcases List.mem_cons.1 hb with hb | hb
   ·subst hb;decide
   ·exact PL_W (fun b hb=>(dig_W (dig_all _ b hb)).1) b hb
theorem PL_cst {k n:Int} {s:ByteArray} (hc:cOk k n s=true):PL (cstT k n s):=by
 obtain⟨h,h0,hn⟩:=cOk_parts hc
 unfold cstT
 rcases okV_kinds h with⟨rfl,rfl,rfl⟩ | ⟨rfl,hr,rfl⟩ | ⟨rfl,rfl,hr⟩ | ⟨rfl,hr,rfl⟩ | ⟨rfl,h1,h5,rfl⟩
 ·exact absurd rfl h0
 ·have e2:txV 1 n ⟨#[]⟩=itB n:=by rw [txV,h,if_pos rfl,txB,if_pos rfl]
  rw [if_neg (by omega),e2]
  exact PL_it
 ·rw [if_pos rfl]
  refine PL_app (PL_app (PL_dec _ (by decide)) (PL_qt ?_)) (PL_dec _ (by decide))
  unfold rWord at hr
  exact(PL_iff _).1 (Bool.and_eq_true_iff.1 hr).2
 ·have e2:txV 3 n ⟨#[]⟩=trT n:=by rw [txV,h,if_pos rfl,txB,if_neg (by omega),if_neg (by omega),if_pos rfl]
  rw [if_neg (by omega),e2]
  have hn:n=0∨n=1:=by revert hr;simp [rTruth]
  rcases hn with rfl | rfl
  all_goals exact PL_dec _ (by decide)
 ·have e2:txV 4 n ⟨#[]⟩=erT n:=by rw [txV,h,if_pos rfl,txB,if_neg (by omega),if_neg (by omega),if_neg (by omega),if_pos rfl]
  rw [if_neg (by omega),e2]
  have hk:n=1∨n=2∨n=3∨n=4∨n=5:=by omega
  rcases hk with rfl | rfl | rfl | rfl | rfl
  all_goals exact PL_dec _ (by decide)
theorem PL_bd {F:Nat→FN} {j:Nat} {z:Int} (h:PL (TX F j)):PL (bdX F j z):=by
 unfold bdX
 split
 ·exact PL_app (PL_app (PL_dec _ (by decide)) h) (PL_dec _ (by decide))
 ·exact h
theorem PL_TX {F:Nat→FN} {n:Nat} (R:Rt F n): ∀i,i<n→PL (TX F i):=by
 intro i
 induction i using Nat.strongRecOn with
 | ind i ih=>
  intro hi
  have kid: ∀c∈(F i).kids,PL (TX F c.toNat):=fun c hc=>by
   have hr:=R.rng i hi c hc
   exact ih c.toNat (by omega) (by omega)
  rcases node_kinds (R.node i hi)with⟨hk,hc,hg⟩ | ⟨hk,hc,hg⟩ | ⟨hk,hc,hc',hg⟩ | ⟨hk,c,hg⟩ | ⟨hk,o1,o2,a,b,hg⟩ | ⟨hk,o1,o2,k1,k2⟩
  ·rw [TX_leaf (by omega) (by omega) (by omega),leafT,if_pos hk]
   exact PL_cst hc
  ·rw [TX_leaf (by omega) (by omega) (by omega),leafT,if_neg (by omega),if_pos hk]
   exact PL_W (plT_W hc).1
  ·rw [TX_leaf (by omega) (by omega) (by omega),leafT,if_neg (by omega),if_neg (by omega)]
   exact PL_app (PL_app (PL_W (plT_W hc).1) (PL_dec _ (by decide))) (PL_W (plT_W hc').1)
  ·rw [TX_neg R.rng hi hk hg]
   exact PL_app (PL_dec _ (by decide)) (PL_bd (kid c (by rw [hg];simp)))
  ·rw [TX_bin R.rng hi hk hg]
   exact PL_app (PL_app (PL_bd (kid a (by rw [hg];simp))) (PL_sg _ o1 o2)) (PL_bd (kid b (by rw [hg];simp)))
  ·rw [TX_call R.rng hi hk]
   obtain⟨f1,f2,_⟩:=fn_head _ o1 o2
   refine PL_app (PL_app (PL_app (PL_W fun b hb=>List.all_eq_true.1 f1 b hb) (PL_dec _ (by decide))) ?_) (PL_dec _ (by decide))
   cases hq:(F i).kids with
   | nil=>exact fun b hb=>by cases hb
   | cons k ks=>
    rw [hq]at kid
    rw [List.map_cons,jn]
    refine PL_app (kid k (by simp)) ?_
    intro b hb
    rw [List.mem_flatten]at hb
    obtain⟨w,hw,hb⟩:=hb
    rw [List.mem_map]at hw
    obtain⟨t,ht,rfl⟩:=hw
    rw [List.mem_map]at ht
    obtain⟨c,hc,rfl⟩:=ht
    exact PL_app (PL_dec [44] (by decide)) (kid c (by simp [hc])) b hb
theorem seg_get (F:Nat→FN) (a:Nat): ∀(m j:Nat),j<m→(seg F a m)[j]? =some (F (a+j))
 | 0,j,h=>by omega
 | m+1,j,h=>by
  rw [seg]
  by_cases hj:j<m
  ·rw [List.getElem?_append_left (by rw [seg_len];exact hj)]
   exact seg_get F a m j hj
  ·obtain rfl:j=m:=by omega
   rw [List.getElem?_append_right (by rw [seg_len];omega),seg_len,Nat.sub_self]
   rfl
theorem seg_ouF (out:List FN):seg (ouF out) 0 out.length=out:=by
 apply List.ext_getElem?
 intro j
 by_cases hj:j<out.length
 ·rw [seg_get _ _ _ _ hj,Nat.zero_add,List.getElem?_eq_getElem hj]
  unfold ouF
  rw [List.getD_eq_getElem?_getD,List.getElem?_eq_getElem hj]
  rfl
 ·rw [List.getElem?_eq_none (by rw [seg_len];omega),List.getElem?_eq_none (by omega)]
theorem good_of {out:List FN} (h:fOkB (ouF out) out.length=true):good out=true:=by
 obtain⟨h1,h60,hn,_⟩:=fOk_in h
 unfold good
 rw [Bool.and_eq_true]
 refine⟨decide_eq_true h60,List.all_eq_true.2 fun x hx=> ?_⟩
 obtain⟨i,hi,rfl⟩:=List.getElem_of_mem hx
 have h9:=hn i hi
 unfold ouF at h9
 rw [List.getD_eq_getElem?_getD,List.getElem?_eq_getElem hi]at h9
 exact h9
theorem rdF_TX {out:List FN} (h:fOkB (ouF out) out.length=true) (hz:(TX (ouF out) (out.length-1)).length≤200):rWord (bs (TX (ouF out) (out.length-1)))=true∧rdF (bs (TX (ouF out) (out.length-1)))=some out:=by
 obtain⟨h1,_⟩:=fOk_in h
 have hw:rWord (bs (TX (ouF out) (out.length-1)))=true:=by
  unfold rWord
  rw [Bool.and_eq_true]
  exact⟨decide_eq_true (by rw [bs_size];exact hz),(PL_iff _).2 (by rw [bs_list];exact PL_TX (rt_of h).1 _ (by omega))⟩
 refine⟨hw,?_⟩
 unfold rdF
 rw [hw,if_pos rfl,bs_list,text_back h (by omega),seg_ouF]
 exact rdE_some rfl (good_of h) h
theorem ftx_back {out:List FN} (h:(ftx (ouF out) out.length).size≠0):fOkB (ouF out) out.length=true∧rWord (ftx (ouF out) out.length)=true∧rdF (ftx (ouF out) out.length)=some out:=by
 unfold ftx at*
 by_cases hc:fOkB (ouF out) out.length=true∧(TX (ouF out) (out.length-1)).length≤200
 ·rw [if_pos hc]
  exact⟨hc.1,rdF_TX hc.1 hc.2⟩
 ·rw [if_neg hc]at h
  exact absurd rfl h
end Go.Proofs.YthjpfkpcemgefaaGreatDoor
