import Derived.Test.YtejbnnacghbhoaaGreatDoorGao
import Derived.Test.YtejbnnacghbhoaaGreatDoorPlaceJK
import Derived.Test.YtejbnnacghbhoaaGreatDoorGaf
set_option linter.unusedSimpArgs false
set_option linter.unusedVariables false
set_option maxHeartbeats 8000000
set_option maxRecDepth 100000
namespace Go.Proofs.YtejbnnacghbhoaaGreatDoor
open Go.RowKit
theorem rpc:RPC:=fun l w h=>VL (bs l) w (by rw [Qz];exact h)
theorem Qme {Z:Nat→Prop} {r:Nat} {s:ByteArray} {B m:Nat} (hm:m≤20000) (hR:DC Z r s B m) (hC:Qbw Z r s B m) (hs:s.size≤1000):Qos Z r s B (m+1):=by
 intro W k v out h hg hk;cases hq:sb (rest s k)with
 | nil=>exact UD hm rpc hC hs W k v out h hg hk (by rw [hq];exact⟨by simp,by simp,by simp,by simp⟩)
 | cons c t=>
  by_cases h1:c=45
  ·exact Qez hm hR hs W k v out t h hg hk (by rw [hq,h1])
  by_cases h2:c=40
  ·exact Qey hm hR hs W k v out t h hg hk (by rw [hq,h2])
  by_cases h3:c=34
  ·exact Qex hm hs W k v out t h hg hk (by rw [hq,h3])
  by_cases h4:c=35
  ·exact Qe0 hm hs W k v out t h hg hk (by rw [hq,h4])
  exact UD hm rpc hC hs W k v out h hg hk (by rw [hq];exact⟨by simpa using h1,by simpa using h2,by simpa using h3,by simpa using h4⟩)
structure All (r:Nat) (s:ByteArray) (B m:Nat):Prop where
 row: ∀Z,DC Z r s B m
 one: ∀Z,Qos Z r s B m
 call: ∀Z,Qbw Z r s B m
 arg: ∀Z,Qow Z r s B m
theorem Qka (r:Nat) (s:ByteArray) (B:Nat) (hs:s.size≤1000): ∀m,m≤20001→ ∀m',m'≤m→All r s B m'
 | 0,_,m',h=>by
  obtain rfl:m'=0:=by omega
  exact⟨fun Z W k v out lv _ _ h1 h5 hk=>by omega,fun Z W k v out _ _ hk=>by omega,fun Z W k v out fn _ _ _ _ hk=>by omega,fun Z W k v out _ _ hk=>by omega⟩
 | m+1,hm,m',h=>by
  have ih:=Qka r s B hs m (by omega);by_cases hq:m'≤m
  ·exact ih m' hq
  obtain rfl:m'=m+1:=by omega
  have im:=ih m (Nat.le_refl _);refine⟨fun Z=> ?_,fun Z=>Qme (by omega) (im.row Z) (im.call Z) hs,fun Z=>Qiq (by omega) im.arg hs,fun Z=>Qn1 rpc (by omega) (im.row Z) hs⟩;intro W k v out lv h hg h1 h5 hk;by_cases h5':lv=5
  ·subst h5';exact Qg1 (by omega) (im.one Z) W k v out h hg (by omega) hs
  ·exact Qli (by omega) (fun m' hm'=>(ih m' hm').row Z) W k v out lv h hg h1 (by omega) hk hs
theorem Qlj (r:Nat) (s:ByteArray) (B:Nat) (hs:s.size≤1000) (Z:Nat→Prop):DC Z r s B 20000:=(Qka r s B hs 20000 (by omega) 20000 (Nat.le_refl _)).row Z
theorem EA {k n:Int} {s:ByteArray} (h:okV k n s=true):s.size≤200:=by
 have he: ∀b:Bool,(b&&emp s)=true→s.size≤200:=fun b hb=>by
  rw [Ja (Bool.and_eq_true_iff.1 hb).2];exact Nat.zero_le _
 unfold okV at h;repeat' split at h
 ·exact he _ h
 ·exact he _ h
 ·have h1:=(Bool.and_eq_true_iff.1 h).2;unfold QI at h1;exact of_decide_eq_true (Bool.and_eq_true_iff.1 h1).1
 ·exact he _ h
 ·exact he _ h
 ·cases h
theorem Hh {k n:Int} {s:ByteArray} (h:zV k n s=true):s.size≤200:=by
 unfold zV at h;rw [Ja (Bool.and_eq_true_iff.1 h).2];exact Nat.zero_le _
theorem Qis {o:Int} {n:Nat} (h:Kn o n=true):n≤10:=by
 unfold Kn at h;repeat' split at h
 ·have:=of_decide_eq_true h;omega
 ·have:=of_decide_eq_true h;omega
 ·have:=of_decide_eq_true h;omega
 ·cases h
theorem YS {x:FN} (h:QP x=true):x.cs.size≤200∧x.kids.length≤10:=by
 unfold QP QJ at h;split at h
 ·simp only [Bool.and_eq_true,decide_eq_true_eq]at h;obtain⟨⟨⟨⟨h1,h2⟩,h3⟩,h4⟩,h5⟩:=h;unfold cOk at h1;simp only [Bool.and_eq_true]at h1;exact⟨EA h1.1.1,by omega⟩
 split at h
 ·simp only [Bool.and_eq_true,decide_eq_true_eq]at h;obtain⟨⟨⟨⟨h1,h2⟩,h3⟩,h4⟩,h5⟩:=h;exact⟨Hh h3,by omega⟩
 split at h
 ·simp only [Bool.and_eq_true,decide_eq_true_eq]at h;obtain⟨⟨⟨h1,h2⟩,h3⟩,h4⟩:=h;exact⟨Hh h3,by omega⟩
 split at h
 ·simp only [Bool.and_eq_true,decide_eq_true_eq]at h;obtain⟨⟨h1,h2⟩,⟨h3,h4⟩,h5⟩:=h;exact⟨Hh h3,by omega⟩
 split at h
 ·simp only [Bool.and_eq_true,decide_eq_true_eq]at h;obtain⟨⟨h1,h2⟩,⟨h3,h4⟩,h5⟩:=h;exact⟨Hh h3,by omega⟩
 split at h
 ·simp only [Bool.and_eq_true]at h;obtain⟨h1,⟨h3,h4⟩,h5⟩:=h;exact⟨Hh h3,Qis h1⟩
 ·cases h
theorem JR {out:List FN} (h:Zq out=true) (i:Nat) (hi:i<out.length):QP (ouF out i)=true:=by
 unfold Zq at h;have h2:=(Bool.and_eq_true_iff.1 h).2;rw [List.all_eq_true]at h2;unfold ouF;rw [List.getD_eq_getElem?_getD,List.getElem?_eq_getElem hi,Option.getD_some];exact h2 _ (List.getElem_mem hi)
def rdE (y:Option (Int × List UInt8 × List FN)):Option (List FN):=match y with
 | some y=>if y.2.1= []∧Zq y.2.2=true∧Zc (ouF y.2.2) y.2.2.length=true then some y.2.2 else none
 | none=>none
def rdF (s:ByteArray):Option (List FN):=if QI s then rdE (PB RF 1 1 0 [] s.data.toList [])else none
theorem Qb3 {s:ByteArray} (h:QI s=false):rdF s=none:=by
 unfold rdF;rw [h,if_neg (by simp)]
theorem Bt (s:ByteArray):rest s 0=s.data.toList:=List.drop_zero
theorem Qlv {s:ByteArray} (h:QI s=true):rdF s=rdE (PB RF 1 1 0 [] (rest s 0) []):=by
 unfold rdF;rw [h,if_pos rfl,Bt]
theorem Ep {x:Int} {l:List UInt8} {o:List FN} (h1:l= []) (h2:Zq o=true) (h3:Zc (ouF o) o.length=true):rdE (some (x,l,o))=some o:=by
 unfold rdE;exact if_pos ⟨h1,h2,h3⟩
theorem KM {x:Int} {l:List UInt8} {o:List FN} (h: ¬(l= []∧Zc (ouF o) o.length=true)):rdE (some (x,l,o))=none:=by
 unfold rdE;exact if_neg (fun e=>h ⟨e.1,e.2.2⟩)
theorem Qlt {res:Option (Int × List UInt8 × List FN)} (h:Ob res):rdE res=none:=by
 cases res with
 | none=>rfl
 | some y=>
  unfold rdE;simp only;rw [if_neg];rintro⟨_,h2,_⟩;rw [h y rfl]at h2;cases h2
theorem Qg5 {w:World} {s:ByteArray}:RdS (fun _=>False) (w.alloc (.cells #[.string s,.int .i64 0,.bool false,.slice none 0 0] 150)) w.heap.size s 0 false (.slice none 0 0) (w.heap.size+1) []:=
 ⟨⟨Nat.zero_le _,⟨by simp,by simp,by simp,by simp⟩,by simp,by simp,by simp⟩,Nat.lt_succ_self _,by simp,fun b hb=>hb.elim,[],⟨rfl,Or.inl ⟨rfl,rfl⟩⟩,fun i hi=>absurd hi (Nat.not_lt_zero _),fun i hi=>absurd hi (Nat.not_lt_zero _)⟩
theorem Mr {w w2:World} {o:Obj} (h:Fr w.heap.size (.slice none 0 0) (w.alloc o) w2):Below w.heap.size w w2:=by
 obtain⟨a1,a2,a3,a4,a5⟩:=h;refine⟨a1,a2,a3,?_,fun q hq=> ?_⟩
 ·simp at a4;omega
 ·rw [a5 q (by simp;omega) (by omega) (fun e=>by cases e)];exact heap_alloc_old w o hq
def Qqz (s:ByteArray) (w:World) (e:Ending) (w':World):Prop:=
 Below w.heap.size w w'∧((rdF s=none∧e= .returned (.tuple #[.slice none 0 0,.bool false]))∨ ∃out v ys,rdF s=some out∧e= .returned (.tuple #[v,.bool true])∧w'.ownsRow (w.heap.size+1) 143 14 v out.length ys∧FnPart w' (w.heap.size+1) ys (ouF out) out.length)
theorem Xx (s:ByteArray) (w:World) (hs:s.size≤maxLen):Calls Tryz.prog 97 #[.string s] w (Qqz s w):=by
 go_enter Tryz.func97,Tryz.ntmps97;go_wp2_with fail
 refine(Zj s _ hs).mono ?_;rintro _ w0 ⟨rfl,hw0⟩;obtain rfl:=hw0.symm;clear hw0;cases hr:QI s
 ·have HN:Hid (rdF s=none):=Qb3 hr;go_wp2_with fail
  refine bodyPost_ret (v:= .tuple #[.slice none 0 0,.bool false]) ?_ rfl ⟨Below.refl _ _,Or.inl ⟨HN.out,rfl⟩⟩;simp (maxDischargeDepth:=9) [results,Tryz.results97,go_sem, *]
 ·have hsz:s.size≤200:=by unfold QI at hr;exact of_decide_eq_true (Bool.and_eq_true_iff.1 hr).1
  have HRD:Hid (rdF s=rdE (PB RF 1 1 0 [] (rest s 0) [])):=Qlv hr;have HS:Hid (RdS (fun _=>False) (w.alloc (.cells #[.string s,.int .i64 0,.bool false,.slice none 0 0] 150)) w.heap.size s 0 false (.slice none 0 0) (w.heap.size+1) []):=Qg5;have HL0:Hid (QL s 0≤1000):=(Ys s 0 (by omega)).1;clear hr hs;go_wp2_with fail
  refine(Qlj w.heap.size s (w.heap.size+1) (by omega) (fun _=>False) _ 0 _ [] 1 HS.out rfl (by omega) (by omega) (by have:=HL0.out;omega)).mono ?_;rintro _ w1 ⟨x,k1,bad1,v1,out1,rfl,hst,hag,hlen⟩;have HST:Hid (St (fun _=>False) (w.alloc (.cells #[.string s,.int .i64 0,.bool false,.slice none 0 0] 150)) (.slice none 0 0) w.heap.size s (w.heap.size+1) w1 k1 bad1 v1 out1):=hst;have HAG:Hid (Yk (PB RF 1 1 0 [] (rest s 0) []) bad1 x (rest s k1) out1):=hag;clear hst hag hlen HS;go_wp2_with fail
  refine(Vg w.heap.size s k1 bad1 v1 w1 HST.out.st.rs (by omega)).mono ?_;rintro _ w2 ⟨x2,j,rfl,hrj,hre,hgb⟩;have HST2:Hid (St (fun _=>False) (w.alloc (.cells #[.string s,.int .i64 0,.bool false,.slice none 0 0] 150)) (.slice none 0 0) w.heap.size s (w.heap.size+1) w2 j bad1 v1 out1):=HST.out.gb hrj hgb;have HRE:Hid (rest s j=sb (rest s k1)):=hre;have HBL:Hid (Below w.heap.size w w2):=Mr HST2.out.fr;obtain⟨hj,⟨c0,c1,c2,c3⟩,f1,f2,f3⟩:=hrj;clear hre hgb HST
  cases bad1
  rotate_left
  ·have HN:Hid (rdF s=none):=by show _=_;rw [HRD.out];exact Qlt (HAG.out.2 rfl)
   go_wp2_with fail
   refine bodyPost_ret (v:= .tuple #[.slice none 0 0,.bool false]) ?_ rfl ⟨HBL.out,Or.inl ⟨HN.out,rfl⟩⟩;simp (maxDischargeDepth:=9) [results,Tryz.results97,go_sem, *]
  ·obtain⟨e1,e2⟩:=HAG.out.1 rfl;have HPB:Hid (rdF s=rdE (some (x,rest s j,out1))):=by show _=_;rw [HRD.out,e1,HRE.out]
   have HGD:Hid (Zq out1=true):=e2;clear e1 e2 HAG;by_cases hlt:j<s.size
   ·have q1:(j:Int)<(s.size:Int):=by omega
    have HN:Hid (rdF s=none):=by
     show _=_;rw [HPB.out];exact KM (fun h=>by have h1:=h.1;rw [Za s j hlt]at h1;cases h1)
    go_wp2_with fail
    refine bodyPost_ret (v:= .tuple #[.slice none 0 0,.bool false]) ?_ rfl ⟨HBL.out,Or.inl ⟨HN.out,rfl⟩⟩;simp (maxDischargeDepth:=9) [results,Tryz.results97,go_sem, *]
   ·have q1: ¬(j:Int)<(s.size:Int):=by omega
    have HRJ:Hid (rest s j= []):=YX s j (by omega);obtain⟨ys,ho,hp,_⟩:=HST2.out.st.own;obtain⟨A,cap,rfl,hfr⟩:=YM ho hp (fun i hi=>Nat.le_trans (YS (JR HGD.out i hi)).1 (by unfold maxLen;omega));have HO:Hid (w2.ownsRow (w.heap.size+1) 143 14 (.slice A out1.length cap) out1.length ys):=ho;have HP:Hid (FnPart w2 (w.heap.size+1) ys (ouF out1) out1.length):=hp;have HFR:Hid (FnRow w2 A out1.length (ouF out1)):=hfr;have hrl:w.heap.size<w2.heap.size:=HST2.out.st.rs.lt
    clear ho hp hfr;go_wp2_with fail
    refine(ZH w2 HFR.out (by have:=ZQ HGD.out;omega) (fun i hi=>Nat.le_trans (YS (JR HGD.out i hi)).2 (by omega))).mono ?_;rintro _ w3 ⟨rfl,hb3⟩;have HB3:Hid (Below w2.heap.size w2 w3):=hb3;have HBW:Hid (Below w.heap.size w w3):=HBL.out.trans (hb3.mono (Nat.le_of_lt hrl));have c3:=(hb3.cell (p:=⟨w.heap.size,3,none⟩) hrl).trans c3;clear hb3 c0 c1 c2;cases hf:Zc (ouF out1) out1.length
    ·have HN:Hid (rdF s=none):=by
      show _=_;rw [HPB.out];exact KM (fun h=>by have h3:=h.2;rw [hf]at h3;cases h3)
     go_wp2_with fail
     refine bodyPost_ret (v:= .tuple #[.slice none 0 0,.bool false]) ?_ rfl ⟨HBW.out,Or.inl ⟨HN.out,rfl⟩⟩;simp (maxDischargeDepth:=9) [results,Tryz.results97,go_sem, *]
    ·have HY:Hid (rdF s=some out1):=by
      show _=_;rw [HPB.out];exact Ep HRJ.out HGD.out hf
     go_wp2_with fail
     refine bodyPost_ret (v:= .tuple #[.slice A out1.length cap,.bool true]) ?_ rfl ⟨HBW.out,Or.inr ⟨out1,_,ys,HY.out,rfl,Qi HO.out HB3.out,HP.out.below HB3.out⟩⟩;simp (maxDischargeDepth:=9) [results,Tryz.results97,go_sem, *]
end Go.Proofs.YtejbnnacghbhoaaGreatDoor
