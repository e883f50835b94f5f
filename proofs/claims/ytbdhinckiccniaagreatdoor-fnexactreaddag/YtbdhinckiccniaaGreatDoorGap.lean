import Derived.Test.YtbdhinckiccniaaGreatDoorGao
import Derived.Test.YtbdhinckiccniaaGreatDoorPlaceJK
import Derived.Test.YtbdhinckiccniaaGreatDoorGaf
set_option linter.unusedSimpArgs false
set_option linter.unusedVariables false
set_option maxHeartbeats 8000000
set_option maxRecDepth 100000
namespace Go.Proofs.YtbdhinckiccniaaGreatDoor
open Go.RowKit
theorem rpc:RPC:=fun l w h=>YZ (bs l) w (by rw [Qt];exact h)
theorem Qpp {Z:Nat→Prop} {r:Nat} {s:ByteArray} {B m:Nat} (hm:m≤20000) (hR:EG Z r s B m) (hC:Qek Z r s B m) (hs:s.size≤1000):Qrw Z r s B (m+1):=by
 intro W k v out h hg hk;cases hq:sb (rest s k)with
 | nil=>exact Mv hm rpc hC hs W k v out h hg hk (by rw [hq];exact⟨by simp,by simp,by simp,by simp⟩)
 | cons c t=>
  by_cases h1:c=45
  ·exact Qh0 hm hR hs W k v out t h hg hk (by rw [hq,h1])
  by_cases h2:c=40
  ·exact Qhz hm hR hs W k v out t h hg hk (by rw [hq,h2])
  by_cases h3:c=34
  ·exact Qhy hm hs W k v out t h hg hk (by rw [hq,h3])
  by_cases h4:c=35
  ·exact Qh1 hm hs W k v out t h hg hk (by rw [hq,h4])
  exact Mv hm rpc hC hs W k v out h hg hk (by rw [hq];exact⟨by simpa using h1,by simpa using h2,by simpa using h3,by simpa using h4⟩)
structure All (r:Nat) (s:ByteArray) (B m:Nat):Prop where
 row: ∀Z,EG Z r s B m
 one: ∀Z,Qrw Z r s B m
 call: ∀Z,Qek Z r s B m
 arg: ∀Z,Qr0 Z r s B m
theorem Qnk (r:Nat) (s:ByteArray) (B:Nat) (hs:s.size≤1000): ∀m,m≤20001→ ∀m',m'≤m→All r s B m'
 | 0,_,m',h=>by
  obtain rfl:m'=0:=by omega
  exact⟨fun Z W k v out lv _ _ h1 h5 hk=>by omega,fun Z W k v out _ _ hk=>by omega,fun Z W k v out fn _ _ _ _ hk=>by omega,fun Z W k v out _ _ hk=>by omega⟩
 | m+1,hm,m',h=>by
  have ih:=Qnk r s B hs m (by omega);by_cases hq:m'≤m
  ·exact ih m' hq
  obtain rfl:m'=m+1:=by omega
  have im:=ih m (Nat.le_refl _);refine⟨fun Z=> ?_,fun Z=>Qpp (by omega) (im.row Z) (im.call Z) hs,fun Z=>Ql1 (by omega) im.arg hs,fun Z=>Qq9 rpc (by omega) (im.row Z) hs⟩;intro W k v out lv h hg h1 h5 hk;by_cases h5':lv=5
  ·subst h5';exact Qj1 (by omega) (im.one Z) W k v out h hg (by omega) hs
  ·exact Qou (by omega) (fun m' hm'=>(ih m' hm').row Z) W k v out lv h hg h1 (by omega) hk hs
theorem Qov (r:Nat) (s:ByteArray) (B:Nat) (hs:s.size≤1000) (Z:Nat→Prop):EG Z r s B 20000:=(Qnk r s B hs 20000 (by omega) 20000 (Nat.le_refl _)).row Z
theorem Qb1 {k n:Int} {s:ByteArray} (h:okV k n s=true):s.size≤200:=by
 have he: ∀b:Bool,(b&&emp s)=true→s.size≤200:=fun b hb=>by
  rw [Jf (Bool.and_eq_true_iff.1 hb).2];exact Nat.zero_le _
 unfold okV at h;repeat' split at h
 ·exact he _ h
 ·exact he _ h
 ·have h1:=(Bool.and_eq_true_iff.1 h).2;unfold QE at h1;exact of_decide_eq_true (Bool.and_eq_true_iff.1 h1).1
 ·exact he _ h
 ·exact he _ h
 ·cases h
theorem Hx {k n:Int} {s:ByteArray} (h:zV k n s=true):s.size≤200:=by
 unfold zV at h;rw [Jf (Bool.and_eq_true_iff.1 h).2];exact Nat.zero_le _
theorem Ql3 {o:Int} {n:Nat} (h:Ky o n=true):n≤10:=by
 unfold Ky at h;repeat' split at h
 ·have:=of_decide_eq_true h;omega
 ·have:=of_decide_eq_true h;omega
 ·have:=of_decide_eq_true h;omega
 ·cases h
theorem Xx {x:FN} (h:QN x=true):x.cs.size≤200∧x.kids.length≤10:=by
 unfold QN QG at h;split at h
 ·simp only [Bool.and_eq_true,decide_eq_true_eq]at h;obtain⟨⟨⟨⟨h1,h2⟩,h3⟩,h4⟩,h5⟩:=h;unfold cOk at h1;simp only [Bool.and_eq_true]at h1;exact⟨Qb1 h1.1.1,by omega⟩
 split at h
 ·simp only [Bool.and_eq_true,decide_eq_true_eq]at h;obtain⟨⟨⟨⟨h1,h2⟩,h3⟩,h4⟩,h5⟩:=h;exact⟨Hx h3,by omega⟩
 split at h
 ·simp only [Bool.and_eq_true,decide_eq_true_eq]at h;obtain⟨⟨⟨h1,h2⟩,h3⟩,h4⟩:=h;exact⟨Hx h3,by omega⟩
 split at h
 ·simp only [Bool.and_eq_true,decide_eq_true_eq]at h;obtain⟨⟨h1,h2⟩,⟨h3,h4⟩,h5⟩:=h;exact⟨Hx h3,by omega⟩
 split at h
 ·simp only [Bool.and_eq_true,decide_eq_true_eq]at h;obtain⟨⟨h1,h2⟩,⟨h3,h4⟩,h5⟩:=h;exact⟨Hx h3,by omega⟩
 split at h
 ·simp only [Bool.and_eq_true]at h;obtain⟨h1,⟨h3,h4⟩,h5⟩:=h;exact⟨Hx h3,Ql3 h1⟩
 ·cases h
theorem Hl {out:List FN} (h:good out=true) (i:Nat) (hi:i<out.length):QN (ouF out i)=true:=by
 unfold good at h;have h2:=(Bool.and_eq_true_iff.1 h).2;rw [List.all_eq_true]at h2;unfold ouF;rw [List.getD_eq_getElem?_getD,List.getElem?_eq_getElem hi,Option.getD_some];exact h2 _ (List.getElem_mem hi)
def rdE (y:Option (Int × List UInt8 × List FN)):Option (List FN):=match y with
 | some y=>if y.2.1= []∧good y.2.2=true∧Zk (ouF y.2.2) y.2.2.length=true then some y.2.2 else none
 | none=>none
def rdF (s:ByteArray):Option (List FN):=if QE s then rdE (PB RF 1 1 0 [] s.data.toList [])else none
theorem Qeq {s:ByteArray} (h:QE s=false):rdF s=none:=by
 unfold rdF;rw [h,if_neg (by simp)]
theorem Qap (s:ByteArray):rest s 0=s.data.toList:=List.drop_zero
theorem Qo4 {s:ByteArray} (h:QE s=true):rdF s=rdE (PB RF 1 1 0 [] (rest s 0) []):=by
 unfold rdF;rw [h,if_pos rfl,Qap]
theorem Qbt {x:Int} {l:List UInt8} {o:List FN} (h1:l= []) (h2:good o=true) (h3:Zk (ouF o) o.length=true):rdE (some (x,l,o))=some o:=by
 unfold rdE;exact if_pos ⟨h1,h2,h3⟩
theorem Hk {x:Int} {l:List UInt8} {o:List FN} (h: ¬(l= []∧Zk (ouF o) o.length=true)):rdE (some (x,l,o))=none:=by
 unfold rdE;exact if_neg (fun e=>h ⟨e.1,e.2.2⟩)
theorem Qo3 {res:Option (Int × List UInt8 × List FN)} (h:Bb res):rdE res=none:=by
 cases res with
 | none=>rfl
 | some y=>
  unfold rdE;simp only;rw [if_neg];rintro⟨_,h2,_⟩;rw [h y rfl]at h2;cases h2
theorem Qj6 {w:World} {s:ByteArray}:RdS (fun _=>False) (w.alloc (.cells #[.string s,.int .i64 0,.bool false,.slice none 0 0] 196)) w.heap.size s 0 false (.slice none 0 0) (w.heap.size+1) []:=
 ⟨⟨Nat.zero_le _,⟨by simp,by simp,by simp,by simp⟩,by simp,by simp,by simp⟩,Nat.lt_succ_self _,by simp,fun b hb=>hb.elim,[],⟨rfl,Or.inl ⟨rfl,rfl⟩⟩,fun i hi=>absurd hi (Nat.not_lt_zero _),fun i hi=>absurd hi (Nat.not_lt_zero _)⟩
theorem Nm {w w2:World} {o:Obj} (h:Fr w.heap.size (.slice none 0 0) (w.alloc o) w2):Below w.heap.size w w2:=by
 obtain⟨a1,a2,a3,a4,a5⟩:=h;refine⟨a1,a2,a3,?_,fun q hq=> ?_⟩
 ·simp at a4;omega
 ·rw [a5 q (by simp;omega) (by omega) (fun e=>by cases e)];exact heap_alloc_old w o hq
def Qt2 (s:ByteArray) (w:World) (e:Ending) (w':World):Prop:=
 Below w.heap.size w w'∧((rdF s=none∧e= .returned (.tuple #[.slice none 0 0,.bool false]))∨ ∃out v ys,rdF s=some out∧e= .returned (.tuple #[v,.bool true])∧w'.ownsRow (w.heap.size+1) 201 14 v out.length ys∧FnPart w' (w.heap.size+1) ys (ouF out) out.length)
theorem Hz (s:ByteArray) (w:World) (hs:s.size≤maxLen):Calls Tryz.prog 116 #[.string s] w (Qt2 s w):=by
 go_enter Tryz.func116,Tryz.ntmps116;go_wp2_with fail
 refine(Zd s _ hs).mono ?_;rintro _ w0 ⟨rfl,hw0⟩;obtain rfl:=hw0.symm;clear hw0;cases hr:QE s
 ·have HN:Hid (rdF s=none):=Qeq hr;go_wp2_with fail
  refine bodyPost_ret (v:= .tuple #[.slice none 0 0,.bool false]) ?_ rfl ⟨Below.refl _ _,Or.inl ⟨HN.out,rfl⟩⟩;simp (maxDischargeDepth:=9) [results,Tryz.results116,go_sem, *]
 ·have hsz:s.size≤200:=by unfold QE at hr;exact of_decide_eq_true (Bool.and_eq_true_iff.1 hr).1
  have HRD:Hid (rdF s=rdE (PB RF 1 1 0 [] (rest s 0) [])):=Qo4 hr;have HS:Hid (RdS (fun _=>False) (w.alloc (.cells #[.string s,.int .i64 0,.bool false,.slice none 0 0] 196)) w.heap.size s 0 false (.slice none 0 0) (w.heap.size+1) []):=Qj6;have HL0:Hid (QJ s 0≤1000):=(Yj s 0 (by omega)).1;clear hr hs;go_wp2_with fail
  refine(Qov w.heap.size s (w.heap.size+1) (by omega) (fun _=>False) _ 0 _ [] 1 HS.out rfl (by omega) (by omega) (by have:=HL0.out;omega)).mono ?_;rintro _ w1 ⟨x,k1,bad1,v1,out1,rfl,hst,hag,hlen⟩;have HST:Hid (St (fun _=>False) (w.alloc (.cells #[.string s,.int .i64 0,.bool false,.slice none 0 0] 196)) (.slice none 0 0) w.heap.size s (w.heap.size+1) w1 k1 bad1 v1 out1):=hst;have HAG:Hid (ZR (PB RF 1 1 0 [] (rest s 0) []) bad1 x (rest s k1) out1):=hag;clear hst hag hlen HS;go_wp2_with fail
  refine(Vp w.heap.size s k1 bad1 v1 w1 HST.out.st.rs (by omega)).mono ?_;rintro _ w2 ⟨x2,j,rfl,hrj,hre,hgb⟩;have HST2:Hid (St (fun _=>False) (w.alloc (.cells #[.string s,.int .i64 0,.bool false,.slice none 0 0] 196)) (.slice none 0 0) w.heap.size s (w.heap.size+1) w2 j bad1 v1 out1):=HST.out.gb hrj hgb;have HRE:Hid (rest s j=sb (rest s k1)):=hre;have HBL:Hid (Below w.heap.size w w2):=Nm HST2.out.fr;obtain⟨hj,⟨c0,c1,c2,c3⟩,f1,f2,f3⟩:=hrj;clear hre hgb HST
  cases bad1
  rotate_left
  ·have HN:Hid (rdF s=none):=by show _=_;rw [HRD.out];exact Qo3 (HAG.out.2 rfl)
   go_wp2_with fail
   refine bodyPost_ret (v:= .tuple #[.slice none 0 0,.bool false]) ?_ rfl ⟨HBL.out,Or.inl ⟨HN.out,rfl⟩⟩;simp (maxDischargeDepth:=9) [results,Tryz.results116,go_sem, *]
  ·obtain⟨e1,e2⟩:=HAG.out.1 rfl;have HPB:Hid (rdF s=rdE (some (x,rest s j,out1))):=by show _=_;rw [HRD.out,e1,HRE.out]
   have HGD:Hid (good out1=true):=e2;clear e1 e2 HAG;by_cases hlt:j<s.size
   ·have q1:(j:Int)<(s.size:Int):=by omega
    have HN:Hid (rdF s=none):=by
     show _=_;rw [HPB.out];exact Hk (fun h=>by have h1:=h.1;rw [QU s j hlt]at h1;cases h1)
    go_wp2_with fail
    refine bodyPost_ret (v:= .tuple #[.slice none 0 0,.bool false]) ?_ rfl ⟨HBL.out,Or.inl ⟨HN.out,rfl⟩⟩;simp (maxDischargeDepth:=9) [results,Tryz.results116,go_sem, *]
   ·have q1: ¬(j:Int)<(s.size:Int):=by omega
    have HRJ:Hid (rest s j= []):=YS s j (by omega);obtain⟨ys,ho,hp,_⟩:=HST2.out.st.own;obtain⟨A,cap,rfl,hfr⟩:=Ju ho hp (fun i hi=>Nat.le_trans (Xx (Hl HGD.out i hi)).1 (by unfold maxLen;omega));have HO:Hid (w2.ownsRow (w.heap.size+1) 201 14 (.slice A out1.length cap) out1.length ys):=ho;have HP:Hid (FnPart w2 (w.heap.size+1) ys (ouF out1) out1.length):=hp;have HFR:Hid (FnRow w2 A out1.length (ouF out1)):=hfr;have hrl:w.heap.size<w2.heap.size:=HST2.out.st.rs.lt
    clear ho hp hfr;go_wp2_with fail
    refine(Xd w2 HFR.out (by have:=Yd HGD.out;omega) (fun i hi=>Nat.le_trans (Xx (Hl HGD.out i hi)).2 (by omega))).mono ?_;rintro _ w3 ⟨rfl,hb3⟩;have HB3:Hid (Below w2.heap.size w2 w3):=hb3;have HBW:Hid (Below w.heap.size w w3):=HBL.out.trans (hb3.mono (Nat.le_of_lt hrl));have c3:=(hb3.cell (p:=⟨w.heap.size,3,none⟩) hrl).trans c3;clear hb3 c0 c1 c2;cases hf:Zk (ouF out1) out1.length
    ·have HN:Hid (rdF s=none):=by
      show _=_;rw [HPB.out];exact Hk (fun h=>by have h3:=h.2;rw [hf]at h3;cases h3)
     go_wp2_with fail
     refine bodyPost_ret (v:= .tuple #[.slice none 0 0,.bool false]) ?_ rfl ⟨HBW.out,Or.inl ⟨HN.out,rfl⟩⟩;simp (maxDischargeDepth:=9) [results,Tryz.results116,go_sem, *]
    ·have HY:Hid (rdF s=some out1):=by
      show _=_;rw [HPB.out];exact Qbt HRJ.out HGD.out hf
     go_wp2_with fail
     refine bodyPost_ret (v:= .tuple #[.slice A out1.length cap,.bool true]) ?_ rfl ⟨HBW.out,Or.inr ⟨out1,_,ys,HY.out,rfl,Qf HO.out HB3.out,HP.out.below HB3.out⟩⟩;simp (maxDischargeDepth:=9) [results,Tryz.results116,go_sem, *]
end Go.Proofs.YtbdhinckiccniaaGreatDoor
