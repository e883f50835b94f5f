import Derived.Test.YtomadadmakdkgaaGreatDoorGao
import Derived.Test.YtomadadmakdkgaaGreatDoorPlaceJK
import Derived.Test.YtomadadmakdkgaaGreatDoorGaf
open Go.Proofs.Tryz
open Go.Value renaming slice → a, bool → f, tuple → g, string → C, int → F
open Go renaming bodyPost_ret → d, results → u
open Nat renaming zero_le → z, not_lt_zero → E
open Or renaming inl → D
open Go.IntKind renaming i64 → G
open Go.Obj renaming cells → H
open Go.Ending renaming returned → I
set_option linter.unusedSimpArgs false
set_option linter.unusedVariables false
set_option maxHeartbeats 8000000
set_option maxRecDepth 100000
namespace Go.Proofs.YtomadadmakdkgaaGreatDoor
open Go.RowKit
variable {s:ByteArray}
theorem rpc:RPC:=fun l w h=>Gi (bs l) w (by rw[QD];exact h)
theorem Qqx{Z:Nat->Prop}{r:Nat}{B m:Nat}(hm:m<=20000)(hR:Qaw Z r s B m)(hC:Qe8 Z r s B m)(hs:s.size<=1000):Qta Z r s B (m+1):=by
 intro W k v out h hg hk;cases hq:sb (rest s k)with
 | nil=>exact NN hm rpc hC hs W k v out h hg hk (by rw[hq];exact⟨by simp,by simp,by simp,by simp⟩)
 | cons c t=>
  by_cases h1:c=45
  ·exact Qit hm hR hs W k v out t h hg hk (by rw[hq,h1])
  by_cases h2:c=40
  ·exact Qis hm hR hs W k v out t h hg hk (by rw[hq,h2])
  by_cases h3:c=34
  ·exact Qir hm hs W k v out t h hg hk (by rw[hq,h3])
  by_cases h4:c=35
  ·exact Qiu hm hs W k v out t h hg hk (by rw[hq,h4])
  exact NN hm rpc hC hs W k v out h hg hk (by rw[hq];exact⟨by simpa using h1,by simpa using h2,by simpa using h3,by simpa using h4⟩)
structure All (r:Nat) (s:ByteArray) (B m:Nat):Prop where
 row: ∀Z,Qaw Z r s B m
 one: ∀Z,Qta Z r s B m
 call: ∀Z,Qe8 Z r s B m
 arg: ∀Z,Qte Z r s B m
theorem Qom(r:Nat)(s:ByteArray)(B:Nat)(hs:s.size<=1000): ∀m,m<=20001-> ∀m',m'<=m->All r s B m'
 | 0,_,m',h=>by
  obtain rfl:m'=0:=by omega
  exact⟨fun Z W k v out lv _ _ h1 h5 hk=>by omega,fun Z W k v out _ _ hk=>by omega,fun Z W k v out fn _ _ _ _ hk=>by omega,fun Z W k v out _ _ hk=>by omega⟩
 | m+1,hm,m',h=>by
  have ih:=Qom r s B hs m (by omega);by_cases hq:m'<=m
  ·exact ih m' hq
  obtain rfl:m'=m+1:=by omega
  have im:=ih m (Nat.le_refl _);refine⟨fun Z=> ?_,fun Z=>Qqx (by omega) (im.row Z) (im.call Z) hs,fun Z=>Qm3 (by omega) im.arg hs,fun Z=>Qsg rpc (by omega) (im.row Z) hs⟩;intro W k v out lv h hg h1 h5 hk;by_cases h0:lv=5
  ·subst h0;exact Qk2 (by omega) (im.one Z) W k v out h hg (by omega) hs
  ·exact Qp5 (by omega) (fun m' hm'=>(ih m' hm').row Z) W k v out lv h hg h1 (by omega) hk hs
theorem Qp6(r:Nat)(s:ByteArray)(B:Nat)(hs:s.size<=1000)(Z:Nat->Prop):Qaw Z r s B 20000:=(Qom r s B hs 20000 (by omega) 20000 (Nat.le_refl _)).row Z
theorem Qcr{k n:Int}(h:okV k n s=true):s.size<=200:=by
 have he: ∀b:Bool,(b&&emp s)=true->s.size<=200:=fun b hb=>by
  rw[Ju (Bool.and_eq_true_iff.1 hb).2];exact z _
 unfold okV at h;repeat' split at h
 ·exact he _ h
 ·exact he _ h
 ·have h1:=(Bool.and_eq_true_iff.1 h).2;unfold QJ at h1;exact of_decide_eq_true (Bool.and_eq_true_iff.1 h1).1
 ·exact he _ h
 ·exact he _ h
 ·cases h
theorem Uz{k n:Int}(h:zV k n s=true):s.size<=200:=by
 unfold zV at h;rw[Ju (Bool.and_eq_true_iff.1 h).2];exact z _
theorem Qm6{o:Int}{n:Nat}(h:GH o n=true):n<=10:=by
 unfold GH at h;repeat' split at h
 ·have:=of_decide_eq_true h;omega
 ·have:=of_decide_eq_true h;omega
 ·have:=of_decide_eq_true h;omega
 ·cases h
theorem XF{x:FN}(h:Qp x=true):x.cs.size<=200/\x.kids.length<=10:=by
 unfold Qp QI at h;split at h
 ·simp only[Bool.and_eq_true,decide_eq_true_eq]at h;obtain⟨⟨⟨⟨h1,h2⟩,h3⟩,h4⟩,h5⟩:=h;unfold cOk at h1;simp only[Bool.and_eq_true]at h1;exact⟨Qcr h1.1.1,by omega⟩
 split at h
 ·simp only[Bool.and_eq_true,decide_eq_true_eq]at h;obtain⟨⟨⟨⟨h1,h2⟩,h3⟩,h4⟩,h5⟩:=h;exact⟨Uz h3,by omega⟩
 split at h
 ·simp only[Bool.and_eq_true,decide_eq_true_eq]at h;obtain⟨⟨⟨h1,h2⟩,h3⟩,h4⟩:=h;exact⟨Uz h3,by omega⟩
 split at h
 ·simp only[Bool.and_eq_true,decide_eq_true_eq]at h;obtain⟨⟨h1,h2⟩,⟨h3,h4⟩,h5⟩:=h;exact⟨Uz h3,by omega⟩
 split at h
 ·simp only[Bool.and_eq_true,decide_eq_true_eq]at h;obtain⟨⟨h1,h2⟩,⟨h3,h4⟩,h5⟩:=h;exact⟨Uz h3,by omega⟩
 split at h
 ·simp only[Bool.and_eq_true]at h;obtain⟨h1,⟨h3,h4⟩,h5⟩:=h;exact⟨Uz h3,Qm6 h1⟩
 ·cases h
theorem Ku{out:List FN}(h:good out=true)(i:Nat)(hi:i<out.length):Qp (ouF out i)=true:=by
 unfold good at h;have h2:=(Bool.and_eq_true_iff.1 h).2;rw[List.all_eq_true]at h2;unfold ouF;rw[List.getD_eq_getElem?_getD,List.getElem?_eq_getElem hi,Option.getD_some];exact h2 _ (List.getElem_mem hi)
def rdE(y:Option (Int × List UInt8 × List FN)):Option (List FN):=match y with
 | some y=>if y.2.1= []/\good y.2.2=true/\Zb (ouF y.2.2) y.2.2.length=true then some y.2.2 else none
 | none=>none
def rdF(s:ByteArray):Option (List FN):=if QJ s then rdE (PB RF 1 1 0 [] s.data.toList [])else none
theorem Qfi(h:QJ s=false):rdF s=none:=by
 unfold rdF;rw[h,nG (by simp)]
theorem Qbx(s:ByteArray):rest s 0=s.data.toList:=List.drop_zero
theorem Qqh(h:QJ s=true):rdF s=rdE (PB RF 1 1 0 [] (rest s 0) []):=by
 unfold rdF;rw[h,pS rfl,Qbx]
theorem Ox{x:Int}{l:List UInt8}{o:List FN}(h1:l= [])(h2:good o=true)(h3:Zb (ouF o) o.length=true):rdE (some (x,l,o))=some o:=by
 unfold rdE;exact pS ⟨h1,h2,h3⟩
theorem Ug{x:Int}{l:List UInt8}{o:List FN}(h: ¬(l= []/\Zb (ouF o) o.length=true)):rdE (some (x,l,o))=none:=by
 unfold rdE;exact nG (fun e=>h ⟨e.1,e.2.2⟩)
theorem Qqf{res:Option (Int × List UInt8 × List FN)}(h:Ej res):rdE res=none:=by
 cases res with
 | none=>rfl
 | some y=>
  unfold rdE;simp only;rw[nG];rintro⟨_,h2,_⟩;rw[h y rfl]at h2;cases h2
theorem Qk5{w:World}:RdS (fun _=>False) (w.alloc (H #[C s,F G 0,f false,a none 0 0] 170)) w.heap.size s 0 false (a none 0 0) (w.heap.size+1) []:=
 ⟨⟨z _,⟨by simp,by simp,by simp,by simp⟩,by simp,by simp,by simp⟩,Nat.lt_succ_self _,by simp,fun b hb=>hb.elim,[],⟨rfl,D ⟨rfl,rfl⟩⟩,fun i hi=>absurd hi (E _),fun i hi=>absurd hi (E _)⟩
theorem OO{w w2:World}{o:Obj}(h:Fr w.heap.size (a none 0 0) (w.alloc o) w2):Below w.heap.size w w2:=by
 obtain⟨a1,a2,a3,a4,a5⟩:=h;refine⟨a1,a2,a3,?_,fun q hq=> ?_⟩
 ·simp at a4;omega
 ·rw[a5 q (by simp;omega) (by omega) (fun e=>by cases e)];exact heap_alloc_old w o hq
def Qvr(s:ByteArray)(w:World)(e:Ending)(w':World):Prop:=
 Below w.heap.size w w'/\((rdF s=none/\e= I (g #[a none 0 0,f false]))\/ ∃out v ys,rdF s=some out/\e= I (g #[v,f true])/\w'.ownsRow (w.heap.size+1) 177 14 v out.length ys/\FnPart w' (w.heap.size+1) ys (ouF out) out.length)
theorem Jv(s:ByteArray)(w:World)(hs:s.size<=maxLen):Calls prog 97 #[C s] w (Qvr s w):=by
 go_enter func97,ntmps97;go_wp2_with fail
 refine(Zy s _ hs).mono ?_;rintro _ w0 ⟨rfl,hw0⟩;obtain rfl:=hw0.symm;clear hw0;cases hr:QJ s
 ·have HN:Hid (rdF s=none):=Qfi hr;go_wp2_with fail
  refine d (v:= g #[a none 0 0,f false]) ?_ rfl ⟨Below.refl _ _,D ⟨HN.out,rfl⟩⟩;simp (maxDischargeDepth:=9) [u,results97,go_sem, *]
 ·have hsz:s.size<=200:=by unfold QJ at hr;exact of_decide_eq_true (Bool.and_eq_true_iff.1 hr).1
  have H1:Hid (rdF s=rdE (PB RF 1 1 0 [] (rest s 0) [])):=Qqh hr;have HS:Hid (RdS (fun _=>False) (w.alloc (H #[C s,F G 0,f false,a none 0 0] 170)) w.heap.size s 0 false (a none 0 0) (w.heap.size+1) []):=Qk5;have H7:Hid (QV s 0<=1000):=(YN s 0 (by omega)).1;clear hr hs;go_wp2_with fail
  refine(Qp6 w.heap.size s (w.heap.size+1) (by omega) (fun _=>False) _ 0 _ [] 1 HS.out rfl (by omega) (by omega) (by have:=H7.out;omega)).mono ?_;rintro _ w1 ⟨x,k1,bad1,v1,out1,rfl,hst,hag,hlen⟩;have h4:Hid (St (fun _=>False) (w.alloc (H #[C s,F G 0,f false,a none 0 0] 170)) (a none 0 0) w.heap.size s (w.heap.size+1) w1 k1 bad1 v1 out1):=hst;have h7:Hid (YC (PB RF 1 1 0 [] (rest s 0) []) bad1 x (rest s k1) out1):=hag;clear hst hag hlen HS;go_wp2_with fail
  refine(Ha w.heap.size s k1 bad1 v1 w1 h4.out.st.rs (by omega)).mono ?_;rintro _ w2 ⟨x2,j,rfl,hrj,hre,hgb⟩;have h0:Hid (St (fun _=>False) (w.alloc (H #[C s,F G 0,f false,a none 0 0] 170)) (a none 0 0) w.heap.size s (w.heap.size+1) w2 j bad1 v1 out1):=h4.out.gb hrj hgb;have H6:Hid (rest s j=sb (rest s k1)):=hre;have h6:Hid (Below w.heap.size w w2):=OO h0.out.fr;obtain⟨hj,⟨c0,c1,c2,c3⟩,f1,f2,f3⟩:=hrj;clear hre hgb h4
  cases bad1
  rotate_left
  ·have HN:Hid (rdF s=none):=by show _=_;rw[H1.out];exact Qqf (h7.out.2 rfl)
   go_wp2_with fail
   refine d (v:= g #[a none 0 0,f false]) ?_ rfl ⟨h6.out,D ⟨HN.out,rfl⟩⟩;simp (maxDischargeDepth:=9) [u,results97,go_sem, *]
  ·obtain⟨e1,e2⟩:=h7.out.1 rfl;have h5:Hid (rdF s=rdE (some (x,rest s j,out1))):=by show _=_;rw[H1.out,e1,H6.out]
   have h2:Hid (good out1=true):=e2;clear e1 e2 h7;by_cases H4:j<s.size
   ·have q1:(j:Int)<(s.size:Int):=by omega
    have HN:Hid (rdF s=none):=by
     show _=_;rw[h5.out];exact Ug (fun h=>by have h1:=h.1;rw[Zk s j H4]at h1;cases h1)
    go_wp2_with fail
    refine d (v:= g #[a none 0 0,f false]) ?_ rfl ⟨h6.out,D ⟨HN.out,rfl⟩⟩;simp (maxDischargeDepth:=9) [u,results97,go_sem, *]
   ·have q1: ¬(j:Int)<(s.size:Int):=by omega
    have H5:Hid (rest s j= []):=XK s j (by omega);obtain⟨ys,ho,hp,_⟩:=h0.out.st.own;obtain⟨A,H0,rfl,h9⟩:=YF ho hp (fun i hi=>Nat.le_trans (XF (Ku h2.out i hi)).1 (by unfold maxLen;omega));have HO:Hid (w2.ownsRow (w.heap.size+1) 177 14 (a A out1.length H0) out1.length ys):=ho;have HP:Hid (FnPart w2 (w.heap.size+1) ys (ouF out1) out1.length):=hp;have H8:Hid (FnRow w2 A out1.length (ouF out1)):=h9;have h8:w.heap.size<w2.heap.size:=h0.out.st.rs.lt
    clear ho hp h9;go_wp2_with fail
    refine(YR w2 H8.out (by have:=Yn h2.out;omega) (fun i hi=>Nat.le_trans (XF (Ku h2.out i hi)).2 (by omega))).mono ?_;rintro _ w3 ⟨rfl,hb3⟩;have H3:Hid (Below w2.heap.size w2 w3):=hb3;have H2:Hid (Below w.heap.size w w3):=h6.out.trans (hb3.mono (Nat.le_of_lt h8));have c3:=(hb3.cell (p:=⟨w.heap.size,3,none⟩) h8).trans c3;clear hb3 c0 c1 c2;cases hf:Zb (ouF out1) out1.length
    ·have HN:Hid (rdF s=none):=by
      show _=_;rw[h5.out];exact Ug (fun h=>by have h3:=h.2;rw[hf]at h3;cases h3)
     go_wp2_with fail
     refine d (v:= g #[a none 0 0,f false]) ?_ rfl ⟨H2.out,D ⟨HN.out,rfl⟩⟩;simp (maxDischargeDepth:=9) [u,results97,go_sem, *]
    ·have HY:Hid (rdF s=some out1):=by
      show _=_;rw[h5.out];exact Ox H5.out h2.out hf
     go_wp2_with fail
     refine d (v:= g #[a A out1.length H0,f true]) ?_ rfl ⟨H2.out,Or.inr ⟨out1,_,ys,HY.out,rfl,Qd HO.out H3.out,HP.out.below H3.out⟩⟩;simp (maxDischargeDepth:=9) [u,results97,go_sem, *]
end Go.Proofs.YtomadadmakdkgaaGreatDoor
