import Derived.Test.YtonhcgkagdpdlaaGreatDoorMn
import Derived.Test.YtonhcgkagdpdlaaGreatDoorGza
import Derived.Test.YtonhcgkagdpdlaaGreatDoorGze
import Derived.Test.YtonhcgkagdpdlaaGreatDoorGmd
import Derived.Test.YtonhcgkagdpdlaaGreatDoorGmc
import Derived.Test.YtonhcgkagdpdlaaGreatDoorGal
import Derived.Test.YtonhcgkagdpdlaaGreatDoorMvN
import Derived.Test.YtonhcgkagdpdlaaGreatDoorGme
import Derived.Test.YtonhcgkagdpdlaaGreatDoorGmf
import Derived.Test.YtonhcgkagdpdlaaGreatDoorSnA
set_option linter.unusedSimpArgs false
set_option linter.unusedVariables false
set_option maxHeartbeats 8000000
set_option maxRecDepth 100000
namespace Go.Proofs.YtonhcgkagdpdlaaGreatDoor
open Go.RowKit
theorem rd_nearN (r:Nat) (A:Option Addr) (len cap:Nat) (l h:Int) (W:World) (hr:Rd W r A len cap) (h0: -1000≤l) (h1:l≤h) (h2:h≤1000):Calls Tryz.prog 32 #[.pointer (some ⟨r,0,none⟩),.int .i64 l,.int .i64 h] W fun e w'=>
  ∃v,e= .returned (.int .i64 v)∧Rd w' r A len cap∧Upd r W w':=by
 have HH:Hid (Rd W r A len cap):=hr;clear hr;go_enter Tryz.func32,Tryz.ntmps32;go_wp2_with fail
 refine(rd_below r A len cap 8 _ HH.out (by omega) (by omega)).mono ?_;rintro e w1 ⟨v,rfl,v0,v1,hr,hu⟩;have HR:Hid (Rd w1 r A len cap):=hr;have HU:Hid (Upd r W w1):=hu;clear hr hu;by_cases c0:v=0
 ·subst c0;go_wp2_with fail
  go_ret;exact⟨_,rfl,HR.out,HU.out⟩
 by_cases c1:v=1
 ·subst c1;go_wp2_with fail
  go_ret;exact⟨_,rfl,HR.out,HU.out⟩
 have q0:(v==0)=false:=by simpa using c0
 have q1:(v==1)=false:=by simpa using c1
 have hnl: ¬h<l:=by omega
 go_wp2_with fail
 refine(rd_word r A len cap _ HR.out).mono ?_;rintro e w2 ⟨u,rfl,u0,u1,hr,hu⟩;have HR':Hid (Rd w2 r A len cap):=hr;have HU':Hid (Upd r w1 w2):=hu;clear hr hu u1;go_wp2_with fail
 all_goals
  go_ret;exact⟨_,rfl,HR'.out,HU.out.trans HU'.out⟩
theorem rd_offN (r:Nat) (A:Option Addr) (len cap:Nat) (l h:Int) (W:World) (hr:Rd W r A len cap) (h0: -1000≤l) (h1:l≤h) (h2:h≤1000):Calls Tryz.prog 15 #[.pointer (some ⟨r,0,none⟩),.int .i64 l,.int .i64 h] W fun e w'=>
  ∃v,e= .returned (.int .i64 v)∧Rd w' r A len cap∧Upd r W w':=by
 have HH:Hid (Rd W r A len cap):=hr;clear hr;go_enter Tryz.func15,Tryz.ntmps15;go_wp2_with fail
 refine(rd_once r A len cap 24 _ HH.out (by omega) (by omega)).mono ?_;rintro e w1 ⟨b,rfl,hr,hu⟩;have HR:Hid (Rd w1 r A len cap):=hr;have HU:Hid (Upd r W w1):=hu;have hne:=ne_of_lt' hr.lt;clear hr hu;cases b
 ·go_wp2_with fail
  refine(rd_nearN r A len cap _ _ _ HR.out h0 h1 h2).mono ?_;rintro e w2 ⟨u,rfl,hr,hu⟩;have HR':Hid (Rd w2 r A len cap):=hr;have HU':Hid (Upd r w1 w2):=hu;clear hr hu;go_wp2_with fail
  go_ret;exact⟨_,rfl,HR'.out,HU.out.trans HU'.out⟩
 ·go_wp2_with fail
  refine(rd_below r A len cap 4 _ (HR.out.below (by go_grown)) (by omega) (by omega)).mono ?_;rintro e w2 ⟨v,rfl,v0,v1,hr,hu⟩;have HR':Hid (Rd w2 r A len cap):=hr;have HU':Hid (Upd r W w2):=HU.out.trans ((Upd.of_below (Nat.le_of_lt HR.out.lt) (by go_grown)).trans hu);obtain⟨uc,uf,uz,ub⟩:=hu;clear hr ub;have hv:v=0∨v=1∨v=2∨v=3:=by omega
  rcases hv with rfl | rfl | rfl | rfl
  all_goals
   go_wp2_with fail
   go_ret;exact⟨_,rfl,HR'.out,HU'.out⟩
theorem draw_opened (H3:FtX 3 705) (A:Option Addr) (len cap:Nat) (w:World) (h:Cd w A len):Calls Tryz.prog 5 #[.slice A len cap] w fun e w'=>
  ∃(out:List FN) (B:Option Addr) (c:Nat) (d e':Int),e= .returned (.tuple #[.slice B out.length c,.int .i64 d,.int .i64 e'])∧FnRowZ w' B out.length (ouF out)∧out.length≤60∧(∀i,i<out.length→(ouF out i).kids.length≤1048576)∧Below w.heap.size w w':=by
 have HH:Hid (Cd w A len):=h;clear h;go_enter Tryz.func5,Tryz.ntmps5;go_wp2_with fail
 refine(spec_l1Open A len cap _).mono ?_;rintro e w1 ⟨rfl,rfl⟩;go_wp2_with fail
 refine(rd_formula H3 w.heap.size A len cap _ (HH.out.open (by go_grown) rfl) (fun hl x e=>by have:=HH.out.at hl x e;simp;omega)).mono ?_;rintro e w2 ⟨out,B,c,rfl,h1,h2,h3,hr,hu⟩;have HR2:Hid (Rd w2 w.heap.size A len cap):=hr;have HU2:Hid (Below w.heap.size w w2):=Below.trans (by go_grown) hu.2.2.2;have HF:Hid (∀W,Upd w.heap.size w2 W→FnRowZ W B out.length (ouF out)):=h1;have HK:Hid (∀i,i<out.length→(ouF out i).kids.length≤1048576):=h3;clear hu hr h1 h3
 go_wp2_with fail
 refine(rd_once w.heap.size A len cap 8 _ HR2.out (by omega) (by omega)).mono ?_;rintro e w3 ⟨b,rfl,hr,hu⟩;have HR3:Hid (Rd w3 w.heap.size A len cap):=hr;have HV3:Hid (Upd w.heap.size w2 w3):=hu;clear hr hu;cases b
 ·go_wp2_with fail
  refine(rd_below w.heap.size A len cap 5 _ HR3.out (by omega) (by omega)).mono ?_;rintro e w4 ⟨v,rfl,v0,v1,hr,hu⟩;have HR4:Hid (Rd w4 w.heap.size A len cap):=hr;have HV4:Hid (Upd w.heap.size w2 w4):=HV3.out.trans hu;clear hr hu;go_wp2_with fail
  refine(rd_below w.heap.size A len cap 3 _ HR4.out (by omega) (by omega)).mono ?_;rintro e w5 ⟨u,rfl,u0,u1,hr,hu⟩;have HV5:Hid (Upd w.heap.size w2 w5):=HV4.out.trans hu;clear hr hu;go_wp2_with fail
  refine bodyPost_ret (v:= .tuple #[.slice B out.length c,.int .i64 (1+v),.int .i64 (1+u)]) ?_ rfl ⟨out,B,c,_,_,rfl,HF.out _ HV5.out,h2,HK.out,HU2.out.trans HV5.out.2.2.2⟩;simp (maxDischargeDepth:=9) [results,Tryz.results5,go_sem, *]
 ·go_wp2_with fail
  refine(rd_offN w.heap.size A len cap 1 99 _ HR3.out (by omega) (by omega) (by omega)).mono ?_;rintro e w4 ⟨v,rfl,hr,hu⟩;have HR4:Hid (Rd w4 w.heap.size A len cap):=hr;have HV4:Hid (Upd w.heap.size w2 w4):=HV3.out.trans hu;clear hr hu;go_wp2_with fail
  refine(rd_offN w.heap.size A len cap 1 99 _ HR4.out (by omega) (by omega) (by omega)).mono ?_;rintro e w5 ⟨u,rfl,hr,hu⟩;have HV5:Hid (Upd w.heap.size w2 w5):=HV4.out.trans hu;clear hr hu;go_wp2_with fail
  refine bodyPost_ret (v:= .tuple #[.slice B out.length c,.int .i64 (v),.int .i64 (u)]) ?_ rfl ⟨out,B,c,_,_,rfl,HF.out _ HV5.out,h2,HK.out,HU2.out.trans HV5.out.2.2.2⟩;simp (maxDischargeDepth:=9) [results,Tryz.results5,go_sem, *]
theorem sh_not (f g:Ends) {x:FN} (h2: ¬x.k=2) (h3: ¬x.k=3):shFN f g x=x:=by
 unfold shFN;rw [if_neg h2,if_neg h3]
theorem kids_nil {x:FN} (h:nodeX x=true) (hk:x.k=2∨x.k=3):x.kids= []:=by
 unfold nodeX nodeB at h;rcases hk with hk | hk
 ·rw [if_neg (by omega),if_pos hk]at h;simp only [Bool.and_eq_true,decide_eq_true_eq]at h;exact List.length_eq_zero_iff.1 h.2
 ·rw [if_neg (by omega),if_neg (by omega),if_pos hk]at h;simp only [Bool.and_eq_true,decide_eq_true_eq]at h;exact List.length_eq_zero_iff.1 h.2
theorem sh_kids (f g:Ends) {x:FN} (h:nodeX x=true):(shFN f g x).kids=x.kids:=by
 by_cases h2:x.k=2
 ·have e:=kids_nil h (Or.inl h2);unfold shFN;rw [if_pos h2];split
  ·rfl
  ·rw [e];rfl
 by_cases h3:x.k=3
 ·have e:=kids_nil h (Or.inr h3);unfold shFN;rw [if_neg h2,if_pos h3];split
  ·rfl
  ·rw [e];rfl
 rw [sh_not f g h2 h3]
theorem lost_node:nodeX lostFN=true:=by
 have e:emp (⟨#[]⟩:ByteArray)=true:=by
  unfold emp;rw [ByteArray.toList_eq];rfl
 simp [nodeX,lostFN,nodeB,cOk,zP,okV,rFail,e]
theorem sh_node (f g:Ends) {x:FN} (h:nodeX x=true):nodeX (shFN f g x)=true:=by
 by_cases h2:x.k=2
 ·unfold shFN;rw [if_pos h2];split
  ·rename_i ha
   obtain⟨k,o,ck,cn,cs,ac,ar,af,ag,bc,br,bf,bg,kids⟩:=x;obtain rfl:k=2:=h2;exact(cell_moved _ _ h).trans (area_refs ha).1
  ·exact lost_node
 by_cases h3:x.k=3
 ·unfold shFN;rw [if_neg h2,if_pos h3];split
  ·rename_i ha
   obtain⟨k,o,ck,cn,cs,ac,ar,af,ag,bc,br,bf,bg,kids⟩:=x;obtain rfl:k=3:=h3;exact(area_moved _ _ _ _ h).trans ha
  ·exact lost_node
 rw [sh_not f g h2 h3];exact h
theorem sh_k (f g:Ends) (x:FN):(shFN f g x).k=x.k∨((x.k=2∨x.k=3)∧shFN f g x=lostFN):=by
 by_cases h2:x.k=2
 ·unfold shFN;rw [if_pos h2];split
  ·exact Or.inl rfl
  ·exact Or.inr ⟨Or.inl h2,rfl⟩
 by_cases h3:x.k=3
 ·unfold shFN;rw [if_neg h2,if_pos h3];split
  ·exact Or.inl rfl
  ·exact Or.inr ⟨Or.inr h3,rfl⟩
 rw [sh_not f g h2 h3];exact Or.inl rfl
theorem lost_k:lostFN.k=1:=rfl
theorem sh_three {f g:Ends} {x:FN} (h:(shFN f g x).k=3):x.k=3:=by
 rcases sh_k f g x with e | ⟨_,e⟩
 ·rw [←e];exact h
 ·rw [e]at h;cases h
theorem sh_six {f g:Ends} {x:FN} (h:x.k=6):(shFN f g x).k=6:=by
 rcases sh_k f g x with e | ⟨e,_⟩
 ·rw [e];exact h
 ·omega
theorem sh_ok (f g:Ends) {F:Nat→FN} {n:Nat} (h:fOkB F n=true) (hD: ∀j,n≤j→F j=dFN):fOkB (fun i=>shFN f g (F i)) n=true:=by
 have hno:=fOk_nodes h
 have hk:(fun j=>((fun i=>shFN f g (F i)) j).kids)=fun j=>(F j).kids:=by
  funext j
  by_cases hj:j<n
  ·exact sh_kids f g (hno j hj)
  ·show(shFN f g (F j)).kids=(F j).kids;rw [hD j (by omega),sh_not f g (by decide) (by decide)]
 unfold fOkB at h ⊢;rw [hk];simp only [Bool.and_eq_true,decide_eq_true_eq,Bool.not_eq_true',decide_eq_false_iff_not]at h ⊢;obtain⟨⟨⟨⟨h1,h2⟩,h3⟩,h4,h5⟩,h6⟩:=h;refine⟨⟨⟨⟨h1,?_⟩,h3⟩,?_,fun e=>h5 (sh_three e)⟩,h6⟩
 ·exact List.all_eq_true.2 fun i hi=>sh_node f g (hno i (List.mem_range.1 hi))
 ·refine arsB_yes fun i hi k hk9 ⟨e3,e6⟩=> ?_;have hk9':k∈(F i).kids:=by rw [←congrFun hk i];exact hk9
  have e3':=sh_three e3;have e6': ¬(F i).k=6:=fun e=>e6 (sh_six e);rw [arsB_no hi hk9' e3' e6']at h4;cases h4
theorem ars_le (f g:Ends) (F:Nat→FN): ∀k,arsN (fun i=>shFN f g (F i)) k≤arsN F k
 | 0=>Nat.le_refl _
 | k+1=>by
  have ih:=ars_le f g F k;rw [arsN,arsN];rcases sh_k f g (F k)with e | ⟨_,e⟩
  ·simp only [e];omega
  ·simp only [e,lost_k];simp;omega
theorem ars_keep {f g:Ends} {F:Nat→FN}: ∀{n:Nat},arsN (fun i=>shFN f g (F i)) n=arsN F n→ ∀i,i<n→(F i).k=2∨(F i).k=3→(shFN f g (F i)).k=(F i).k
 | 0,_,i,hi,_=>absurd hi (Nat.not_lt_zero _)
 | n+1,h,i,hi,hk=>by
  have hl:=ars_le f g F n;rw [arsN,arsN]at h;by_cases e:i=n
  ·subst e;rcases sh_k f g (F i)with e | ⟨_,e⟩
   ·exact e
   ·exfalso
    simp only [e,lost_k]at h;rw [if_pos hk]at h;simp at h;omega
  ·refine ars_keep (n:=n) ?_ i (by omega) hk;rcases sh_k f g (F n)with e | ⟨h2,e⟩
   ·simp only [e]at h;omega
   ·exfalso
    simp only [e,lost_k]at h;rw [if_pos h2]at h;simp at h;omega
theorem sh_cell {f g:Ends} {x:FN} (h2:x.k=2) (hk:(shFN f g x).k=x.k):shFN f g x={x with ac:=(f x.ac x.ar x.af x.ag).1,ar:=(f x.ac x.ar x.af x.ag).2}:=by
 unfold shFN at hk ⊢;rw [if_pos h2]at hk ⊢;split
 ·rfl
 ·rename_i ha
  rw [if_neg ha,lost_k]at hk;omega
theorem sh_area {f g:Ends} {x:FN} (h3:x.k=3) (hk:(shFN f g x).k=x.k):shFN f g x={x with ac:=(f x.ac x.ar x.af x.ag).1,ar:=(f x.ac x.ar x.af x.ag).2,bc:=(g x.bc x.br x.bf x.bg).1,br:=(g x.bc x.br x.bf x.bg).2}:=by
 unfold shFN at hk ⊢;rw [if_neg (by omega),if_pos h3]at hk ⊢;split
 ·rfl
 ·rename_i ha
  rw [if_neg ha,lost_k]at hk;omega
theorem sh_cs (f g:Ends) (x:FN) (h:x.cs.size≤maxLen):(shFN f g x).cs.size≤maxLen:=by
 by_cases h2:x.k=2
 ·unfold shFN;rw [if_pos h2];split
  ·exact h
  ·exact Nat.zero_le _
 by_cases h3:x.k=3
 ·unfold shFN;rw [if_neg h2,if_pos h3];split
  ·exact h
  ·exact Nat.zero_le _
 rw [sh_not f g h2 h3];exact h
theorem row_congr {W:World} {A:Option Addr} {n:Nat} {F G:Nat→FN} (h:FnRow W A n F) (e: ∀i,i<n→F i=G i):FnRow W A n G:=
 ⟨h.1,fun i hi=>by rw [←e i hi];exact h.2 i hi⟩
theorem row_nilM (W:World) (G:Nat→FN):FnRow W none 0 G:=⟨Nat.zero_le _,fun i hi=>absurd hi (Nat.not_lt_zero _)⟩
theorem ouF_far (out:List FN) (j:Nat) (h:out.length≤j):ouF out j=dFN:=by
 unfold ouF;rw [List.getD_eq_getElem?_getD,List.getElem?_eq_none h];rfl
theorem ars_of {F:Nat→FN} {n:Nat} (h:fOkB F n=true):arsM F n=arsN F n:=by unfold arsM;rw [if_pos h]
theorem cl_op {r d e:Int} (o:Int) (he:1≤e):clI (opI r d e) d e o=r:=by
 unfold clI opI;by_cases h:d≤r
 ·rw [if_pos h,if_pos (by omega)];omega
 ·rw [if_neg h,if_neg (by omega),if_neg h]
theorem opened_back {d e:Int} {x:FN} (he:1≤e) (h:nodeX x=true) (hk:x.k=2∨x.k=3→(shFN (fOpened d e) (gOpened d e) x).k=x.k):shFN (fClosed d e) (gClosed d e) (shFN (fOpened d e) (gOpened d e) x)=x:=by
 by_cases h2:x.k=2
 ·have hr:=node_cell h h2;rw [sh_cell h2 (hk (Or.inl h2))];obtain⟨k,o,ck,cn,cs,ac,ar,af,ag,bc,br,bf,bg,kids⟩:=x;obtain rfl:k=2:=h2;unfold shFN;simp only [if_true,fOpened,gOpened,fClosed,gClosed,cl_op _ he,area_self];rw [if_pos hr]
 by_cases h3:x.k=3
 ·have hr:=node_area h h3;rw [sh_area h3 (hk (Or.inr h3))];obtain⟨k,o,ck,cn,cs,ac,ar,af,ag,bc,br,bf,bg,kids⟩:=x;obtain rfl:k=3:=h3;unfold shFN;simp only [if_true,fOpened,gOpened,fClosed,gClosed,cl_op _ he];rw [if_neg (by omega),if_pos hr]
 rw [sh_not _ _ h2 h3,sh_not _ _ h2 h3]
theorem law_FnOpenedClosed (H3:FtX 3 705) (A:Option Addr) (len cap:Nat) (w:World) (hz:len≤1048576→Cd w A len) (hg:FT w):Calls Tryz.prog 3 #[.slice A len cap] w fun e w'=>
  e= .returned (.bool true)∧Below w.heap.size w w':=by
 have HG:Hid (FT w):=hg;clear hg;by_cases hbig:(1048576:Int)<(len:Int)
 ·go_enter Tryz.func3,Tryz.ntmps3;go_wp2_with fail
  refine(laws_big A len cap _).mono ?_;rintro e wq ⟨rfl,hw⟩;subst wq;go_wp2_with fail
  go_ret;exact⟨rfl,by go_grown⟩
 have HC:Hid (Cd w A len):=hz (by omega);clear hz;go_enter Tryz.func3,Tryz.ntmps3;go_wp2_with fail
 refine(laws_big A len cap _).mono ?_;rintro e wq ⟨rfl,hw⟩;subst wq;go_wp2_with fail
 refine(draw_opened H3 A len cap _ HC.out).mono ?_;rintro e w1 ⟨out,A1,c1,d,e',rfl,hrow,hn60,hkz,hb⟩;have K1:Hid (Below w.heap.size w w1):=hb;obtain⟨F,HF⟩: ∃F,Hid (ouF out=F):=⟨_,rfl⟩;obtain⟨n,HNN⟩: ∃n,Hid (out.length=n):=⟨_,rfl⟩;have HD:Hid (∀j,n≤j→F j=dFN):=by show∀_,_;rw [←HF.out,←HNN.out];exact ouF_far out
 rw [HF.out,HNN.out]at hrow hkz;rw [HNN.out]at hn60 ⊢;have R1:Hid (FnRowS w1 A1 n F):=hrow;have HKZ:Hid (∀i,i<n→(F i).kids.length≤1048576):=hkz;have HSZ:Hid (∀i,i<n→(F i).cs.size≤maxLen):=fun i hi=>by obtain⟨_,_,_,_,_,_,_,_,hs,_⟩:=hrow.2 i hi;exact hs
 have HN:Hid (n≤1048576):=by show _≤_;omega
 clear hb hrow hkz HF HNN;cases ho:(fOkB F n&&okOpened d e')
 ·have HO:Hid ((fOkB F n&&okOpened d e')=false):=ho;have HO':Hid ((fOkB F n&&okClosed d e')=false):=ho;clear ho;go_wp2_with fail
  refine(impl_Opened_no d e' _ R1.out HN.out HKZ.out (HG.out.below K1.out) HO.out).mono ?_;rintro e w2 ⟨rfl,hb⟩;have R2:=hd (R1.out.below hb);have K2:=hd (bchain K1.out hb);clear hb R1;go_wp2_with fail
  refine(spec_Opened_no d e' _ R2.out HN.out HKZ.out HO.out).mono ?_;rintro e w3 ⟨rfl,hb⟩;have R3:=hd (R2.out.below hb);have K3:=hd (bchain K2.out hb);clear hb R2;go_wp2_with fail
  refine(impl_Closed_no d e' _ R3.out HN.out HKZ.out (HG.out.below K3.out) HO'.out).mono ?_;rintro e w4 ⟨rfl,hb⟩;have R4:=hd (R3.out.below hb);have K4:=hd (bchain K3.out hb);clear hb R3;go_wp2_with fail
  refine(spec_Closed_no d e' _ R4.out HN.out HKZ.out HO'.out).mono ?_;rintro e w5 ⟨rfl,hb⟩;have K5:=hd (bchain K4.out hb);clear hb R4;go_wp2_with fail
  refine(laws_sameNodes (F:=F) _ (row_nilM _ _) (row_nilM _ _)).mono ?_;rintro e w6 ⟨rfl,hb⟩;have K6:=hd (bchain K5.out hb);clear hb;go_wp2_with fail
  refine(laws_sameNodes (F:=F) _ (row_nilM _ _) (row_nilM _ _)).mono ?_;rintro e w7 ⟨rfl,hb⟩;have K7:=hd (bchain K6.out hb);clear hb;go_wp2_with fail
  refine(laws_sameNodes (F:=F) _ (row_nilM _ _) (row_nilM _ _)).mono ?_;rintro e w8 ⟨rfl,hb⟩;have K8:=hd (bchain K7.out hb);clear hb;go_wp2_with fail
  refine(laws_sameNodes (F:=F) _ (row_nilM _ _) (row_nilM _ _)).mono ?_;rintro e w9 ⟨rfl,hb⟩;have K9:=hd (bchain K8.out hb);clear hb;go_wp2_with fail
  go_ret;exact⟨rfl,K9.out⟩
 have HO:Hid ((fOkB F n&&okOpened d e')=true):=ho;have HO':Hid ((fOkB F n&&okClosed d e')=true):=ho;have HO1:Hid (fOkB F n=true):=(Bool.and_eq_true_iff.1 ho).1;have HO2:Hid (okOpened d e'=true):=(Bool.and_eq_true_iff.1 ho).2
 have HE:Hid (1≤e'):=by
  have h9:=(Bool.and_eq_true_iff.1 ho).2;unfold okOpened at h9;rw [Bool.and_eq_true]at h9;exact(of_decide_eq_true h9.2).1
 obtain⟨G,HGD⟩: ∃G,Hid ((fun i=>shFN (fOpened d e') (gOpened d e') (F i))=G):=⟨_,rfl⟩;obtain⟨H,HHD⟩: ∃H,Hid ((fun i=>shFN (fClosed d e') (gClosed d e') (F i))=H):=⟨_,rfl⟩;have HGO:Hid (fOkB G n=true):=by show _=_;rw [←HGD.out];exact sh_ok _ _ HO1.out HD.out
 have HGS:Hid (∀i,i<n→(G i).cs.size≤maxLen):=fun i hi=>by rw [←HGD.out];exact sh_cs _ _ _ (HSZ.out i hi)
 have HGK:Hid (∀i,i<n→(G i).kids.length≤1048576):=fun i hi=>by rw [←HGD.out];show(shFN _ _ (F i)).kids.length≤_;rw [sh_kids _ _ (fOk_nodes HO1.out i hi)];exact HKZ.out i hi
 have HHO:Hid (fOkB H n=true):=by show _=_;rw [←HHD.out];exact sh_ok _ _ HO1.out HD.out
 have HHS:Hid (∀i,i<n→(H i).cs.size≤maxLen):=fun i hi=>by rw [←HHD.out];exact sh_cs _ _ _ (HSZ.out i hi)
 have HHK:Hid (∀i,i<n→(H i).kids.length≤1048576):=fun i hi=>by rw [←HHD.out];show(shFN _ _ (F i)).kids.length≤_;rw [sh_kids _ _ (fOk_nodes HO1.out i hi)];exact HKZ.out i hi
 clear ho;go_wp2_with fail
 refine(impl_Opened_yes d e' _ R1.out HN.out HKZ.out (HG.out.below K1.out) HO.out).mono ?_;rintro e w2 ⟨g,ys,rfl,_,hown,hp,_,hb⟩;rw [HGD.out]at hp;have G2:Hid (FnRowS w2 (some ⟨g,0,none⟩) n G):=fnS_of_own hown hp HGS.out;have R2:=hd (R1.out.below hb);have K2:=hd (bchain K1.out hb);clear hb R1 hown hp
 go_wp2_with fail
 refine(spec_Opened_yes d e' _ R2.out HKZ.out HO1.out HO2.out).mono ?_;rintro e w3 ⟨v3,ys3,rfl,hown,hp,hb⟩;rw [HGD.out]at hp;obtain⟨A3,c3,rfl,hr3⟩:=fn_of_ownV hown hp HGS.out;have Q3:Hid (FnRow w3 A3 n G):=hr3;have G3:=hd (G2.out.below hb);have R3:=hd (R2.out.below hb)
 have K3:=hd (bchain K2.out hb);clear hb R2 G2 hown hp hr3;go_wp2_with fail
 refine(impl_Closed_yes d e' _ R3.out HN.out HKZ.out (HG.out.below K3.out) HO'.out).mono ?_;rintro e w4 ⟨g4,ys4,rfl,_,hown,hp,_,hb⟩;rw [HHD.out]at hp;have P4:Hid (FnRowS w4 (some ⟨g4,0,none⟩) n H):=fnS_of_own hown hp HHS.out;have Q4:=hd (Q3.out.below hb);have G4:=hd (G3.out.below hb);have R4:=hd (R3.out.below hb)
 have K4:=hd (bchain K3.out hb);clear hb R3 G3 Q3 hown hp;go_wp2_with fail
 refine(spec_Closed_yes d e' _ R4.out HKZ.out HO1.out HO2.out).mono ?_;rintro e w5 ⟨v5,ys5,rfl,hown,hp,hb⟩;rw [HHD.out]at hp;obtain⟨A5,c5,rfl,hr5⟩:=fn_of_ownV hown hp HHS.out;have S5:Hid (FnRow w5 A5 n H):=hr5;have P5:=hd (P4.out.below hb);have Q5:=hd (Q4.out.below hb)
 have G5:=hd (G4.out.below hb);have R5:=hd (R4.out.below hb);have K5:=hd (bchain K4.out hb);clear hb R4 G4 Q4 P4 hown hp hr5;go_wp2_with fail
 refine(laws_sameNodes _ G5.out.row Q5.out).mono ?_;rintro e w6 ⟨rfl,hb⟩;have S6:=hd (S5.out.below hb);have P6:=hd (P5.out.below hb);have G6:=hd (G5.out.below hb);have R6:=hd (R5.out.below hb);have K6:=hd (bchain K5.out hb)
 clear hb R5 G5 Q5 P5 S5;go_wp2_with fail
 refine(laws_sameNodes _ P6.out.row S6.out).mono ?_;rintro e w7 ⟨rfl,hb⟩;have P7:=hd (P6.out.below hb);have G7:=hd (G6.out.below hb);have R7:=hd (R6.out.below hb);have K7:=hd (bchain K6.out hb);clear hb R6 G6 P6 S6
 obtain⟨a,HA9⟩: ∃a,Hid (arsM F n=a):=⟨_,rfl⟩;obtain⟨b,HB9⟩: ∃b,Hid (arsM G n=b):=⟨_,rfl⟩;obtain⟨c,HC9⟩: ∃c,Hid (arsM H n=c):=⟨_,rfl⟩
 have hca:c≤a:=by
  rw [←HA9.out,←HC9.out,ars_of HHO.out,ars_of HO1.out,←HHD.out];exact ars_le _ _ _ _
 go_wp2_with fail
 refine(impl_AreasOf _ G7.out.row HN.out HGK.out (HG.out.below K7.out)).mono ?_;rintro e w8 ⟨v8,rfl,hown,hb⟩;obtain⟨A8,c8,rfl,_,_⟩:=own_shape hown;rw [HB9.out];have P8:=hd (P7.out.below hb);have G8:=hd (G7.out.below hb);have R8:=hd (R7.out.below hb)
 have K8:=hd (bchain K7.out hb);clear hb R7 G7 P7 hown;go_wp2_with fail
 refine(impl_AreasOf _ R8.out.row HN.out HKZ.out (HG.out.below K8.out)).mono ?_;rintro e w9 ⟨v9,rfl,hown,hb⟩;obtain⟨A9,c9,rfl,_,_⟩:=own_shape hown;rw [HA9.out];have P9:=hd (P8.out.below hb);have G9:=hd (G8.out.below hb);have R9:=hd (R8.out.below hb)
 have K9:=hd (bchain K8.out hb);clear hb R8 G8 P8 hown;by_cases hab:b=a
 rotate_left
 ·have q1:((b:Int)==(a:Int))=false:=by simp;omega
  go_wp2_with fail
  go_ret;exact⟨rfl,K9.out⟩
 have HKP:Hid (∀i,i<n→(F i).k=2∨(F i).k=3→(shFN (fOpened d e') (gOpened d e') (F i)).k=(F i).k):=ars_keep (by
  have h1:=HA9.out;have h2:=HB9.out;rw [ars_of HO1.out]at h1;rw [ars_of HGO.out,←HGD.out]at h2
  rw [h1,h2,hab])
 have HBK:Hid (∀i,i<n→(fun i=>shFN (fClosed d e') (gClosed d e') (G i)) i=F i):=fun i hi=>by
  rw [←HGD.out];exact opened_back HE.out (fOk_nodes HO1.out i hi) (HKP.out i hi)
 have HBO:Hid ((fOkB G n&&okClosed d e')=true):=by
  show _=_;rw [HGO.out];exact HO2.out
 subst hab;go_wp2_with fail
 refine(impl_Closed_yes d e' _ G9.out HN.out HGK.out (HG.out.below K9.out) HBO.out).mono ?_;rintro e wa ⟨ga,ysa,rfl,_,hown,hp,_,hb⟩;have Qa:Hid (FnRow wa (some ⟨ga,0,none⟩) n F):=row_congr (fn_of_own hown hp (fun i hi=>by rw [HBK.out i hi];exact HSZ.out i hi)) HBK.out;have Pa:=hd (P9.out.below hb);have Ra:=hd (R9.out.below hb);have Ka:=hd (bchain K9.out hb);clear hb R9 G9 P9 hown hp
 go_wp2_with fail
 refine(laws_sameNodes _ Qa.out Ra.out.row).mono ?_;rintro e wb ⟨rfl,hb⟩;have Pb:=hd (Pa.out.below hb);have Rb:=hd (Ra.out.below hb);have Kb:=hd (bchain Ka.out hb);clear hb Qa Pa Ra;go_wp2_with fail
 refine(impl_AreasOf _ Pb.out.row HN.out HHK.out (HG.out.below Kb.out)).mono ?_;rintro e wc ⟨vc,rfl,hown,hb⟩;obtain⟨Ac,cc,rfl,_,_⟩:=own_shape hown;rw [HC9.out];have Rc:=hd (Rb.out.below hb);have Kc:=hd (bchain Kb.out hb);clear hb Rb Pb hown
 go_wp2_with fail
 refine(impl_AreasOf _ Rc.out.row HN.out HKZ.out (HG.out.below Kc.out)).mono ?_;rintro e wd ⟨vd,rfl,hown,hb⟩;obtain⟨Ad,cd,rfl,_,_⟩:=own_shape hown;rw [HA9.out];have Kd:=hd (bchain Kc.out hb);have q9:(c:Int)≤(b:Int):=by omega
 clear hb Rc hown;go_wp2_with fail
 go_ret;exact⟨rfl,Kd.out⟩
end Go.Proofs.YtonhcgkagdpdlaaGreatDoor
