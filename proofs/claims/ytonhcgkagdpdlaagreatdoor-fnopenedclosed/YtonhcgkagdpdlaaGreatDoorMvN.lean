import Derived.Test.YtonhcgkagdpdlaaGreatDoorGmb
import Derived.Test.YtonhcgkagdpdlaaGreatDoorGmd
set_option linter.unusedSimpArgs false
set_option linter.unusedVariables false
set_option maxHeartbeats 4000000
namespace Go.Proofs.YtonhcgkagdpdlaaGreatDoor
open Go.RowKit
def okMovedBy (d e:Int):Bool:=decide (-52≤d∧d≤52)&&decide (-99≤e∧e≤99)
def okOpened (d e:Int):Bool:=decide (1≤d∧d≤99)&&decide (1≤e∧e≤99)
def okClosed (d e:Int):Bool:=decide (1≤d∧d≤99)&&decide (1≤e∧e≤99)
theorem impl_Opened_no {A:Option Addr} {n cap:Nat} {F:Nat→FN} (d e:Int) (w:World) (h:FnRowS w A n F) (hn:n≤1048576) (hkn: ∀i,i<n→(F i).kids.length≤1048576) (hft:FT w) (ho:(fOkB F n&&okOpened d e)=false):
  Calls Tryz.prog 6 #[.slice A n cap,.int .i64 d,.int .i64 e] w fun z w'=>z= .returned (.tuple #[.slice none 0 0,.bool false])∧Below w.heap.size w w':=by
 have HR:Hid (FnRowS w A n F):=h
 have HKN:Hid (∀i,i<n→(F i).kids.length≤1048576):=hkn
 have HFT:Hid (FT w):=hft
 clear h hkn hft
 cases h1:fOkB F n
 ·have HO:Hid (fOkB F n=false):=h1
  clear h1 ho
  go_enter Tryz.func6,Tryz.ntmps6
  go_wp2_with (go_at_call 17;refine(impl_FormulaOk _ (HR.out.row.below (by go_grown)) (by omega) HKN.out (HFT.out.below (by go_grown))).mono ?_;rintro z w1 ⟨rfl,hb⟩;rw [HO.out];obtain⟨hc,hf,hC,hF,hz,hk,l0,l1⟩:=bk2 (w:=w) (by go_grown) (by go_size) hb;have x0:w1.cell? ⟨w.heap.size,0,none⟩=some (.int .i64 d):=(by simp (maxDischargeDepth:=9) [go_sem, *]);have x1:w1.cell? ⟨w.heap.size+1,0,none⟩=some (.int .i64 e):=(by simp (maxDischargeDepth:=9) [go_sem, *]);clear hb hc hf hC hF)
  refine bodyPost_ret (v:= .tuple #[.slice none 0 0,.bool false]) ?_ rfl ⟨rfl,by go_grown⟩
  simp (maxDischargeDepth:=9) [results,Tryz.results6,go_sem, *]
 have HO:Hid (fOkB F n=true):=h1
 rw [h1,Bool.true_and]at ho
 clear h1
 cases h2:decide (1≤d∧d≤99)
 ·have HD:Hid (decide (1≤d∧d≤99)=false):=h2
  clear h2 ho
  go_enter Tryz.func6,Tryz.ntmps6
  go_wp2_with (first
   | (go_at_call 17;refine(impl_FormulaOk _ (HR.out.row.below (by go_grown)) (by omega) HKN.out (HFT.out.below (by go_grown))).mono ?_;rintro z w1 ⟨rfl,hb⟩;rw [HO.out];obtain⟨hc,hf,hC,hF,hz,hk,l0,l1⟩:=bk2 (w:=w) (by go_grown) (by go_size) hb;have x0:w1.cell? ⟨w.heap.size,0,none⟩=some (.int .i64 d):=(by simp (maxDischargeDepth:=9) [go_sem, *]);have x1:w1.cell? ⟨w.heap.size+1,0,none⟩=some (.int .i64 e):=(by simp (maxDischargeDepth:=9) [go_sem, *]);clear hb hc hf hC hF)
   | (go_at_call 18;refine(impl_isRow _ _).mono ?_;rintro z w1 ⟨rfl,hb⟩;rw [HD.out];obtain⟨hc,hf,hC,hF,hz,hk,l0,l1⟩:=bk2 (w:=w) (by go_grown) (by go_size) hb;have x0:w1.cell? ⟨w.heap.size,0,none⟩=some (.int .i64 d):=(by simp (maxDischargeDepth:=9) [go_sem, *]);have x1:w1.cell? ⟨w.heap.size+1,0,none⟩=some (.int .i64 e):=(by simp (maxDischargeDepth:=9) [go_sem, *]);clear hb hc hf hC hF))
  refine bodyPost_ret (v:= .tuple #[.slice none 0 0,.bool false]) ?_ rfl ⟨rfl,by go_grown⟩
  simp (maxDischargeDepth:=9) [results,Tryz.results6,go_sem, *]
 ·have HD:Hid (decide (1≤d∧d≤99)=true):=h2
  unfold okOpened at ho
  rw [h2,Bool.true_and]at ho
  have HE:Hid (decide (1≤e∧e≤99)=false):=ho
  clear h2 ho
  go_enter Tryz.func6,Tryz.ntmps6
  go_wp2_with (first
   | (go_at_call 17;refine(impl_FormulaOk _ (HR.out.row.below (by go_grown)) (by omega) HKN.out (HFT.out.below (by go_grown))).mono ?_;rintro z w1 ⟨rfl,hb⟩;rw [HO.out];obtain⟨hc,hf,hC,hF,hz,hk,l0,l1⟩:=bk2 (w:=w) (by go_grown) (by go_size) hb;have x0:w1.cell? ⟨w.heap.size,0,none⟩=some (.int .i64 d):=(by simp (maxDischargeDepth:=9) [go_sem, *]);have x1:w1.cell? ⟨w.heap.size+1,0,none⟩=some (.int .i64 e):=(by simp (maxDischargeDepth:=9) [go_sem, *]);clear hb hc hf hC hF)
   | (go_at_call 18;refine(impl_isRow _ _).mono ?_;rintro z w1 ⟨rfl,hb⟩;(first | rw [HD.out] | rw [HE.out]);obtain⟨hc,hf,hC,hF,hz,hk,l0,l1⟩:=bk2 (w:=w) (by go_grown) (by go_size) hb;have x0:w1.cell? ⟨w.heap.size,0,none⟩=some (.int .i64 d):=(by simp (maxDischargeDepth:=9) [go_sem, *]);have x1:w1.cell? ⟨w.heap.size+1,0,none⟩=some (.int .i64 e):=(by simp (maxDischargeDepth:=9) [go_sem, *]);clear hb hc hf hC hF))
  refine bodyPost_ret (v:= .tuple #[.slice none 0 0,.bool false]) ?_ rfl ⟨rfl,by go_grown⟩
  simp (maxDischargeDepth:=9) [results,Tryz.results6,go_sem, *]
theorem impl_Opened_yes {A:Option Addr} {n cap:Nat} {F:Nat→FN} (d e:Int) (w:World) (h:FnRowS w A n F) (hn:n≤1048576) (hkn: ∀i,i<n→(F i).kids.length≤1048576) (hft:FT w) (ho:(fOkB F n&&okOpened d e)=true):
  Calls Tryz.prog 6 #[.slice A n cap,.int .i64 d,.int .i64 e] w fun z w'=> ∃g ys,z= .returned (.tuple #[.slice (some ⟨g,0,none⟩) n n,.bool true])∧w.heap.size≤g∧w'.ownsRow g 54 14 (.slice (some ⟨g,0,none⟩) n n) n ys∧FnPart w' (g+1) ys (fun i=>shFN (fOpened d e) (gOpened d e) (F i)) n∧KDiff ys n∧Below w.heap.size w w':=by
 have HR:Hid (FnRowS w A n F):=h
 have HKN:Hid (∀i,i<n→(F i).kids.length≤1048576):=hkn
 have HFT:Hid (FT w):=hft
 clear h hkn hft
 rw [Bool.and_eq_true]at ho
 have HO:Hid (fOkB F n=true):=ho.1
 have HNO:Hid (∀i,i<n→SmallN (F i)):=fun i hi=>node_small (fOk_nodes ho.1 i hi)
 have ho2:=ho.2
 unfold okOpened at ho2
 rw [Bool.and_eq_true]at ho2
 have HD:Hid (decide (1≤d∧d≤99)=true):=ho2.1
 have HE:Hid (decide (1≤e∧e≤99)=true):=ho2.2
 have hd:=of_decide_eq_true ho2.1
 have he:=of_decide_eq_true ho2.2
 have hd': -1000≤d∧d≤1000:=by omega
 have he': -1000≤e∧e≤1000:=by omega
 clear ho ho2
 go_enter Tryz.func6,Tryz.ntmps6
 go_wp2_with (first
  | (go_at_call 17;refine(impl_FormulaOk _ (HR.out.row.below (by go_grown)) (by omega) HKN.out (HFT.out.below (by go_grown))).mono ?_;rintro z w1 ⟨rfl,hb⟩;rw [HO.out];obtain⟨hc,hf,hC,hF,hz,hk,l0,l1⟩:=bk2 (w:=w) (by go_grown) (by go_size) hb;have x0:w1.cell? ⟨w.heap.size,0,none⟩=some (.int .i64 d):=(by simp (maxDischargeDepth:=9) [go_sem, *]);have x1:w1.cell? ⟨w.heap.size+1,0,none⟩=some (.int .i64 e):=(by simp (maxDischargeDepth:=9) [go_sem, *]);clear hb hc hf hC hF)
  | (go_at_call 18;refine(impl_isRow _ _).mono ?_;rintro z w1 ⟨rfl,hb⟩;(first | rw [HD.out] | rw [HE.out]);obtain⟨hc,hf,hC,hF,hz,hk,l0,l1⟩:=bk2 (w:=w) (by go_grown) (by go_size) hb;have x0:w1.cell? ⟨w.heap.size,0,none⟩=some (.int .i64 d):=(by simp (maxDischargeDepth:=9) [go_sem, *]);have x1:w1.cell? ⟨w.heap.size+1,0,none⟩=some (.int .i64 e):=(by simp (maxDischargeDepth:=9) [go_sem, *]);clear hb hc hf hC hF))
 refine(impl_shifted_Opened d e w.heap.size (w.heap.size+1) _ l0 l1 x0 x1 hd' he' (HR.out.below hk) hn HKN.out HNO.out).mono ?_
 rintro z w2 ⟨ys,rfl,ho,hp,hkd,hb⟩
 have HB2:Hid (Below w.heap.size w w2):=bchain hk hb
 have HQ1:Hid (w.heap.size≤w1.heap.size):=hk.size
 have HQ2:Hid (w2.ownsRow w1.heap.size 54 14 (.slice (some ⟨w1.heap.size,0,none⟩) n n) n ys):=ho
 have HQ3:Hid (FnPart w2 (w1.heap.size+1) ys (fun i=>shFN (fOpened d e) (gOpened d e) (F i)) n):=hp
 have HQ4:Hid (KDiff ys n):=hkd
 clear ho hp hkd hb
 go_wp2_with fail
 refine bodyPost_ret (v:= .tuple #[.slice (some ⟨w1.heap.size,0,none⟩) n n,.bool true]) ?_ rfl (by first | exact⟨_,_,rfl,HQ1.out,HQ2.out,HQ3.out,HQ4.out,HB2.out⟩ | exact⟨_,rfl,HQ1.out,_,HQ2.out,HQ3.out,HQ4.out,HB2.out⟩)
 simp (maxDischargeDepth:=9) [results,Tryz.results6,go_sem, *]
theorem impl_Closed_no {A:Option Addr} {n cap:Nat} {F:Nat→FN} (d e:Int) (w:World) (h:FnRowS w A n F) (hn:n≤1048576) (hkn: ∀i,i<n→(F i).kids.length≤1048576) (hft:FT w) (ho:(fOkB F n&&okClosed d e)=false):
  Calls Tryz.prog 8 #[.slice A n cap,.int .i64 d,.int .i64 e] w fun z w'=>z= .returned (.tuple #[.slice none 0 0,.bool false])∧Below w.heap.size w w':=by
 have HR:Hid (FnRowS w A n F):=h
 have HKN:Hid (∀i,i<n→(F i).kids.length≤1048576):=hkn
 have HFT:Hid (FT w):=hft
 clear h hkn hft
 cases h1:fOkB F n
 ·have HO:Hid (fOkB F n=false):=h1
  clear h1 ho
  go_enter Tryz.func8,Tryz.ntmps8
  go_wp2_with (go_at_call 17;refine(impl_FormulaOk _ (HR.out.row.below (by go_grown)) (by omega) HKN.out (HFT.out.below (by go_grown))).mono ?_;rintro z w1 ⟨rfl,hb⟩;rw [HO.out];obtain⟨hc,hf,hC,hF,hz,hk,l0,l1⟩:=bk2 (w:=w) (by go_grown) (by go_size) hb;have x0:w1.cell? ⟨w.heap.size,0,none⟩=some (.int .i64 d):=(by simp (maxDischargeDepth:=9) [go_sem, *]);have x1:w1.cell? ⟨w.heap.size+1,0,none⟩=some (.int .i64 e):=(by simp (maxDischargeDepth:=9) [go_sem, *]);clear hb hc hf hC hF)
  refine bodyPost_ret (v:= .tuple #[.slice none 0 0,.bool false]) ?_ rfl ⟨rfl,by go_grown⟩
  simp (maxDischargeDepth:=9) [results,Tryz.results8,go_sem, *]
 have HO:Hid (fOkB F n=true):=h1
 rw [h1,Bool.true_and]at ho
 clear h1
 cases h2:decide (1≤d∧d≤99)
 ·have HD:Hid (decide (1≤d∧d≤99)=false):=h2
  clear h2 ho
  go_enter Tryz.func8,Tryz.ntmps8
  go_wp2_with (first
   | (go_at_call 17;refine(impl_FormulaOk _ (HR.out.row.below (by go_grown)) (by omega) HKN.out (HFT.out.below (by go_grown))).mono ?_;rintro z w1 ⟨rfl,hb⟩;rw [HO.out];obtain⟨hc,hf,hC,hF,hz,hk,l0,l1⟩:=bk2 (w:=w) (by go_grown) (by go_size) hb;have x0:w1.cell? ⟨w.heap.size,0,none⟩=some (.int .i64 d):=(by simp (maxDischargeDepth:=9) [go_sem, *]);have x1:w1.cell? ⟨w.heap.size+1,0,none⟩=some (.int .i64 e):=(by simp (maxDischargeDepth:=9) [go_sem, *]);clear hb hc hf hC hF)
   | (go_at_call 18;refine(impl_isRow _ _).mono ?_;rintro z w1 ⟨rfl,hb⟩;rw [HD.out];obtain⟨hc,hf,hC,hF,hz,hk,l0,l1⟩:=bk2 (w:=w) (by go_grown) (by go_size) hb;have x0:w1.cell? ⟨w.heap.size,0,none⟩=some (.int .i64 d):=(by simp (maxDischargeDepth:=9) [go_sem, *]);have x1:w1.cell? ⟨w.heap.size+1,0,none⟩=some (.int .i64 e):=(by simp (maxDischargeDepth:=9) [go_sem, *]);clear hb hc hf hC hF))
  refine bodyPost_ret (v:= .tuple #[.slice none 0 0,.bool false]) ?_ rfl ⟨rfl,by go_grown⟩
  simp (maxDischargeDepth:=9) [results,Tryz.results8,go_sem, *]
 ·have HD:Hid (decide (1≤d∧d≤99)=true):=h2
  unfold okClosed at ho
  rw [h2,Bool.true_and]at ho
  have HE:Hid (decide (1≤e∧e≤99)=false):=ho
  clear h2 ho
  go_enter Tryz.func8,Tryz.ntmps8
  go_wp2_with (first
   | (go_at_call 17;refine(impl_FormulaOk _ (HR.out.row.below (by go_grown)) (by omega) HKN.out (HFT.out.below (by go_grown))).mono ?_;rintro z w1 ⟨rfl,hb⟩;rw [HO.out];obtain⟨hc,hf,hC,hF,hz,hk,l0,l1⟩:=bk2 (w:=w) (by go_grown) (by go_size) hb;have x0:w1.cell? ⟨w.heap.size,0,none⟩=some (.int .i64 d):=(by simp (maxDischargeDepth:=9) [go_sem, *]);have x1:w1.cell? ⟨w.heap.size+1,0,none⟩=some (.int .i64 e):=(by simp (maxDischargeDepth:=9) [go_sem, *]);clear hb hc hf hC hF)
   | (go_at_call 18;refine(impl_isRow _ _).mono ?_;rintro z w1 ⟨rfl,hb⟩;(first | rw [HD.out] | rw [HE.out]);obtain⟨hc,hf,hC,hF,hz,hk,l0,l1⟩:=bk2 (w:=w) (by go_grown) (by go_size) hb;have x0:w1.cell? ⟨w.heap.size,0,none⟩=some (.int .i64 d):=(by simp (maxDischargeDepth:=9) [go_sem, *]);have x1:w1.cell? ⟨w.heap.size+1,0,none⟩=some (.int .i64 e):=(by simp (maxDischargeDepth:=9) [go_sem, *]);clear hb hc hf hC hF))
  refine bodyPost_ret (v:= .tuple #[.slice none 0 0,.bool false]) ?_ rfl ⟨rfl,by go_grown⟩
  simp (maxDischargeDepth:=9) [results,Tryz.results8,go_sem, *]
theorem impl_Closed_yes {A:Option Addr} {n cap:Nat} {F:Nat→FN} (d e:Int) (w:World) (h:FnRowS w A n F) (hn:n≤1048576) (hkn: ∀i,i<n→(F i).kids.length≤1048576) (hft:FT w) (ho:(fOkB F n&&okClosed d e)=true):
  Calls Tryz.prog 8 #[.slice A n cap,.int .i64 d,.int .i64 e] w fun z w'=> ∃g ys,z= .returned (.tuple #[.slice (some ⟨g,0,none⟩) n n,.bool true])∧w.heap.size≤g∧w'.ownsRow g 54 14 (.slice (some ⟨g,0,none⟩) n n) n ys∧FnPart w' (g+1) ys (fun i=>shFN (fClosed d e) (gClosed d e) (F i)) n∧KDiff ys n∧Below w.heap.size w w':=by
 have HR:Hid (FnRowS w A n F):=h
 have HKN:Hid (∀i,i<n→(F i).kids.length≤1048576):=hkn
 have HFT:Hid (FT w):=hft
 clear h hkn hft
 rw [Bool.and_eq_true]at ho
 have HO:Hid (fOkB F n=true):=ho.1
 have HNO:Hid (∀i,i<n→SmallN (F i)):=fun i hi=>node_small (fOk_nodes ho.1 i hi)
 have ho2:=ho.2
 unfold okClosed at ho2
 rw [Bool.and_eq_true]at ho2
 have HD:Hid (decide (1≤d∧d≤99)=true):=ho2.1
 have HE:Hid (decide (1≤e∧e≤99)=true):=ho2.2
 have hd:=of_decide_eq_true ho2.1
 have he:=of_decide_eq_true ho2.2
 have hd': -1000≤d∧d≤1000:=by omega
 have he': -1000≤e∧e≤1000:=by omega
 clear ho ho2
 go_enter Tryz.func8,Tryz.ntmps8
 go_wp2_with (first
  | (go_at_call 17;refine(impl_FormulaOk _ (HR.out.row.below (by go_grown)) (by omega) HKN.out (HFT.out.below (by go_grown))).mono ?_;rintro z w1 ⟨rfl,hb⟩;rw [HO.out];obtain⟨hc,hf,hC,hF,hz,hk,l0,l1⟩:=bk2 (w:=w) (by go_grown) (by go_size) hb;have x0:w1.cell? ⟨w.heap.size,0,none⟩=some (.int .i64 d):=(by simp (maxDischargeDepth:=9) [go_sem, *]);have x1:w1.cell? ⟨w.heap.size+1,0,none⟩=some (.int .i64 e):=(by simp (maxDischargeDepth:=9) [go_sem, *]);clear hb hc hf hC hF)
  | (go_at_call 18;refine(impl_isRow _ _).mono ?_;rintro z w1 ⟨rfl,hb⟩;(first | rw [HD.out] | rw [HE.out]);obtain⟨hc,hf,hC,hF,hz,hk,l0,l1⟩:=bk2 (w:=w) (by go_grown) (by go_size) hb;have x0:w1.cell? ⟨w.heap.size,0,none⟩=some (.int .i64 d):=(by simp (maxDischargeDepth:=9) [go_sem, *]);have x1:w1.cell? ⟨w.heap.size+1,0,none⟩=some (.int .i64 e):=(by simp (maxDischargeDepth:=9) [go_sem, *]);clear hb hc hf hC hF))
 refine(impl_shifted_Closed d e w.heap.size (w.heap.size+1) _ l0 l1 x0 x1 hd' he' (HR.out.below hk) hn HKN.out HNO.out).mono ?_
 rintro z w2 ⟨ys,rfl,ho,hp,hkd,hb⟩
 have HB2:Hid (Below w.heap.size w w2):=bchain hk hb
 have HQ1:Hid (w.heap.size≤w1.heap.size):=hk.size
 have HQ2:Hid (w2.ownsRow w1.heap.size 54 14 (.slice (some ⟨w1.heap.size,0,none⟩) n n) n ys):=ho
 have HQ3:Hid (FnPart w2 (w1.heap.size+1) ys (fun i=>shFN (fClosed d e) (gClosed d e) (F i)) n):=hp
 have HQ4:Hid (KDiff ys n):=hkd
 clear ho hp hkd hb
 go_wp2_with fail
 refine bodyPost_ret (v:= .tuple #[.slice (some ⟨w1.heap.size,0,none⟩) n n,.bool true]) ?_ rfl (by first | exact⟨_,_,rfl,HQ1.out,HQ2.out,HQ3.out,HQ4.out,HB2.out⟩ | exact⟨_,rfl,HQ1.out,_,HQ2.out,HQ3.out,HQ4.out,HB2.out⟩)
 simp (maxDischargeDepth:=9) [results,Tryz.results8,go_sem, *]
end Go.Proofs.YtonhcgkagdpdlaaGreatDoor
