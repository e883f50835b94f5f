import Derived.Test.YtbdhinckiccniaaGreatDoorMn
import Derived.Test.YtbdhinckiccniaaGreatDoorGaw
import Derived.Test.YtbdhinckiccniaaGreatDoorGax
import Derived.Defers
import Derived.Recover
import Derived.Laws.Pointers
import Derived.Test.YtbdhinckiccniaaGreatDoorGap
import Derived.Test.YtbdhinckiccniaaGreatDoorGaf
set_option linter.unusedSimpArgs false
set_option linter.unusedVariables false
set_option maxHeartbeats 8000000
set_option maxRecDepth 100000
namespace Go.Proofs.YtbdhinckiccniaaGreatDoor
open Go.RowKit
def rwE (y:Option (Int × List UInt8 × List FN)):Option (List FN):=match y with
 | some y=>if y.2.1= []then some y.2.2 else none
 | none=>none
def rwF (l:List UInt8):Option (List FN):=rwE (PB RF 1 1 0 [] l [])
theorem Qfk {x:Int} {l:List UInt8} {o:List FN} (h:l= []):rwE (some (x,l,o))=some o:=if_pos h
theorem Qeo {x:Int} {l:List UInt8} {o:List FN} (h:l≠ []):rwE (some (x,l,o))=none:=if_neg h
theorem Qok {l:List UInt8} (hl:l.length≤1000) (h:Yx 1001 l=none):rwF l=none:=by
 unfold rwF;obtain⟨y,hy⟩: ∃y,PB RF 1 1 0 [] l []=y:=⟨_,rfl⟩;rw [hy];cases y with
 | none=>rfl
 | some z=>
  obtain⟨x,l1,o⟩:=z;by_cases h1:l1= []
  ·exfalso
   unfold PB at hy;cases hp:P RF 20000 1 1 0 [] l []with
   | none=>rw [hp]at hy;cases hy
   | some q=>
    obtain⟨x',l',o'⟩:=q;rw [hp]at hy;simp only [Option.map_some,nrm,Option.some.injEq,Prod.mk.injEq]at hy;obtain⟨_,hs,_⟩:=hy;obtain⟨⟨k,hk⟩,_⟩:=Qg5 RF JH _ _ _ _ _ _ _ _ _ _ hp;obtain⟨ws,hw⟩:=Vw k 1001 l l' hk (by rw [hs,h1]) (by omega);rw [hw]at h
    cases h
  ·exact Qeo h1
theorem Ng (p q:Nat) (x:Value) (y:Bool) (u:TypeId) (pv:Value) (older:List PanicEntry) (w:World) (hp:w.cell? ⟨p,0,none⟩=some x) (hq:w.cell? ⟨q,0,none⟩=some (.bool y)) (fp:w.frozen? ⟨p,0,none⟩=false) (fq:w.frozen? ⟨q,0,none⟩=false) (hne:q≠p):
  CallsD Tryz.prog 285 #[.pointer (some ⟨p,0,none⟩),.pointer (some ⟨q,0,none⟩)] (.panicking ({v:= .iface u pv,recovered:=false}::older)) w fun e u' w'=>
   e= .returned (.tuple #[])∧u'= .panicking ({v:= .iface u pv,recovered:=true}::older)∧w'=(w.setCell ⟨p,0,none⟩ (.slice none 0 0)).setCell ⟨q,0,none⟩ (.bool false):=by
 have hq2:(w.setCell ⟨p,0,none⟩ (.slice none 0 0)).cell? ⟨q,0,none⟩=some (.bool y):=(World.cell?_setCell_other _ _ _ _ (fun e=>by cases e;exact hne rfl)).trans hq;have fq2:(w.setCell ⟨p,0,none⟩ (.slice none 0 0)).frozen? ⟨q,0,none⟩=false:=(World.frozen?_setCell _ _ _ _).trans fq;refine callsD_of_wpS Tryz.func285 rfl fun c₀ cs hu=> ?_;apply wpS_seq;apply wpS_region;simp [wpOpsS,go_sem,recoverD,hu,Tryz.ntmps285,Exit.thenS];refine wpS_cond (t:=true) (by simp [Act.eval,Array.replicate]) ?_
 simp only [if_true];apply wpS_region;simp [wpOpsS,go_sem,hp,fp,hq2,fq2,bodyPostS,results,Tryz.results285]
theorem Qol (p q:Addr) (w:World):
  CallsD Tryz.prog 285 #[.pointer (some p),.pointer (some q)] .returning w fun e u' w'=>e= .returned (.tuple #[])∧u'= .returning∧w'=w:=by
 refine callsD_of_wpS Tryz.func285 rfl fun c₀ cs hu=> ?_;apply wpS_seq;apply wpS_region;simp [wpOpsS,go_sem,recoverD,hu,Tryz.ntmps285,Exit.thenS];refine wpS_cond (t:=false) (by simp [Act.eval,Array.replicate]) ?_;simp only [Bool.false_eq_true,if_false];refine wpS_of_wp (wp_skip ?_)
 cases c₀
 simp_all [bodyPostS,results,Tryz.results285]
def rwA (w:World):World:=(w.alloc (.cells #[.slice none 0 0] 141)).alloc (.cells #[.bool false] 4)
theorem Qbm (w:World):(rwA w).heap.size=w.heap.size+2:=by unfold rwA;simp
theorem Qhh (w:World):(rwA w).cell? ⟨w.heap.size,0,none⟩=some (.slice none 0 0)∧(rwA w).cell? ⟨w.heap.size+1,0,none⟩=some (.bool false)∧(rwA w).frozen? ⟨w.heap.size,0,none⟩=false∧(rwA w).frozen? ⟨w.heap.size+1,0,none⟩=false:=by
 unfold rwA;have e1:(w.alloc (.cells #[.slice none 0 0] 141)).heap.size=w.heap.size+1:=by simp
 have a:=(((Below.refl (w.alloc (.cells #[.slice none 0 0] 141)).heap.size (w.alloc (.cells #[.slice none 0 0] 141))).alloc (Nat.le_refl _) (.cells #[.bool false] 4)));refine⟨(a.cell (p:=⟨w.heap.size,0,none⟩) (by simp)).trans (by simp),?_,(a.frozen (p:=⟨w.heap.size,0,none⟩) (by simp)).trans (by simp),?_⟩
 ·rw [←e1];simp
 ·rw [←e1];simp
theorem Dd (w:World):Below w.heap.size w (rwA w):=by unfold rwA;go_grown
theorem Qi2 {w wx:World} (hb:Below (rwA w).heap.size (rwA w) wx):(wx.cell? ⟨w.heap.size,0,none⟩=some (.slice none 0 0)∧wx.cell? ⟨w.heap.size+1,0,none⟩=some (.bool false)∧wx.frozen? ⟨w.heap.size,0,none⟩=false∧wx.frozen? ⟨w.heap.size+1,0,none⟩=false)∧Below w.heap.size w wx:=by
 obtain⟨a,b,c,d⟩:=Qhh w;have z:=Qbm w;exact⟨⟨(hb.cell (p:=⟨w.heap.size,0,none⟩) (by simp only;omega)).trans a,(hb.cell (p:=⟨w.heap.size+1,0,none⟩) (by simp only;omega)).trans b,(hb.frozen (p:=⟨w.heap.size,0,none⟩) (by simp only;omega)).trans c,(hb.frozen (p:=⟨w.heap.size+1,0,none⟩) (by simp only;omega)).trans d⟩,Qc (Dd w) hb⟩
theorem XL {w wx:World} (h:Below w.heap.size w wx) (p o:Nat) (u:Value) (hp:w.heap.size≤p):Below w.heap.size w (wx.setCell ⟨p,o,none⟩ u):=h.trans ((Below.refl _ _).setCell hp u)
theorem Ea {p q:Nat} {w:World} {x:Value} {y:Bool} (k1:w.cell? ⟨p,0,none⟩=some x) (k2:w.cell? ⟨q,0,none⟩=some (.bool y)):(w.setCell ⟨p,0,none⟩ (.slice none 0 0)).cell? ⟨p,0,none⟩=some (.slice none 0 0)∧((w.setCell ⟨p,0,none⟩ (.slice none 0 0)).setCell ⟨q,0,none⟩ (.bool false)).cell? ⟨q,0,none⟩=some (.bool false):=by
 refine⟨World.cell?_setCell_same _ _ _ k1,?_⟩;by_cases e:q=p
 ·subst e;exact World.cell?_setCell_same _ _ _ (World.cell?_setCell_same _ _ _ k1)
 ·exact World.cell?_setCell_same _ _ _ ((World.cell?_setCell_other _ _ _ _ (fun e9=>by injection e9 with e1;exact e e1.symm)).trans k2)
def Qt0 (l:List UInt8) (w:World) (e:Ending) (w':World):Prop:=Below w.heap.size w w'∧((rwF l=none∧e= .returned (.tuple #[.slice none 0 0,.bool false]))∨ ∃out v ys,rwF l=some out∧e= .returned (.tuple #[v,.bool true])∧w'.ownsRow w.heap.size 201 14 v out.length ys∧FnPart w' w.heap.size ys (ouF out) out.length∧KDR ys out.length∧(∀x∈out,smF x)∧out.length≤1000)
theorem Qhs {W:World} {B:Nat} {v:Value} {ws:List (List UInt8)} (h:W.ownsRow B 9 1 v ws.length (pcV ws)) (hl:ws.length≤1000): ∃A cap,v= .slice A ws.length cap∧PcRow W A ws:=by
 obtain⟨A,cap,rfl,_,hc⟩:=Qo h;refine⟨A,cap,rfl,hl,fun i hi=> ?_⟩;obtain⟨g,e,_,hlt,d,_⟩:=hc i (by omega);cases e
 refine⟨g,0,rfl,hlt,?_⟩;rw [Nat.zero_add,d];unfold pcV;rw [List.getElem?_map,List.getD_eq_getElem?_getD,List.getElem?_eq_getElem hi];rfl
theorem UV (s:ByteArray) (w:World) (hs:s.size≤1000) (hg:GI w):Calls Tryz.prog 247 #[.string s] w (Qt0 s.data.toList w):=by
 have HG:Hid (GI (rwA w)):=hg.below (Dd w);have HSZ:Hid (s.size≤1000):=hs;obtain⟨l,HL⟩: ∃l,Hid (s.data.toList=l):=⟨_,rfl⟩;have HLL:Hid (l.length≤1000):=by show _≤_;rw [←HL.out];exact hs
 rw [HL.out];clear hg;have hmf: ∀(fn:Fn) (first cap:Array Value) (w:World),(Instr.makeFunc fn first cap).run Tryz.prog w= .ok (.func fn first cap) w:=fun _ _ _ _=>rfl;go_enter_defers Tryz.func247,Tryz.ntmps247
 go_wp2_with fail
 have h1:=Oh s (rwA w) HSZ.out HG.out.gt.ot;rw [HL.out]at h1;refine h1.mono ?_;clear h1;rintro e w1 ⟨(⟨ws,v0,htk,rfl,hown⟩ | ⟨htk,rfl⟩),hb1⟩;rotate_left
 ·have HR:Hid (rwF l=none):=Qok HLL.out htk;have HB1:Hid (Below (rwA w).heap.size (rwA w) w1):=hb1;clear htk hb1;go_wp2_with fail
  obtain⟨⟨k1,k2,k3,k4⟩,k5⟩:=Qi2 HB1.out;obtain⟨c1,c2⟩:=Ea k1 k2;refine leaves_cons (f:=285) (args:= #[.pointer (some ⟨w.heap.size,0,none⟩),.pointer (some ⟨w.heap.size+1,0,none⟩)]) (by simp) (by simp [go_sem]) ?_;refine(Ng w.heap.size (w.heap.size+1) _ _ _ _ [] _ k1 k2 k3 k4 (by omega)).mono ?_;rintro e u' w'' ⟨rfl,rfl,rfl⟩;simp [Leaves,settle,results,Tryz.results247,go_sem,c1,c2];exact⟨XL (XL k5 _ _ _ (Nat.le_refl _)) _ _ _ (Nat.le_succ _),Or.inl ⟨HR.out,rfl⟩⟩
 obtain⟨A,cap,rfl,hpc⟩:=Qhs hown (Nat.le_trans (Nf _ _ _ htk) HLL.out);have HPC:Hid (PcRow w1 A ws):=hpc;have HTX:Hid (Txt ws (fun k=>txt k l)):=Qr2 htk HLL.out;have HB1:Hid (Below (rwA w).heap.size (rwA w) w1):=hb1;have HG1:=hd (HG.out.below hb1)
 have HST:Hid (RdI w1 (fun _=>False) (w1.alloc (.cells #[.slice A ws.length cap,.int .i64 0,.slice none 0 0] 292)) w1.heap.size A cap ws 0 (.slice none 0 0) (w1.heap.size+1) []):=
  ⟨⟨Nat.zero_le _,⟨by simp,by simp,by simp⟩,by simp,by simp⟩,hpc,HG1.out,by go_grown,Nat.le_refl _,Nat.lt_succ_self _,by simp,fun b hb=>hb.elim,fun x hx=>(by cases hx),[],⟨rfl,Or.inl ⟨rfl,rfl⟩⟩,fun i hi=>absurd hi (Nat.not_lt_zero _),fun i j hi=>absurd hi (Nat.not_lt_zero _),fun i hi=>absurd hi (Nat.not_lt_zero _)⟩
 have HFW:Hid (ws.length≤1000):=HTX.out.few;obtain⟨y,HY⟩: ∃y,Hid (PB RF 1 1 0 [] l []=y):=⟨_,rfl⟩;have HRW:Hid (rwF l=rwE y):=by show _=_;unfold rwF;rw [HY.out]
 clear hown hpc hb1 htk;go_wp2_with fail
 have h2:=Qle w1 w1.heap.size A cap ws (fun k=>txt k l) (w1.heap.size+1) HTX.out (fun _=>False) _ 0 _ [] 1 HST.out (Nat.zero_le _) (by omega) (by omega) (by have:=HFW.out;omega);simp only [txt]at h2;rw [HY.out]at h2;refine h2.mono ?_;clear h2;rintro e w2 (⟨x,k2,v2,out2,e2,rfl,hs2,hk2,hl2⟩ | ⟨e2,rfl,hf2⟩);rotate_left
 ·have HR:Hid (rwF l=none):=by show _=_;rw [HRW.out,e2];rfl
  have HB2:=hd (Qc HB1.out (Nm hf2));clear e2 hf2;go_wp2_with fail
  obtain⟨⟨k1,k2,k3,k4⟩,k5⟩:=Qi2 HB2.out;obtain⟨c1,c2⟩:=Ea k1 k2;refine leaves_cons (f:=285) (args:= #[.pointer (some ⟨w.heap.size,0,none⟩),.pointer (some ⟨w.heap.size+1,0,none⟩)]) (by simp) (by simp [go_sem]) ?_;refine(Ng w.heap.size (w.heap.size+1) _ _ _ _ [] _ k1 k2 k3 k4 (by omega)).mono ?_;rintro e u' w'' ⟨rfl,rfl,rfl⟩;simp [Leaves,settle,results,Tryz.results247,go_sem,c1,c2];exact⟨XL (XL k5 _ _ _ (Nat.le_refl _)) _ _ _ (Nat.le_succ _),Or.inl ⟨HR.out,rfl⟩⟩
 have HS2:Hid (SI w1 (fun _=>False) (w1.alloc (.cells #[.slice A ws.length cap,.int .i64 0,.slice none 0 0] 292)) (.slice none 0 0) w1.heap.size A cap ws (w1.heap.size+1) w2 k2 v2 out2):=hs2;have HO2:Hid (out2.length≤1000):=by show _≤_;have a1:=hs2.st.ri.1;have a2:=HFW.out;simp only [List.length_nil]at hl2;omega
 have HE2:Hid (rwF l=rwE (some (x,sb (txt k2 l),out2))):=by show _=_;rw [HRW.out,e2]
 have HPK2:Hid (pk (txt k2 l)=Zl ws k2):=HTX.out.tp k2 hs2.st.ri.1;clear e2 hs2 hk2 hl2;go_wp2_with fail
 refine(Va (m:=0) HS2.out (by omega)).mono ?_;rintro _ w3 ⟨rfl,hs3⟩;have HS3:Hid (SI w1 (fun _=>False) (w1.alloc (.cells #[.slice A ws.length cap,.int .i64 0,.slice none 0 0] 292)) (.slice none 0 0) w1.heap.size A cap ws (w1.heap.size+1) w3 k2 v2 out2):=hs3;have HB3:=hd (Qc HB1.out (Nm hs3.fr));clear hs3;rw [Nat.add_zero];obtain⟨q,HQ⟩: ∃q,Hid (Zl ws k2=q):=⟨_,rfl⟩
 rw [HQ.out];obtain⟨b,HBQ⟩: ∃b,Hid (bs q=b):=⟨_,rfl⟩;rw [HBQ.out];by_cases hq:q= []
 ·have hbe:b.toList.isEmpty=true:=by rw [←HBQ.out,ByteArray.toList_eq,hq];rfl
  have HSB:Hid (sb (txt k2 l)= []):=by
   show _=_;rcases Nat.lt_or_ge k2 ws.length with h9 | h9
   ·exact absurd (by rw [HQ.out];exact hq) (HTX.out.ne k2 h9)
   ·have h8:k2=ws.length:=Nat.le_antisymm HS3.out.st.ri.1 h9;rw [h8];exact HTX.out.fin
  have HR:Hid (rwF l=some out2):=by show _=_;rw [HE2.out];exact Qfk HSB.out
  obtain⟨ys,hown,hpart,hkd,_⟩:=HS3.out.st.own;obtain⟨A2,cp2,rfl,_,_⟩:=Qo hown;have HOW:Hid (w3.ownsRow (w1.heap.size+1) 201 14 (.slice A2 out2.length cp2) out2.length ys):=hown;have HPT:Hid (FnPart w3 (w1.heap.size+1) ys (ouF out2) out2.length):=hpart;have HKD:Hid (KDR ys out2.length):=hkd;have HSM:Hid (∀x∈out2,smF x):=HS3.out.st.sm;obtain⟨_,⟨d0,d1,d2⟩,g1,g2⟩:=HS3.out.st.ri
  obtain⟨⟨k1,k2',k3,k4⟩,k5⟩:=Qi2 HB3.out;have k6:(w3.setCell ⟨w.heap.size,0,none⟩ (.slice A2 out2.length cp2)).cell? ⟨w.heap.size+1,0,none⟩=some (.bool false):=(World.cell?_setCell_other _ _ _ _ (fun e=>by injection e with e1;omega)).trans k2';have k7:(w3.setCell ⟨w.heap.size,0,none⟩ (.slice A2 out2.length cp2)).frozen? ⟨w.heap.size+1,0,none⟩=false:=(World.frozen?_setCell _ _ _ _).trans k4;have K5:Hid (Below w.heap.size w w3):=k5;have HWS:Hid (w.heap.size+1<w1.heap.size+1):=by show _<_;have a1:=HB1.out.size;have a2:=Qbm w;omega
  clear hown hpart hkd k5 hq;go_wp2_with fail
  refine leaves_cons (f:=285) (args:= #[.pointer (some ⟨w.heap.size,0,none⟩),.pointer (some ⟨w.heap.size+1,0,none⟩)]) (by simp) (by simp [go_sem]) ?_;refine(Qol _ _ _).mono ?_;rintro e u' w'' ⟨rfl,rfl,rfl⟩;have c1:((w3.setCell ⟨w.heap.size,0,none⟩ (.slice A2 out2.length cp2)).setCell ⟨w.heap.size+1,0,none⟩ (.bool true)).cell? ⟨w.heap.size,0,none⟩=some (.slice A2 out2.length cp2):=(World.cell?_setCell_other _ _ _ _ (fun e=>by injection e with e1;omega)).trans (World.cell?_setCell_same _ _ _ k1);have c2:((w3.setCell ⟨w.heap.size,0,none⟩ (.slice A2 out2.length cp2)).setCell ⟨w.heap.size+1,0,none⟩ (.bool true)).cell? ⟨w.heap.size+1,0,none⟩=some (.bool true):=World.cell?_setCell_same _ _ _ k6;simp [Leaves,settle,results,Tryz.results247,go_sem,c1,c2];refine⟨XL (XL K5.out _ _ _ (Nat.le_refl _)) _ _ _ (Nat.le_succ _),Or.inr ⟨out2,_,ys,HR.out,rfl,?_,fun i hi=> ?_,HKD.out,HSM.out,HO2.out⟩⟩
  ·exact Yv (ownsRow_setCell_below (ownsRow_setCell_below HOW.out (by have:=HWS.out;simp only;omega) _) HWS.out _) (by have:=HWS.out;omega)
  ·obtain⟨KA,kc,p1,p2⟩:=HPT.out i hi;exact⟨KA,kc,p1,Yv (ownsRow_setCell_below (ownsRow_setCell_below p2 (by have:=HWS.out;simp only;omega) _) HWS.out _) (by have:=HWS.out;omega)⟩
 ·have hbe:b.toList.isEmpty=false:=by
   rw [←HBQ.out,ByteArray.toList_eq];show q.isEmpty=false;cases hz:q with
   | nil=>exact absurd hz hq
   | cons a t=>rfl
  have HR:Hid (rwF l=none):=by
   show _=_;rw [HE2.out];refine Qeo (fun e=>hq ?_);rw [←HQ.out,←HPK2.out];exact(ET e).1
  clear hq;go_wp2_with fail
  refine(Zn _).mono ?_;rintro _ w4 ⟨rfl,hw4⟩;obtain rfl:=hw4.symm;clear hw4;go_wp2_with fail
  obtain⟨⟨k1,k2,k3,k4⟩,k5⟩:=Qi2 HB3.out;obtain⟨c1,c2⟩:=Ea k1 k2;refine leaves_cons (f:=285) (args:= #[.pointer (some ⟨w.heap.size,0,none⟩),.pointer (some ⟨w.heap.size+1,0,none⟩)]) (by simp) (by simp [go_sem]) ?_;refine(Ng w.heap.size (w.heap.size+1) _ _ _ _ [] _ k1 k2 k3 k4 (by omega)).mono ?_;rintro e u' w'' ⟨rfl,rfl,rfl⟩;simp [Leaves,settle,results,Tryz.results247,go_sem,c1,c2];exact⟨XL (XL k5 _ _ _ (Nat.le_refl _)) _ _ _ (Nat.le_succ _),Or.inl ⟨HR.out,rfl⟩⟩
theorem Qlk {o:List FN} (h:Zk (ouF o) o.length=true):good o=true:=by
 unfold Zk NX at h;simp only [Bool.and_eq_true,List.all_eq_true,List.mem_range,decide_eq_true_eq]at h;unfold good;rw [Bool.and_eq_true];refine⟨decide_eq_true h.1.1.1.1.2,List.all_eq_true.2 fun x hx=> ?_⟩;obtain⟨i,hi,rfl⟩:=List.getElem_of_mem hx;have h9:=h.1.1.1.2 i hi
 unfold ouF at h9;rw [List.getD_eq_getElem?_getD,List.getElem?_eq_getElem hi]at h9;exact h9
theorem Qnp {s:ByteArray} (h:QE s=true):rdF s=match rwF s.data.toList with
  | some o=>if Zk (ouF o) o.length=true then some o else none
  | none=>none:=by
 unfold rdF rwF;rw [h,if_pos rfl];obtain⟨y,hy⟩: ∃y,PB RF 1 1 0 [] s.data.toList []=y:=⟨_,rfl⟩;rw [hy];cases y with
 | none=>rfl
 | some z=>
  obtain⟨x,l,o⟩:=z;by_cases hl:l= []
  ·rw [Qfk hl];simp only;by_cases hf:Zk (ouF o) o.length=true
   ·rw [if_pos hf,Qbt hl (Qlk hf) hf]
   ·rw [if_neg hf,Hk (fun e=>hf e.2)]
  ·rw [Qeo hl,Hk (fun e=>hl e.1)]
theorem Qo1 {s:ByteArray} (h:QE s=true) (hr:rwF s.data.toList=none):rdF s=none:=by
 rw [Qnp h,hr]
theorem Qse {s:ByteArray} {o:List FN} (h:QE s=true) (hr:rwF s.data.toList=some o) (hf:Zk (ouF o) o.length=true):rdF s=some o:=by
 rw [Qnp h,hr];exact if_pos hf
theorem Qsg {s:ByteArray} {o:List FN} (h:QE s=true) (hr:rwF s.data.toList=some o) (hf:Zk (ouF o) o.length=false):rdF s=none:=by
 rw [Qnp h,hr];exact if_neg (by rw [hf];simp)
def Qt1 (s:ByteArray) (w:World) (e:Ending) (w':World):Prop:=
 Below w.heap.size w w'∧((rdF s=none∧e= .returned (.tuple #[.slice none 0 0,.bool false]))∨ ∃out v ys,rdF s=some out∧e= .returned (.tuple #[v,.bool true])∧w'.ownsRow w.heap.size 201 14 v out.length ys∧FnPart w' w.heap.size ys (ouF out) out.length∧KDR ys out.length)
theorem Qrg {out:List FN} (h: ∀x∈out,smF x) (i:Nat) (hi:i<out.length):(ouF out i).cs.size≤2000∧(ouF out i).kids.length≤2000:=by
 unfold ouF;rw [List.getD_eq_getElem?_getD,List.getElem?_eq_getElem hi,Option.getD_some];exact h _ (List.getElem_mem hi)
theorem Gr (s:ByteArray) (w:World) (hs:s.size≤maxLen) (hg:GI w):Calls Tryz.prog 205 #[.string s] w (Qt1 s w):=by
 have HG:Hid (GI w):=hg;have HS:Hid (s.size≤maxLen):=hs;clear hg;by_cases h200:s.size≤200
 rotate_left
 ·have q1:(200:Int)<(s.size:Int):=by omega
  have HN:Hid (rdF s=none):=Qeq (by unfold QE;rw [decide_eq_false h200];rfl);go_enter Tryz.func205,Tryz.ntmps205;go_wp2_with fail
  refine bodyPost_ret (v:= .tuple #[.slice none 0 0,.bool false]) ?_ rfl ⟨Below.refl _ _,Or.inl ⟨HN.out,rfl⟩⟩;simp (maxDischargeDepth:=9) [results,Tryz.results205,go_sem, *]
 have q1: ¬(200:Int)<(s.size:Int):=by omega
 have q1':decide ((200:Int)<(s.size:Int))=false:=by simpa using q1
 obtain⟨b,HB⟩: ∃b,Hid (Zy s.data.toList=b):=⟨_,rfl⟩;have HRW:Hid (QE s=b):=by show _=_;unfold QE;rw [decide_eq_true h200,HB.out];rfl
 go_enter Tryz.func205,Tryz.ntmps205;go_wp2_with fail
 refine(Jm s _ HS.out).mono ?_;rintro _ w0 ⟨rfl,hw0⟩;obtain rfl:=hw0.symm;clear hw0;rw [HB.out];cases b
 ·have HN:Hid (rdF s=none):=Qeq HRW.out;go_wp2_with fail
  refine bodyPost_ret (v:= .tuple #[.slice none 0 0,.bool false]) ?_ rfl ⟨Below.refl _ _,Or.inl ⟨HN.out,rfl⟩⟩;simp (maxDischargeDepth:=9) [results,Tryz.results205,go_sem, *]
 go_wp2_with fail
 refine(UV s _ (by omega) HG.out).mono ?_;rintro _ w1 ⟨hb1,(⟨hr,rfl⟩ | ⟨out,v,ys,hr,rfl,ho,hp,hkd,hsm,hol⟩)⟩
 ·have HN:Hid (rdF s=none):=Qo1 HRW.out hr;have HB1:Hid (Below w.heap.size w w1):=hb1;clear hb1 hr;go_wp2_with fail
  refine bodyPost_ret (v:= .tuple #[.slice none 0 0,.bool false]) ?_ rfl ⟨HB1.out,Or.inl ⟨HN.out,rfl⟩⟩;simp (maxDischargeDepth:=9) [results,Tryz.results205,go_sem, *]
 obtain⟨A,cap,rfl,hfr⟩:=Ju ho hp (fun i hi=>Nat.le_trans (Qrg hsm i hi).1 (by unfold maxLen;omega));have HO:Hid (w1.ownsRow w.heap.size 201 14 (.slice A out.length cap) out.length ys):=ho;have HP:Hid (FnPart w1 w.heap.size ys (ouF out) out.length):=hp;have HKD:Hid (KDR ys out.length):=hkd;have HFR:Hid (FnRow w1 A out.length (ouF out)):=hfr;have HB1:Hid (Below w.heap.size w w1):=hb1;have HR:Hid (rwF s.data.toList=some out):=hr
 have HSM:Hid (∀i,i<out.length→(ouF out i).kids.length≤1048576):=fun i hi=>Nat.le_trans (Qrg hsm i hi).2 (by omega);have HOL:Hid (out.length≤1000):=hol;clear ho hp hkd hfr hb1 hr hsm hol;go_wp2_with fail
 refine(Xe w1 HFR.out (by have:=HOL.out;omega) HSM.out (HG.out.gt.ft.below HB1.out)).mono ?_;rintro _ w2 ⟨rfl,hb2⟩;have HB2:Hid (Below w1.heap.size w1 w2):=hb2;have HBW:=hd (Qc HB1.out hb2);clear hb2;cases hf:Zk (ouF out) out.length
 ·have HN:Hid (rdF s=none):=Qsg HRW.out HR.out hf;go_wp2_with fail
  refine bodyPost_ret (v:= .tuple #[.slice none 0 0,.bool false]) ?_ rfl ⟨HBW.out,Or.inl ⟨HN.out,rfl⟩⟩;simp (maxDischargeDepth:=9) [results,Tryz.results205,go_sem, *]
 ·have HY:Hid (rdF s=some out):=Qse HRW.out HR.out hf;go_wp2_with fail
  refine bodyPost_ret (v:= .tuple #[.slice A out.length cap,.bool true]) ?_ rfl ⟨HBW.out,Or.inr ⟨out,_,ys,HY.out,rfl,Qf HO.out HB2.out,HP.out.below HB2.out,HKD.out⟩⟩;simp (maxDischargeDepth:=9) [results,Tryz.results205,go_sem, *]
end Go.Proofs.YtbdhinckiccniaaGreatDoor
