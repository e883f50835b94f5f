import Derived.Test.YtbdhinckiccniaaGreatDoorMn
import Derived.Test.YtbdhinckiccniaaGreatDoorGae
import Derived.Test.YtbdhinckiccniaaGreatDoorFnDE
import Derived.Test.YtbdhinckiccniaaGreatDoorGzd
import Derived.Test.YtbdhinckiccniaaGreatDoorGab
set_option linter.unusedSimpArgs false
set_option linter.unusedVariables false
set_option maxHeartbeats 8000000
set_option maxRecDepth 100000
namespace Go.Proofs.YtbdhinckiccniaaGreatDoor
open Go.RowKit
def UG (F:Nat→FN) (n:Nat):Bool:=(List.range n).all fun i=>(F i).kids.all fun k=> !(decide ((F k.toNat).k=3)&& !decide ((F i).k=6))
theorem Qgx {F:Nat→FN} {n i:Nat} {k:Int} (hi:i<n) (hk:k∈(F i).kids) (h3:(F k.toNat).k=3) (h6: ¬(F i).k=6):UG F n=false:=by
 unfold UG;rw [List.all_eq_false];refine⟨i,List.mem_range.2 hi,?_⟩;rw [Bool.not_eq_true,List.all_eq_false];exact⟨k,hk,by simp [h3,h6]⟩
theorem Qcw {F:Nat→FN} {n:Nat} (h: ∀i,i<n→ ∀k∈(F i).kids,¬((F k.toNat).k=3∧ ¬(F i).k=6)):UG F n=true:=by
 unfold UG;rw [List.all_eq_true];intro i hi;rw [List.all_eq_true];intro k hk;have:=h i (List.mem_range.1 hi) k hk;by_cases h3:(F k.toNat).k=3
 ·by_cases h6:(F i).k=6
  ·simp [h6]
  ·exact absurd ⟨h3,h6⟩ this
 ·simp [h3]
theorem KJ {A:Option Addr} {n cap:Nat} {F:Nat→FN} (w:World) (HR:Hid (FnRow w A (n+1) F)) (hn:n+1≤60) (hkn: ∀i,i<n+1→(F i).kids.length≤1048576) (HG:Hid (QM (fun j=>(F j).kids) (n+1))):
  Calls Tryz.prog 209 #[.slice A (n+1:Nat) cap] w fun e w'=>e= .returned (.bool (UG F (n+1)&& !decide ((F n).k=3)))∧Below w.heap.size w w':=by
 have HKN:Hid (∀i,i<n+1→(F i).kids.length≤1048576):=hkn;clear hkn;obtain⟨N,HN⟩: ∃N,Hid (n+1=N):=⟨_,rfl⟩;rw [HN.out]at HR HG HKN hn ⊢;go_enter Tryz.func209,Tryz.ntmps209;go_wp2_with fail
 go_loopw [9] (fun i wr=> ∃(k:Nat),k≤N∧i= .int .i64 k∧(∀i,i<k→ ∀x∈(F i).kids,¬((F x.toNat).k=3∧ ¬(F i).k=6))∧Below w.heap.size w wr) (fun i _=>N-(intOf i).toNat)
 case atStart=>exact⟨0,Nat.zero_le _,rfl,fun i hi=>by omega,Below.refl _ _⟩
 case round=>
  obtain⟨k,hk,rfl,hal,hbel⟩:=hrel;have HAL:Hid (∀i,i<k→ ∀x∈(F i).kids,¬((F x.toNat).k=3∧ ¬(F i).k=6)):=hal;clear hal;by_cases hlt:k<N
  ·obtain⟨b,o,KA,kc,rfl,hl,hnd,hki,hs⟩:=HR.out.2 k hlt;obtain⟨c0,c1,c2,c3,c4,c5,c6,c7,c8,c9,c10,c11,c12,c13⟩:=hnd.below hl (W':=wr) hbel;have hll:b<wr.heap.size:=Nat.lt_of_lt_of_le hl hbel.size;obtain⟨ks,HKS⟩: ∃ks,Hid ((F k).kids=ks):=⟨_,rfl⟩;have hkl:=HKN.out k hlt;rw [HKS.out]at c13 hki hkl;have HKI:Hid (IntRow w KA ks):=hki
   obtain⟨kl,HKL⟩: ∃kl,Hid (ks.length=kl):=⟨_,rfl⟩;rw [HKL.out]at c13 hkl;have HB:Hid (Below w.heap.size w wr):=hbel;have HBS:Hid (w.heap.size≤wr.heap.size):=hbel.size;clear hnd hki hbel;have h0:(0:Int)≤(k:Int):=by omega
   have h1:(k:Int)<(N:Int):=by omega
   go_wp2_with fail
   go_loopw [16] (fun j wi=> ∃(t:Nat),t≤kl∧j= .int .i64 t∧(∀s,s<t→ ¬((F (ks.getD s 0).toNat).k=3∧ ¬(F k).k=6))∧Below w.heap.size w wi∧w.heap.size<wi.heap.size∧wr.heap.size<wi.heap.size∧wi.cell? ⟨wr.heap.size,0,none⟩=some (.int .i64 (F k).k)) (fun j _=>kl-(intOf j).toNat)
   case atStart=>exact⟨0,Nat.zero_le _,rfl,fun s hs=>by omega,by have hb:=HB.out;have hbs:=HBS.out;go_grown,by have:=HBS.out;simp;omega,by simp,by simp⟩
   case round=>
    clear c0 c1 c2 c3 c4 c5 c6 c7 c8 c9 c10 c11 c12 c13;obtain⟨t,ht,rfl,hsm,hbi,hz1,hz2,d0⟩:=hrel;have HSM:Hid (∀s,s<t→ ¬((F (ks.getD s 0).toNat).k=3∧ ¬(F k).k=6)):=hsm;clear hsm;have hbis:=hbi.size;have HBI:Hid (Below w.heap.size w wr):=hbi;by_cases hlt':t<kl
    ·have hs:t<ks.length:=by rw [HKL.out];exact hlt'
     obtain⟨b',o',rfl,hl',e1⟩:=HKI.out.2 t hs;rw [←hbi.cell (p:=⟨_,_,none⟩) hl']at e1;have hmem:ks.getD t 0∈ks:=by rw [List.getD_eq_getElem?_getD,List.getElem?_eq_getElem hs];exact List.getElem_mem hs
     have hr:=HG.out k hlt (ks.getD t 0) (by show _∈(F k).kids;rw [HKS.out];exact hmem);obtain⟨a,HA⟩: ∃a:Nat,Hid (ks.getD t 0=(a:Int)):=⟨(ks.getD t 0).toNat,by show _=_;omega⟩;have hai:(a:Int)<(k:Int):=by rw [HA.out]at hr;exact hr.2
     rw [HA.out]at e1;clear hr;obtain⟨b'',o'',KB,kb,eA,hl'',ck,ck0,_⟩:=JA HR.out a (by omega);cases eA
     rw [←hbi.cell (p:=⟨_,_,none⟩) hl'']at ck0;clear ck hbi;have s0:(0:Int)≤(t:Int):=by omega
     have s1:(t:Int)<(kl:Int):=by omega
     have a0:(0:Int)≤(a:Int):=by omega
     have a1:(a:Int)<(N:Int):=by omega
     have lb:b<wr.heap.size:=Nat.lt_of_lt_of_le hl'' hbis;by_cases h3:(F a).k=3
     ·have e3:((F a).k==3)=true:=by simpa using h3
      by_cases h6:(F k).k=6
      ·have e6:((F k).k !=6)=false:=by simpa using h6
       have HSM':Hid (∀s,s<t+1→ ¬((F (ks.getD s 0).toNat).k=3∧ ¬(F k).k=6)):=fun s _ h=>h.2 h6;have H6:Hid ((F k).k=6):=h6;have H3:Hid ((F a).k=3):=h3;clear h6 h3;go_wp2_with fail
       all_goals
        go_roundw
        case rel=>exact⟨t+1,by omega,by go_num,HSM'.out,HBI.out,hz1,hz2,d0⟩
        case measure=>simp [intOf];omega
      ·have e6:((F k).k !=6)=true:=by simpa using h6
       have HF:Hid (UG F (n+1)=false):=Qgx (by rw [HN.out];exact hlt) (by rw [HKS.out];exact hmem) (by rw [HA.out];simpa using h3) h6;have H6:Hid (¬(F k).k=6):=h6;have H3:Hid ((F a).k=3):=h3;clear h6 h3;go_wp2_with fail
       all_goals
        go_ret;exact⟨Qb (by rw [HN.out]at HF;rw [HF.out];rfl),HBI.out⟩
     ·have e3:((F a).k==3)=false:=by simpa using h3
      have HSM':Hid (∀s,s<t+1→ ¬((F (ks.getD s 0).toNat).k=3∧ ¬(F k).k=6)):=fun s hs' h=>by
       by_cases e:s=t
       ·subst e;rw [HA.out]at h;exact h3 (by simpa using h.1)
       ·exact HSM.out s (by omega) h
      have H3:Hid (¬(F a).k=3):=h3;clear h3;go_wp2_with fail
      all_goals
       go_roundw
       case rel=>exact⟨t+1,by omega,by go_num,HSM'.out,HBI.out,hz1,hz2,d0⟩
       case measure=>simp [intOf];omega
    ·have s1: ¬(t:Int)<(kl:Int):=by omega
     obtain rfl:t=kl:=by omega
     have HAL':Hid (∀i,i<k+1→ ∀x∈(F i).kids,¬((F x.toNat).k=3∧ ¬(F i).k=6)):=fun i hi x hx=>by
      by_cases e:i=k
      ·subst e;rw [HKS.out]at hx;obtain⟨s,hs1,hs2⟩:=List.getElem_of_mem hx;have h9:=HSM.out s (by rw [←HKL.out];exact hs1);rw [List.getD_eq_getElem?_getD,List.getElem?_eq_getElem hs1]at h9;rw [←hs2];exact h9
      ·exact HAL.out i (by omega) x hx
     clear hbi;go_wp2_with fail
     go_roundw
     case rel=>exact⟨k+1,by omega,by go_num,HAL'.out,HBI.out⟩
     case measure=>simp [intOf];omega
  ·have h1: ¬(k:Int)<(N:Int):=by omega
   obtain rfl:k=N:=by omega
   have HY:Hid (UG F k=true):=Qcw HAL.out;obtain⟨b,o,KA,kc,rfl,hl,ck,ck0,_⟩:=JA HR.out n (by have:=HN.out;omega);rw [←hbel.cell (p:=⟨_,_,none⟩) hl]at ck0;have n0:(0:Int)≤(n:Int):=by omega
   have n1:(n:Int)<(k:Int):=by have:=HN.out;omega
   have n2:(k:Int)-1=(n:Int):=by have:=HN.out;omega
   have HE:Hid (((F n).k !=3)=(UG F k&& !decide ((F n).k=3))):=by show _=_;rw [HY.out,Bool.eq_iff_iff];simp
   have HB:Hid (Below w.heap.size w wr):=hbel;clear hbel ck;go_wp2_with fail
   go_ret;exact⟨Qb HE.out,HB.out⟩
def XP (G:Nat→List Int) (n:Nat):Bool:=(XC G (fun _=>0) n n).isSome
def JI (arr:Nat→Int) (n:Nat):List Value:=(List.range n).map fun j=> .int .i64 (arr j)
theorem Vq (arr:Nat→Int) (n:Nat):(JI arr n).length=n:=by simp [JI]
theorem XY (arr:Nat→Int) (n j:Nat) (h:j<n):(JI arr n)[j]? =some (.int .i64 (arr j)):=by
 simp [JI,h]
theorem Qhl (arr:Nat→Int) (n a:Nat) (x:Int) (h:a<n):(JI arr n).set a (.int .i64 x)=JI (fun j=>if j=a then x else arr j) n:=by
 apply List.ext_getElem?;intro j;by_cases hj:j<n
 ·by_cases e:a=j
  ·subst e;rw [List.getElem?_set_self (by rw [Vq];exact h),XY _ _ _ h,if_pos rfl]
  ·rw [List.getElem?_set_ne e,XY _ _ _ hj,XY _ _ _ hj,if_neg (fun h=>e h.symm)]
 ·rw [List.getElem?_eq_none (by simp [Vq];omega),List.getElem?_eq_none (by simp [Vq];omega)]
theorem Qdj (n:Nat):List.replicate n (Value.int .i64 0)=JI (fun _=>0) n:=by
 apply List.ext_getElem?;intro j;by_cases hj:j<n
 ·rw [XY _ _ _ hj,List.getElem?_replicate,if_pos hj]
 ·rw [List.getElem?_eq_none (by simp;omega),List.getElem?_eq_none (by simp [Vq];omega)]
def UH (ks:List Int) (arr:Nat→Int) (d:Int) (u:Nat):Nat→Int:=fun j=>if(j:Int)∈ks.take u then d else arr j
theorem Qix {ks:List Int} {arr:Nat→Int} {d:Int} {u a:Nat} (h:u<ks.length) (ha:ks.getD u 0=(a:Int)):(fun j=>if j=a then d else UH ks arr d u j)=UH ks arr d (u+1):=by
 funext j
 unfold UH
 have e:ks.take (u+1)=ks.take u++ [(a:Int)]:=by
  rw [List.take_succ_eq_append_getElem h,←ha,List.getD_eq_getElem?_getD,List.getElem?_eq_getElem h];rfl
 rw [e];by_cases h1:j=a
 ·rw [if_pos h1,if_pos (by subst h1;simp)]
 ·rw [if_neg h1];by_cases h2:(j:Int)∈ks.take u
  ·rw [if_pos h2,if_pos (List.mem_append_left _ h2)]
  ·rw [if_neg h2,if_neg];intro h3;rcases List.mem_append.1 h3 with h3 | h3
   ·exact h2 h3
   ·simp at h3;omega
theorem Qhp {G:Nat→List Int} {n s:Nat} {arr:Nat→Int} (hs:s<n) (h:XC G (fun _=>0) n (n-(s+1))=some arr) (h12:12≤arr s):XP G n=false:=by
 have e:n=(n-(s+1))+(s+1):=by omega
 rw [XP];conv=>lhs;rw [show XC G (fun _=>0) n n=XC G (fun _=>0) n ((n-(s+1))+(s+1)) by rw [←e]]
 rw [Vb,h];show(XC G arr (n-(n-(s+1))) (s+1)).isSome=false;rw [show n-(n-(s+1))=s+1 by omega,XC,show s+1-1=s by omega,Me,if_pos h12];rfl
theorem Qho {G:Nat→List Int} {n s:Nat} {arr:Nat→Int} (hs:s<n) (h:XC G (fun _=>0) n (n-(s+1))=some arr) (h12: ¬12≤arr s):XC G (fun _=>0) n (n-s)=some (fun j:Nat=>if(j:Int)∈G s then arr s+1 else arr j):=by
 rw [show n-s=(n-(s+1))+1 by omega,Vb,h];show XC G arr (n-(n-(s+1))) 1=_;rw [show n-(n-(s+1))=s+1 by omega,XC,show s+1-1=s by omega,Me,if_neg h12];rfl
theorem Qkx:(Tryz.prog.info? 3).map (fun i=>(i.zero,i.size,i.bytes))=some (some (.int .i64 0),1,8):=by kernel_rfl
theorem Uo {A:Option Addr} {n cap:Nat} {F:Nat→FN} (w:World) (HR:Hid (FnRow w A n F)) (hn:n≤60) (hkn: ∀i,i<n→(F i).kids.length≤1048576) (HG:Hid (QM (fun j=>(F j).kids) n)):
  Calls Tryz.prog 210 #[.slice A n cap] w fun e w'=>e= .returned (.bool (XP (fun j=>(F j).kids) n))∧Below w.heap.size w w':=by
 have HKN:Hid (∀i,i<n→(F i).kids.length≤1048576):=hkn;clear hkn;obtain⟨i0,hi,iz0,iz1,iz2⟩:=info_parts Qkx;go_enter Tryz.func210,Tryz.ntmps210;go_wp2_with (refine wpList_make_full _ rfl _ _ 218 rfl w.heap.size 3 i0 _ 1 Tryz.underlying218 hi iz0 iz1 _ _ _ _ n rfl rfl rfl rfl ?m1 ?m2 ?m3 ?_)
 case m1=>rw [iz2];omega
 case m2=>unfold maxLen;omega
 case m3=>exact Nat.le_refl _
 intro w1 hown hgrow;have hg1:Below w.heap.size w w1:=(Below.refl _ _).grown hgrow (Nat.le_refl _) (fun k hk=>by cases hk)
 have HO:Hid (w1.ownsRow w.heap.size 3 1 (.slice (some ⟨w.heap.size,0,none⟩) n n) n (JI (fun _=>0) n)):=by
  show World.ownsRow _ _ _ _ _ _ _;rw [←Qdj,←toList_madeCells_one,←Nat.mul_one n];simpa using hown
 clear hgrow hown;go_wp2_with fail
 go_loopw [4] (fun i wr=> ∃(t:Nat) (arr:Nat→Int),t≤n∧i= .int .i64 ((t:Int)-1)∧XC (fun j=>(F j).kids) (fun _=>0) n (n-t)=some arr∧(∀j,0≤arr j∧arr j≤12)∧wr.ownsRow w.heap.size 3 1 (.slice (some ⟨w.heap.size,0,none⟩) n n) n (JI arr n)∧Below w.heap.size w wr) (fun i _=>(intOf i+1).toNat)
 case atStart=>exact⟨n,fun _=>0,Nat.le_refl _,rfl,by rw [Nat.sub_self];rfl,fun j=>by show(0:Int)≤0∧(0:Int)≤12;omega,HO.out,hg1⟩
 case round=>
  clear HO hg1;obtain⟨t,arr,ht,rfl,hpr,hbd,hown,hbel⟩:=hrel;have HPR:Hid (XC (fun j=>(F j).kids) (fun _=>0) n (n-t)=some arr):=hpr;have HBD:Hid (∀j,0≤arr j∧arr j≤12):=hbd;have HO:Hid (wr.ownsRow w.heap.size 3 1 (.slice (some ⟨w.heap.size,0,none⟩) n n) n (JI arr n)):=hown;have HB:Hid (Below w.heap.size w wr):=hbel;clear hpr hbd hown
  match t,ht,HPR with
  | 0,ht,HPR=>
   have HE:Hid (XP (fun j=>(F j).kids) n=true):=by show _=_;rw [XP,show XC (fun j=>(F j).kids) (fun _=>0) n n=some arr by simpa using HPR.out];rfl
   clear hbel;go_wp2_with fail
   go_ret;exact⟨Qb HE.out.symm,HB.out⟩
  | s+1,ht,HPR=>
   obtain⟨b,o,KA,kc,rfl,hl,ck,ck0,hki⟩:=JA HR.out s (by omega);rw [←hbel.cell (p:=⟨_,_,none⟩) hl]at ck;obtain⟨ks,HKS⟩: ∃ks,Hid ((F s).kids=ks):=⟨_,rfl⟩;have hkl:=HKN.out s (by omega);rw [HKS.out]at ck hki hkl;have HKI:Hid (IntRow w KA ks):=hki;obtain⟨kl,HKL⟩: ∃kl,Hid (ks.length=kl):=⟨_,rfl⟩
   rw [HKL.out]at ck hkl;clear hki ck0 hbel;obtain⟨A',cap',e,_,hc⟩:=Qo HO.out;cases e
   obtain⟨g',e',_,hg',d0,f0⟩:=hc s (by omega);cases e'
   rw [XY _ _ _ (by omega)]at d0;clear hc;obtain⟨x,HX⟩: ∃x,Hid (arr s=x):=⟨_,rfl⟩;rw [HX.out]at d0;have hx0:=HBD.out s;rw [HX.out]at hx0;obtain⟨hx1,hx2⟩:=hx0
   have s0:(0:Int)≤(s:Int):=by omega
   have s1:(s:Int)<(n:Int):=by omega
   have s2:(s:Int)+1-1=(s:Int):=by omega
   by_cases h12:12≤x
   ·have HE:Hid (XP (fun j=>(F j).kids) n=false):=Qhp (by omega) HPR.out (by rw [HX.out];exact h12);go_wp2_with fail
    go_ret;exact⟨Qb HE.out.symm,HB.out⟩
   have HST:Hid (XC (fun j=>(F j).kids) (fun _=>0) n (n-s)=some (UH ks arr (x+1) kl)):=by
    show _=_;rw [Qho (by omega) HPR.out (by rw [HX.out];exact h12)];congr 1
    funext j
    show(if(j:Int)∈(F s).kids then arr s+1 else arr j)=_;rw [HKS.out,HX.out,UH,List.take_of_length_le (by rw [HKL.out];exact Nat.le_refl _)]
   have HSN:Hid (∀u,(s:Int)∉ks.take u):=fun u hm=>by
    have:=HG.out s (by omega) (s:Int) (by show _∈(F s).kids;rw [HKS.out];exact List.mem_of_mem_take hm);omega
   go_wp2_with fail
   go_loopw [28] (fun j wi=> ∃(u:Nat),u≤kl∧j= .int .i64 u∧wi.ownsRow w.heap.size 3 1 (.slice (some ⟨w.heap.size,0,none⟩) n n) n (JI (UH ks arr (x+1) u) n)∧Below w.heap.size w wi) (fun j _=>kl-(intOf j).toNat)
   case atStart=>exact⟨0,Nat.zero_le _,rfl,by rw [show UH ks arr (x+1) 0=arr by funext j;simp [UH]];exact HO.out,HB.out⟩
   case round=>
    clear d0 f0 hg' HO HB ck;obtain⟨u,hu,rfl,hown,hbi⟩:=hrel;have HO:Hid (wr.ownsRow w.heap.size 3 1 (.slice (some ⟨w.heap.size,0,none⟩) n n) n (JI (UH ks arr (x+1) u) n)):=hown;have HB:Hid (Below w.heap.size w wr):=hbi;clear hown;by_cases hlt:u<kl
    ·have hs:u<ks.length:=by rw [HKL.out];exact hlt
     obtain⟨b',o',rfl,hl',e1⟩:=HKI.out.2 u hs;rw [←hbi.cell (p:=⟨_,_,none⟩) hl']at e1;have hmem:ks.getD u 0∈ks:=by rw [List.getD_eq_getElem?_getD,List.getElem?_eq_getElem hs];exact List.getElem_mem hs
     have hr:=HG.out s (by omega) (ks.getD u 0) (by show _∈(F s).kids;rw [HKS.out];exact hmem);obtain⟨a,HA⟩: ∃a:Nat,Hid (ks.getD u 0=(a:Int)):=⟨(ks.getD u 0).toNat,by show _=_;omega⟩;have hai:(a:Int)<(s:Int):=by rw [HA.out]at hr;exact hr.2
     rw [HA.out]at e1;clear hr hmem hbi;obtain⟨A',cap',e,_,hc⟩:=Qo HO.out;cases e
     obtain⟨g',e',_,hg',d0,f0⟩:=hc s (by omega);cases e'
     obtain⟨g',e',_,_,d1,f1⟩:=hc a (by omega);cases e'
     rw [XY _ _ _ (by omega)]at d0 d1;have ex:UH ks arr (x+1) u s=x:=by rw [UH,if_neg (HSN.out u),HX.out]
     rw [ex]at d0;obtain⟨y,HY⟩: ∃y,Hid (UH ks arr (x+1) u a=y):=⟨_,rfl⟩;rw [HY.out]at d1;clear hc ex
     have HT:Hid ((wr.setCell ⟨w.heap.size,a,none⟩ (.int .i64 (x+1))).ownsRow w.heap.size 3 1 (.slice (some ⟨w.heap.size,0,none⟩) n n) n (JI (UH ks arr (x+1) (u+1)) n)∧wr.grownBy (wr.setCell ⟨w.heap.size,a,none⟩ (.int .i64 (x+1))) (some w.heap.size)):=by
      have h9:=HO.out.stored a (.int .i64 (x+1));rw [Qhl _ _ _ _ (by omega),Qix hs HA.out]at h9;exact h9
     have u0:(0:Int)≤(u:Int):=by omega
     have u1:(u:Int)<(kl:Int):=by omega
     have a0:(0:Int)≤(a:Int):=by omega
     have a1:(a:Int)<(n:Int):=by omega
     clear HO;go_wp2_with fail
     all_goals
      go_roundw
      case rel=>exact⟨u+1,by omega,by go_num,HT.out.1,HB.out.grown HT.out.2 HB.out.size (fun k hk=>by cases hk;exact Nat.le_refl _)⟩
      case measure=>simp [intOf];omega
    ·have u1: ¬(u:Int)<(kl:Int):=by omega
     obtain rfl:u=kl:=by omega
     clear hbi;go_wp2_with fail
     go_roundw
     case rel=>exact⟨s,UH ks arr (x+1) u,by omega,by first | rfl | (congr 1;omega),HST.out,fun j=>by
      unfold UH;split
      ·omega
      ·exact HBD.out j,HO.out,HB.out⟩
     case measure=>first | (simp [intOf];done) | (simp [intOf];omega)
def QN (x:FN):Bool:=QG x.k x.o x.ck x.cn x.cs x.ac x.ar x.af x.ag x.bc x.br x.bf x.bg x.kids.length
def NX (F:Nat→FN) (n:Nat):Bool:=(List.range n).all fun i=>QN (F i)
def Zk (F:Nat→FN) (n:Nat):Bool:=decide (1≤n∧n≤60)&&NX F n&&YR (fun j=>(F j).kids) n&&(UG F n&& !decide ((F (n-1)).k=3))&&XP (fun j=>(F j).kids) n
theorem Qtw {f:Nat→Bool} {n k:Nat} (hk:k<n) (h:f k=false):(List.range n).all f=false:=by
 rw [List.all_eq_false];exact⟨k,List.mem_range.2 hk,by simp [h]⟩
theorem Qg1 {f:Nat→Bool} {n:Nat} (h: ∀i,i<n→f i=true):(List.range n).all f=true:=by
 rw [List.all_eq_true];exact fun i hi=>h i (List.mem_range.1 hi)
theorem Dt {G:Nat→List Int} {n:Nat} (h:YR G n=true): ∃x,stk G n=some [x]:=by
 unfold YR at h;split at h
 ·rename_i s hs
  have hl:=of_decide_eq_true h;match s,hl with
  | [x],_=>exact⟨x,hs⟩
 ·cases h
theorem JZ {G:Nat→List Int} {n:Nat} (h:YR G n=true):QM G n:=by
 obtain⟨x,hx⟩:=Dt h;exact(BT G n _ hx).2
theorem MF (G:Nat→List Int) (n:Nat):YR G (n+1)=decide (ZN G n=0):=by
 rw [Bool.eq_iff_iff,decide_eq_true_eq];constructor
 ·intro h;exact(Qbh G n).1 (Dt h)
 ·intro h;obtain⟨x,hx⟩:=(Qbh G n).2 h;rw [MG hx];rfl
theorem MR {G:Nat→List Int} {n:Nat} (hG:QM G (n+1)) (ht:ZN G n=0):XP G (n+1)=decide (ZJ G n≤12):=by
 rw [Bool.eq_iff_iff,decide_eq_true_eq,XP,Option.isSome_iff_exists];exact Qhq hG ht
theorem Hr {F:Nat→FN} {n:Nat} (h:n<1∨60<n):Zk F n=false:=by
 have e:decide (1≤n∧n≤60)=false:=by simp;omega
 simp [Zk,e]
theorem Qcj {F:Nat→FN} {n k:Nat} (hk:k<n) (h:QN (F k)=false):Zk F n=false:=by
 have e:NX F n=false:=Qtw hk h;simp [Zk,e]
theorem Qlj {F:Nat→FN} {n:Nat} (h:YR (fun j=>(F j).kids) n=false):Zk F n=false:=by simp [Zk,h]
theorem Qqn {F:Nat→FN} {n:Nat} (h:UG F n=false):Zk F n=false:=by simp [Zk,h]
theorem Qci {F:Nat→FN} {n:Nat} (h1:1≤n) (h2:n≤60) (hn:NX F n=true):Zk F n=(YR (fun j=>(F j).kids) n&&(UG F n&& !decide ((F (n-1)).k=3))&&XP (fun j=>(F j).kids) n):=by
 simp [Zk,h1,h2,hn]
theorem Qie (x:FN) {KA:Option Addr} {kc:Nat} (w:World) (hs:x.cs.size≤maxLen) (hft:FT w):
  Calls Tryz.prog 207 #[.agg #[.int .i64 x.k,.int .i64 x.o,.int .i64 x.ck,.int .i64 x.cn,.string x.cs,.int .i64 x.ac,.int .i64 x.ar,.bool x.af,.bool x.ag,.int .i64 x.bc,.int .i64 x.br,.bool x.bf,.bool x.bg,.slice KA x.kids.length kc]] w fun e w'=>e= .returned (.bool (QN x))∧Below w.heap.size w w':=by
 obtain⟨k,o,ck,cn,cs,ac,ar,af,ag,bc,br,bf,bg,ks⟩:=x;show Calls _ _ _ _ fun e w'=>e= .returned (.bool (QG k o ck cn cs ac ar af ag bc br bf bg ks.length))∧_;by_cases h1:k=1
 ·subst h1;exact Qdz _ _ _ _ _ _ _ _ _ _ _ _ _ hs
 by_cases h2:k=2
 ·subst h2;exact Qdy _ _ _ _ _ _ _ _ _ _ _ _ _ hs
 by_cases h3:k=3
 ·subst h3;exact Qdx _ _ _ _ _ _ _ _ _ _ _ _ _ hs
 by_cases h4:k=4
 ·subst h4;exact Qdw _ _ _ _ _ _ _ _ _ _ _ _ _ hs
 by_cases h5:k=5
 ·subst h5;exact Qdv _ _ _ _ _ _ _ _ _ _ _ _ _ hs
 by_cases h6:k=6
 ·subst h6;exact Qdu _ _ _ _ _ _ _ _ _ _ _ _ _ hs hft
 ·exact Qd0 _ _ _ _ _ _ _ _ _ _ _ _ _ _ hs h1 h2 h3 h4 h5 h6
theorem XQ (x:FN) {KA:Option Addr} {kc:Nat} (w:World) (hs:x.cs.size≤maxLen):
  Calls Tryz.prog 174 #[.agg #[.int .i64 x.k,.int .i64 x.o,.int .i64 x.ck,.int .i64 x.cn,.string x.cs,.int .i64 x.ac,.int .i64 x.ar,.bool x.af,.bool x.ag,.int .i64 x.bc,.int .i64 x.br,.bool x.bf,.bool x.bg,.slice KA x.kids.length kc]] w fun e w'=>e= .returned (.bool (QN x))∧Below w.heap.size w w':=by
 obtain⟨k,o,ck,cn,cs,ac,ar,af,ag,bc,br,bf,bg,ks⟩:=x;show Calls _ _ _ _ fun e w'=>e= .returned (.bool (QG k o ck cn cs ac ar af ag bc br bf bg ks.length))∧_;by_cases h1:k=1
 ·subst h1;exact Qc9 _ _ _ _ _ _ _ _ _ _ _ _ _ hs
 by_cases h2:k=2
 ·subst h2;exact Qc8 _ _ _ _ _ _ _ _ _ _ _ _ _ hs
 by_cases h3:k=3
 ·subst h3;exact Qc7 _ _ _ _ _ _ _ _ _ _ _ _ _ hs
 by_cases h4:k=4
 ·subst h4;exact Qc6 _ _ _ _ _ _ _ _ _ _ _ _ _ hs
 by_cases h5:k=5
 ·subst h5;exact Qc5 _ _ _ _ _ _ _ _ _ _ _ _ _ hs
 by_cases h6:k=6
 ·subst h6;exact Qc4 _ _ _ _ _ _ _ _ _ _ _ _ _ hs
 ·exact Qda _ _ _ _ _ _ _ _ _ _ _ _ _ _ hs h1 h2 h3 h4 h5 h6
theorem Xe {A:Option Addr} {n cap:Nat} {F:Nat→FN} (w:World) (h:FnRow w A n F) (hn:n≤1048576) (hkn: ∀i,i<n→(F i).kids.length≤1048576) (hft:FT w):
  Calls Tryz.prog 156 #[.slice A n cap] w fun e w'=>e= .returned (.bool (Zk F n))∧Below w.heap.size w w':=by
 have HR:Hid (FnRow w A n F):=h;have HKN:Hid (∀i,i<n→(F i).kids.length≤1048576):=hkn;have HFT:Hid (FT w):=hft;clear h hkn hft;by_cases hz:n<1
 ·have HE:Hid (Zk F n=false):=Hr (Or.inl hz);have hz':(n:Int)<1:=by omega
  go_enter Tryz.func156,Tryz.ntmps156;go_wp2_with fail
  go_ret;exact⟨Qb HE.out.symm,by go_grown⟩
 have hz': ¬(n:Int)<1:=by omega
 by_cases hb:60<n
 ·have HE:Hid (Zk F n=false):=Hr (Or.inr hb);have hb':(60:Int)<(n:Int):=by omega
  go_enter Tryz.func156,Tryz.ntmps156;go_wp2_with fail
  go_ret;exact⟨Qb HE.out.symm,by go_grown⟩
 have hb': ¬(60:Int)<(n:Int):=by omega
 go_enter Tryz.func156,Tryz.ntmps156;go_wp2_with fail
 go_loopw [15] (fun i wr=> ∃k:Nat,k≤n∧i= .int .i64 k∧(∀i,i<k→QN (F i)=true)∧Below w.heap.size w wr) (fun i _=>n-(intOf i).toNat)
 case atStart=>exact⟨0,Nat.zero_le _,rfl,fun i hi=>by omega,Below.refl _ _⟩
 case round=>
  obtain⟨k,hk,rfl,hal,hbel⟩:=hrel;have HAL:Hid (∀i,i<k→QN (F i)=true):=hal;have HB:Hid (Below w.heap.size w wr):=hbel;have HBS:Hid (w.heap.size≤wr.heap.size):=hbel.size;clear hal;by_cases hlt:k<n
  ·obtain⟨b,o,KA,kc,rfl,hl,hnd,hki,hs⟩:=HR.out.2 k hlt;obtain⟨c0,c1,c2,c3,c4,c5,c6,c7,c8,c9,c10,c11,c12,c13⟩:=hnd.below hl (W':=wr) hbel;clear hnd hki hbel;have h0:(0:Int)≤(k:Int):=by omega
   have h1:(k:Int)<(n:Int):=by omega
   go_wp2_with fail
   refine(Qie (F k) _ hs ((HFT.out.below HB.out).below (by go_grown))).mono ?_;rintro e w2 ⟨rfl,hb2⟩;have HB2:Hid (Below w.heap.size w w2):=HB.out.trans (Below.mono (Qc (by go_grown) hb2) HBS.out);clear hb2;cases hx:QN (F k)
   ·have HE:Hid (Zk F n=false):=Qcj hlt hx;go_wp2_with fail
    go_ret;exact⟨Qb HE.out.symm,HB2.out⟩
   ·have HX:Hid (QN (F k)=true):=hx;go_wp2_with fail
    go_roundw
    case rel=>exact⟨k+1,by omega,by go_num,fun i hi=>by
     by_cases e:i=k
     ·subst e;exact HX.out
     ·exact HAL.out i (by omega),HB2.out⟩
    case measure=>simp [intOf];omega
  ·have h1: ¬(k:Int)<(n:Int):=by omega
   obtain rfl:k=n:=by omega
   have HE:=Qci (F:=F) (n:=k) (by omega) (by omega) (Qg1 HAL.out);have HE':Hid (Zk F k=(YR (fun j=>(F j).kids) k&&(UG F k&& !decide ((F (k-1)).k=3))&&XP (fun j=>(F j).kids) k)):=HE;clear HE hbel;go_wp2_with fail
   refine(Gp _ (HR.out.below HB.out) (by omega) HKN.out).mono ?_;rintro e w2 ⟨rfl,hb2⟩;have HB2:=hd (Qc HB.out hb2);clear hb2;cases hx:YR (fun j=>(F j).kids) k
   ·have HX:Hid (YR (fun j=>(F j).kids) k=false):=hx;clear hx;go_wp2_with fail
    go_ret;exact⟨Qb (by rw [HE'.out,HX.out];rfl),HB2.out⟩
   have HX:Hid (YR (fun j=>(F j).kids) k=true):=hx;have HG:Hid (QM (fun j=>(F j).kids) k):=JZ hx;clear hx;obtain⟨m,hm⟩: ∃m,k=m+1:=⟨k-1,by omega⟩;subst hm;go_wp2_with fail
   refine(KJ (n:=m) _ (HR.out.below HB2.out) (by omega) HKN.out HG).mono ?_;rintro e w3 ⟨rfl,hb2⟩;have HB3:=hd (Qc HB2.out hb2);clear hb2;have HE2:Hid (Zk F (m+1)=((UG F (m+1)&& !decide ((F m).k=3))&&XP (fun j=>(F j).kids) (m+1))):=by show _=_;rw [HE'.out,HX.out];rfl
   obtain⟨y,HY⟩: ∃y,Hid ((UG F (m+1)&& !decide ((F m).k=3))=y):=⟨_,rfl⟩;rw [HY.out];cases y
   ·go_wp2_with fail
    go_ret;exact⟨Qb (by rw [HE2.out,HY.out];rfl),HB3.out⟩
   go_wp2_with fail
   refine(Uo _ (HR.out.below HB3.out) (by omega) HKN.out HG).mono ?_;rintro e w4 ⟨rfl,hb2⟩;have HB4:=hd (Qc HB3.out hb2);clear hb2;go_wp2_with fail
   go_ret;exact⟨Qb (by rw [HE2.out,HY.out];rfl),HB4.out⟩
def Ou (F:Nat→FN) (i:Nat) (x:Int):Prop:=(0≤x∧x<(i:Int))∧ ¬((F x.toNat).k=3∧ ¬(F i).k=6)
theorem Xd {A:Option Addr} {n cap:Nat} {F:Nat→FN} (w:World) (h:FnRow w A n F) (hn:n≤1048576) (hkn: ∀i,i<n→(F i).kids.length≤1048576):
  Calls Tryz.prog 169 #[.slice A n cap] w fun e w'=>e= .returned (.bool (Zk F n))∧Below w.heap.size w w':=by
 have HR:Hid (FnRow w A n F):=h;have HKN:Hid (∀i,i<n→(F i).kids.length≤1048576):=hkn;clear h hkn;by_cases hz:n<1
 ·have HE:Hid (Zk F n=false):=Hr (Or.inl hz);have hz':(n:Int)<1:=by omega
  go_enter Tryz.func169,Tryz.ntmps169;go_wp2_with fail
  go_ret;exact⟨Qb HE.out.symm,by go_grown⟩
 have hz': ¬(n:Int)<1:=by omega
 by_cases hb:60<n
 ·have HE:Hid (Zk F n=false):=Hr (Or.inr hb);have hb':(60:Int)<(n:Int):=by omega
  go_enter Tryz.func169,Tryz.ntmps169;go_wp2_with fail
  go_ret;exact⟨Qb HE.out.symm,by go_grown⟩
 have hb': ¬(60:Int)<(n:Int):=by omega
 go_enter Tryz.func169,Tryz.ntmps169;go_wp2_with fail
 go_loopw [3,4,5] (fun i _v4 _v5 wr=> ∃k:Nat,k≤n∧i= .int .i64 k∧(∀i,i<k→QN (F i)=true∧ ∀x∈(F i).kids,Ou F i x)∧Below w.heap.size w wr) (fun i _ _ _=>n-(intOf i).toNat)
 case atStart=>exact⟨0,Nat.zero_le _,rfl,fun i hi=>by omega,Below.refl _ _⟩
 case round=>
  obtain⟨k,hk,rfl,hal,hbel⟩:=hrel;have HAL:Hid (∀i,i<k→QN (F i)=true∧ ∀x∈(F i).kids,Ou F i x):=hal;have HB:Hid (Below w.heap.size w wr):=hbel;have HBS:Hid (w.heap.size≤wr.heap.size):=hbel.size;clear hal;by_cases hlt:k<n
  ·obtain⟨b,o,KA,kc,rfl,hl,hnd,hki,hs⟩:=HR.out.2 k hlt;obtain⟨c0,c1,c2,c3,c4,c5,c6,c7,c8,c9,c10,c11,c12,c13⟩:=hnd.below hl (W':=wr) hbel;have HND:Hid (NodeAt w b (o+k*14) (F k) KA kc):=hnd;obtain⟨ks,HKS⟩: ∃ks,Hid ((F k).kids=ks):=⟨_,rfl⟩;have HKI:Hid (IntRow w KA ks):=by rw [←HKS.out];exact hki
   obtain⟨kl,HKL⟩: ∃kl,Hid (ks.length=kl):=⟨_,rfl⟩;have hkl:kl≤1048576:=by have:=HKN.out k hlt;rw [HKS.out,HKL.out]at this;exact this
   clear hnd hki hbel;have h0:(0:Int)≤(k:Int):=by omega
   have h1:(k:Int)<(n:Int):=by omega
   go_wp2_with fail
   refine(XQ (F k) _ hs).mono ?_;rintro e w2 ⟨rfl,hb2⟩;have HB2:=hd (Qc HB.out hb2);clear hb2 c0 c1 c2 c3 c4 c5 c6 c7 c8 c9 c10 c11 c12 c13;cases hx:QN (F k)
   ·have HE:Hid (Zk F n=false):=Qcj hlt hx;clear hx;go_wp2_with fail
    go_ret;exact⟨Qb HE.out.symm,HB2.out⟩
   have HX:Hid (QN (F k)=true):=hx;clear hx;go_wp2_with fail
   go_loopw [4,5] (fun j _v5 wi=> ∃t:Nat,t≤kl∧j= .int .i64 t∧(∀s,s<t→Ou F k (ks.getD s 0))∧Below w.heap.size w wi) (fun j _ _=>kl-(intOf j).toNat)
   case atStart=>exact⟨0,Nat.zero_le _,rfl,fun s hs=>by omega,HB2.out⟩
   case round=>
    clear HB HBS HB2;obtain⟨t,ht,rfl,hsm,hbi⟩:=hrel;have HSM:Hid (∀s,s<t→Ou F k (ks.getD s 0)):=hsm;have HBI:Hid (Below w.heap.size w wr):=hbi;clear hsm;obtain⟨c0,c1,c2,c3,c4,c5,c6,c7,c8,c9,c10,c11,c12,c13⟩:=HND.out.below hl (W':=wr) hbi;rw [HKS.out,HKL.out]at c13
    have lb:b<wr.heap.size:=Nat.lt_of_lt_of_le hl hbi.size;clear c1 c2 c3 c4 c5 c6 c7 c8 c9 c10 c11 c12;by_cases hlt':t<kl
    ·have hs':t<ks.length:=by rw [HKL.out];exact hlt'
     obtain⟨b',o',rfl,hl',e1⟩:=HKI.out.2 t hs';rw [←hbi.cell (p:=⟨_,_,none⟩) hl']at e1;have HMEM:Hid (ks.getD t 0∈(F k).kids):=by show _∈_;rw [HKS.out,List.getD_eq_getElem?_getD,List.getElem?_eq_getElem hs'];exact List.getElem_mem hs'
     obtain⟨z,HZ⟩: ∃z,Hid (ks.getD t 0=z):=⟨_,rfl⟩;rw [HZ.out]at e1;have s0:(0:Int)≤(t:Int):=by omega
     have s1:(t:Int)<(kl:Int):=by omega
     by_cases hr:0≤z∧z≤(k:Int)-1
     rotate_left
     ·have HD:Hid (decide (0≤z∧z≤(k:Int)-1)=false):=decide_eq_false hr
      have HE:Hid (Zk F n=false):=by
       refine Qlj ?_;cases hq:YR (fun j=>(F j).kids) n
       ·rfl
       ·have h9:=JZ hq k hlt z (by show _∈(F k).kids;rw [←HZ.out];exact HMEM.out);exact absurd (by omega) hr
      clear hbi hr;go_wp2_with (go_at_call 121;refine(QT _ _ _ _).mono ?_;rintro e w3 ⟨rfl,hw⟩;subst hw;rw [HD.out])
      all_goals
       go_ret;exact⟨Qb HE.out.symm,HBI.out⟩
     have HD:Hid (decide (0≤z∧z≤(k:Int)-1)=true):=decide_eq_true hr;obtain⟨a,rfl⟩: ∃a:Nat,z=(a:Int):=⟨z.toNat,by omega⟩;have hai:(a:Int)<(k:Int):=by omega
     obtain⟨b'',o'',KB,kb,eA,hl'',ck,ck0,_⟩:=JA HR.out a (by omega);cases eA
     rw [←hbi.cell (p:=⟨_,_,none⟩) hl'']at ck0;clear ck hbi hr;have a0:(0:Int)≤(a:Int):=by omega
     have a1:(a:Int)<(n:Int):=by omega
     by_cases h3:(F a).k=3
     ·have e3:((F a).k==3)=true:=by simpa using h3
      by_cases h6:(F k).k=6
      ·have e6:((F k).k !=6)=false:=by simpa using h6
       have HSM':Hid (∀s,s<t+1→Ou F k (ks.getD s 0)):=fun s hs1=>by
        by_cases e:s=t
        ·subst e;rw [HZ.out];exact⟨⟨by omega,hai⟩,fun h=>h.2 h6⟩
        ·exact HSM.out s (by omega)
       clear h3 h6;go_wp2_with (go_at_call 121;refine(QT _ _ _ _).mono ?_;rintro e w3 ⟨rfl,hw⟩;subst hw;rw [HD.out])
       all_goals
        go_roundw
        case rel=>exact⟨t+1,by omega,by go_num,HSM'.out,HBI.out⟩
        case measure=>simp [intOf];omega
      ·have e6:((F k).k !=6)=true:=by simpa using h6
       have HE:Hid (Zk F n=false):=Qqn (Qgx hlt HMEM.out (by rw [HZ.out];simpa using h3) h6);clear h3 h6;go_wp2_with (go_at_call 121;refine(QT _ _ _ _).mono ?_;rintro e w3 ⟨rfl,hw⟩;subst hw;rw [HD.out])
       all_goals
        go_ret;exact⟨Qb HE.out.symm,HBI.out⟩
     ·have e3:((F a).k==3)=false:=by simpa using h3
      have HSM':Hid (∀s,s<t+1→Ou F k (ks.getD s 0)):=fun s hs1=>by
       by_cases e:s=t
       ·subst e;rw [HZ.out];exact⟨⟨by omega,hai⟩,fun h=>h3 (by simpa using h.1)⟩
       ·exact HSM.out s (by omega)
      clear h3;go_wp2_with (go_at_call 121;refine(QT _ _ _ _).mono ?_;rintro e w3 ⟨rfl,hw⟩;subst hw;rw [HD.out])
      all_goals
       go_roundw
       case rel=>exact⟨t+1,by omega,by go_num,HSM'.out,HBI.out⟩
       case measure=>simp [intOf];omega
    ·have s1: ¬(t:Int)<(kl:Int):=by omega
     obtain rfl:t=kl:=by omega
     have HAL':Hid (∀i,i<k+1→QN (F i)=true∧ ∀x∈(F i).kids,Ou F i x):=fun i hi=>by
      by_cases e:i=k
      ·subst e;refine⟨HX.out,fun x hx=> ?_⟩;rw [HKS.out]at hx;obtain⟨s,hs1,hs2⟩:=List.getElem_of_mem hx;have h9:=HSM.out s (by rw [←HKL.out];exact hs1);rw [List.getD_eq_getElem?_getD,List.getElem?_eq_getElem hs1]at h9;rw [←hs2]
       exact h9
      ·exact HAL.out i (by omega)
     clear hbi;go_wp2_with fail
     go_roundw
     case rel=>exact⟨k+1,by omega,by go_num,HAL'.out,HBI.out⟩
     case measure=>simp [intOf];omega
  ·have h1: ¬(k:Int)<(n:Int):=by omega
   obtain rfl:k=n:=by omega
   obtain⟨m,hm⟩: ∃m,k=m+1:=⟨k-1,by omega⟩;have HG:Hid (QM (fun j=>(F j).kids) k):=fun j hj x hx=>((HAL.out j hj).2 x hx).1;have HAR:Hid (UG F k=true):=Qcw fun i hi x hx=>((HAL.out i hi).2 x hx).2
   have HE':Hid (Zk F k=(decide (ZN (fun j=>(F j).kids) m=0)&& !decide ((F m).k=3)&&XP (fun j=>(F j).kids) k)):=by
    show _=_;rw [Qci (by omega) (by omega) (Qg1 fun i hi=>(HAL.out i hi).1),HAR.out,Bool.true_and];subst hm;rw [MF];rfl
   have HDP:Hid (ZN (fun j=>(F j).kids) m=0→XP (fun j=>(F j).kids) k=decide (ZJ (fun j=>(F j).kids) m≤12)):=fun ht=>by
    subst hm;exact MR HG.out ht
   obtain⟨b,o,KA,kc,rfl,hl,ck,ck0,_⟩:=JA HR.out m (by omega);rw [←hbel.cell (p:=⟨_,_,none⟩) hl]at ck0;have HRw:=hd (HR.out.below hbel);have hkm:(k:Int)-1=(m:Int):=by omega
   have m0:(0:Int)≤(m:Int):=by omega
   have m1:(m:Int)<(k:Int):=by omega
   have M:Hid (m<k):=(by omega:m<k);clear ck hbel hm;obtain⟨y,HY⟩: ∃y,Hid (ZN (fun j=>(F j).kids) (m:Int)=y):=⟨_,rfl⟩;by_cases hy:y=0
   rotate_left
   ·have ey:(y==0)=false:=by simpa using hy
    have HF:Hid (Zk F k=false):=by show _=_;rw [HE'.out,HY.out,decide_eq_false hy];rfl
    go_wp2_with (go_at_call 218;refine(JX _ HRw (by omega) HKN.out (m+1) m (by omega) M.out).mono ?_;rintro e w3 ⟨rfl,hw⟩;subst hw;rw [HY.out])
    all_goals
     go_ret;exact⟨Qb HF.out.symm,HB.out⟩
   subst hy;by_cases h3:(F m).k=3
   ·have e3:((F m).k !=3)=false:=by simpa using h3
    have HF:Hid (Zk F k=false):=by show _=_;rw [HE'.out,decide_eq_true h3];simp
    clear h3;go_wp2_with (go_at_call 218;refine(JX _ HRw (by omega) HKN.out (m+1) m (by omega) M.out).mono ?_;rintro e w3 ⟨rfl,hw⟩;subst hw;rw [HY.out])
    all_goals
     go_ret;exact⟨Qb HF.out.symm,HB.out⟩
   ·have e3:((F m).k !=3)=true:=by simpa using h3
    obtain⟨d,HD⟩: ∃d,Hid (ZJ (fun j=>(F j).kids) (m:Int)=d):=⟨_,rfl⟩;have HF:Hid (Zk F k=decide (d≤12)):=by show _=_;rw [HE'.out,decide_eq_false h3,HDP.out HY.out,HY.out,HD.out];simp
    clear h3
    go_wp2_with (first
     | (go_at_call 218;refine(JX _ HRw (by omega) HKN.out (m+1) m (by omega) M.out).mono ?_;rintro e w3 ⟨rfl,hw⟩;subst hw;rw [HY.out])
     | (go_at_call 219;refine(Qal _ HRw (by omega) HKN.out HG (m+1) m (by omega) M.out).mono ?_;rintro e w3 ⟨rfl,hw⟩;subst hw;rw [HD.out]))
    all_goals
     go_ret;exact⟨Qb (by rw [HF.out]),HB.out⟩
def nrm {N:Type} (y:Int × List UInt8 × List N):Int × List UInt8 × List N:=(y.1,sb y.2.1,y.2.2)
theorem JJ {l l':List UInt8} (h:sb l=sb l') (hp:pk l≠ []):nx l=nx l':=by
 have h1:=VH hp;have e:tok l=tok l':=by rw [←EO l,←EO l',h]
 have hp':pk l'≠ []:=by unfold pk at hp ⊢;rw [←e];exact hp
 have h2:=VH hp';rw [e,h2]at h1;exact(Prod.mk.inj (Option.some.inj h1)).2.symm
theorem Qnq {l l':List UInt8} (h:sb l=sb l'):pk l=pk l':=by rw [←Xj l,←Xj l',h]
theorem Oa {N:Type} {a b:Option (Int × List UInt8 × List N)} (h:a.map nrm=b.map nrm):(a=none∧b=none)∨ ∃x l l' o,a=some (x,l,o)∧b=some (x,l',o)∧sb l=sb l':=by
 cases a with
 | none=>cases b with
  | none=>exact Or.inl ⟨rfl,rfl⟩
  | some y=>cases h
 | some y=>cases b with
  | none=>cases h
  | some z=>
   obtain⟨x,l,o⟩:=y;obtain⟨x',l',o'⟩:=z;simp only [Option.map_some,nrm,Option.some.injEq,Prod.mk.injEq]at h;obtain⟨rfl,hl,rfl⟩:=h;exact Or.inr ⟨_,_,_,_,rfl,rfl,hl⟩
theorem Gx {N:Type} (R:Rw N): ∀(m mode:Nat) (lv a:Int) (ks:List Int) (l l':List UInt8) (out:List N),sb l=sb l'→(P R m mode lv a ks l out).map nrm=(P R m mode lv a ks l' out).map nrm:=by
 intro m;induction m with
 | zero=>intro mode lv a ks l l' out h;rfl
 | succ m ih=>
  intro mode lv a ks l l' out h;have hp:pk l=pk l':=Qnq h;rw [P,P];by_cases h1:mode=1
  ·rw [if_pos h1,if_pos h1];by_cases hg:4<lv
   ·rw [if_pos hg,if_pos hg];exact ih _ _ _ _ _ _ _ h
   ·rw [if_neg hg,if_neg hg];rcases Oa (ih 1 (lv+1) 0 [] l l' out h)with⟨e1,e2⟩ | ⟨x,l1,l2,o,e1,e2,hs⟩
    ·rw [e1,e2]
    ·rw [e1,e2];exact ih _ _ _ _ _ _ _ hs
  rw [if_neg h1,if_neg h1];by_cases h2:mode=2
  ·rw [if_pos h2,if_pos h2,←hp];by_cases hop:QI (pk l)=0∨lvl (QI (pk l))≠lv
   ·rw [if_pos hop,if_pos hop];simp only [Option.map_some,nrm,h]
   ·have hn:pk l≠ []:=fun e=>hop (Or.inl (by rw [e];rfl));rw [if_neg hop,if_neg hop,JJ h hn]
  rw [if_neg h2,if_neg h2];by_cases h3:mode=3
  ·rw [if_pos h3,if_pos h3,←hp];by_cases hq:pk l= [45]
   ·rw [if_pos hq,if_pos hq,JJ h (by rw [hq];simp)]
   ·rw [if_neg hq,if_neg hq];exact ih _ _ _ _ _ _ _ h
  rw [if_neg h3,if_neg h3];by_cases h4:mode=4
  ·rw [if_pos h4,if_pos h4,←hp];by_cases hq:pk l= []
   ·rw [if_pos hq,if_pos hq]
   ·rw [if_neg hq,if_neg hq,JJ h hq]
  rw [if_neg h4,if_neg h4];by_cases h5:mode=5
  ·rw [if_pos h5,if_pos h5,←hp];by_cases hq:pk l= [44]
   ·rw [if_pos hq,if_pos hq,JJ h (by rw [hq];simp)]
   ·rw [if_neg hq,if_neg hq];by_cases hq':pk l= [41]
    ·rw [if_pos hq',if_pos hq',JJ h (by rw [hq'];simp)]
    ·rw [if_neg hq',if_neg hq']
  rw [if_neg h5,if_neg h5,←hp];by_cases hq:pk l≠ []∧pk (nx l)= [58]
  ·have hq':pk l≠ []∧pk (nx l')= [58]:=⟨hq.1,by rw [←JJ h hq.1];exact hq.2⟩;rw [if_pos hq,if_pos hq',JJ h hq.1]
  ·have hq': ¬(pk l≠ []∧pk (nx l')= [58]):=fun e=>hq ⟨e.1,by rw [JJ h e.1];exact e.2⟩;rw [if_neg hq,if_neg hq'];exact ih _ _ _ _ _ _ _ h
def PB {N:Type} (R:Rw N) (mode:Nat) (lv a:Int) (ks:List Int) (l:List UInt8) (out:List N):Option (Int × List UInt8 × List N):=(P R 20000 mode lv a ks l out).map nrm
theorem Kz {N:Type} {R:Rw N} {mode:Nat} {lv a:Int} {ks:List Int} {l l':List UInt8} {out:List N} (h:sb l=sb l'):PB R mode lv a ks l out=PB R mode lv a ks l' out:=Gx R _ _ _ _ _ _ _ _ h
theorem Qfn {mode:Nat} {lv:Int} {n:Nat} (hl:Qmq mode lv) (hn:n≤1000):Mj mode lv n≤19999:=by
 unfold Mj;by_cases h1:mode=1
 ·rw [if_pos h1];have:=hl.1 h1;omega
 ·rw [if_neg h1];repeat' split
  all_goals omega
theorem YU {N:Type} {R:Rw N} {mode:Nat} {lv a:Int} {ks:List Int} {l:List UInt8} {out:List N} (hl:Qmq mode lv) (hn:l.length≤1000):P R 19999 mode lv a ks l out=P R 20000 mode lv a ks l out:=
 Qt5 R _ _ _ _ _ _ _ _ hl (Qfn hl hn) (Nat.le_trans (Qfn hl hn) (by omega))
theorem Jz (mode:Nat) (lv:Int) (h1:mode≠1) (h2:mode≠2):Qmq mode lv:=⟨fun e=>absurd e h1,fun e=>absurd e h2⟩
def Zv {N:Type} (o:Option (Int × List UInt8 × List N)) (f:Int→List UInt8→List N→Option (Int × List UInt8 × List N)):Option (Int × List UInt8 × List N):=match o with
 | some y=>f y.1 y.2.1 y.2.2
 | none=>none
theorem Jh {N:Type} {o:Option (Int × List UInt8 × List N)} {f:Int→List UInt8→List N→Option (Int × List UInt8 × List N)} (hf: ∀x l l' q,sb l=sb l'→f x l q=f x l' q):Zv (o.map nrm) f=Zv o f:=by
 cases o with
 | none=>rfl
 | some y=>exact hf _ _ _ _ (Ze _)
theorem Jc {N:Type} {o:Option (Int × List UInt8 × List N)} {f:Int→List UInt8→List N→Option (Int × List UInt8 × List N)}:(Zv o f).map nrm=Zv o (fun x l q=>(f x l q).map nrm):=by
 cases o<;>rfl
theorem Oq {N:Type} {R:Rw N} {mode:Nat} {lv a:Int} {ks:List Int} {l:List UInt8} {out:List N} {x:Int} {l1:List UInt8} {o1:List N} (h:PB R mode lv a ks l out=some (x,l1,o1)):l1.length≤l.length∧(mode≠2→l1.length<l.length):=by
 unfold PB at h;cases hp:P R 20000 mode lv a ks l out with
 | none=>rw [hp]at h;cases h
 | some y=>
  obtain⟨x',l',o'⟩:=y;rw [hp]at h;simp only [Option.map_some,nrm,Option.some.injEq,Prod.mk.injEq]at h;obtain⟨rfl,rfl,rfl⟩:=h;have h2:=Uv R _ _ _ _ _ _ _ _ _ _ hp;have h3:=YD l';exact⟨by omega,fun hm=>by have:=h2.2 hm;omega⟩
theorem PB1 {N:Type} {R:Rw N} {lv:Int} {l:List UInt8} {out:List N} (h1:1≤lv) (h4:lv≤4) (hn:l.length≤1000):
  PB R 1 lv 0 [] l out=Zv (PB R 1 (lv+1) 0 [] l out) (fun x l1 o1=>PB R 2 lv x [] l1 o1):=by
 unfold PB;rw [Jh (f:=fun x l1 o1=>(P R 20000 2 lv x [] l1 o1).map nrm) (fun x l l' q hs=>Gx R _ _ _ _ _ _ _ _ hs),←Jc];rw [show(20000:Nat)=19999+1 from rfl,P,if_pos rfl,if_neg (by omega),YU ⟨fun _=>by omega,fun e=>by omega⟩ hn,←show(20000:Nat)=19999+1 from rfl];congr 1
 unfold Zv;cases hp:P R 20000 1 (lv+1) 0 [] l out with
 | none=>rfl
 | some y=>
  obtain⟨x,l1,o1⟩:=y;have:=(Uv R _ _ _ _ _ _ _ _ _ _ hp).1;exact YU ⟨fun e=>by omega,fun _=>by omega⟩ (by omega)
theorem Qrb {N:Type} {R:Rw N} {l:List UInt8} {out:List N} (hn:l.length≤1000):PB R 1 5 0 [] l out=PB R 3 0 0 [] l out:=by
 unfold PB;rw [show(20000:Nat)=19999+1 from rfl,P,if_pos rfl,if_pos (by omega),YU (Jz 3 0 (by omega) (by omega)) hn]
theorem PB2 {N:Type} {R:Rw N} {lv a:Int} {l:List UInt8} {out:List N} (h1:1≤lv) (h4:lv≤4) (hn:l.length≤1000):
  PB R 2 lv a [] l out=if QI (pk l)=0∨lvl (QI (pk l))≠lv then some (a,sb l,out)else Zv (PB R 1 (lv+1) 0 [] (nx l) out) (fun b l1 o1=>PB R 2 lv (o1.length:Int) [] l1 (o1++ [R.bin (QI (pk l)) a b])):=by
 by_cases hop:QI (pk l)=0∨lvl (QI (pk l))≠lv
 ·rw [if_pos hop];unfold PB;rw [show(20000:Nat)=19999+1 from rfl,P,if_neg (by omega),if_pos rfl,if_pos hop];rfl
 ·rw [if_neg hop];have hl:=Hm l;unfold PB;rw [Jh (f:=fun b l1 o1=>(P R 20000 2 lv (o1.length:Int) [] l1 (o1++ [R.bin (QI (pk l)) a b])).map nrm) (fun x l l' q hs=>Gx R _ _ _ _ _ _ _ _ hs),←Jc];rw [show(20000:Nat)=19999+1 from rfl,P,if_neg (by omega),if_pos rfl,if_neg hop,YU ⟨fun _=>by omega,fun e=>by omega⟩ (by omega),←show(20000:Nat)=19999+1 from rfl];congr 1
  unfold Zv;cases hp:P R 20000 1 (lv+1) 0 [] (nx l) out with
  | none=>rfl
  | some y=>
   obtain⟨x,l1,o1⟩:=y;have:=(Uv R _ _ _ _ _ _ _ _ _ _ hp).1;exact YU ⟨fun e=>by omega,fun _=>by omega⟩ (by omega)
theorem PB3 {N:Type} {R:Rw N} {l:List UInt8} {out:List N} (hn:l.length≤1000):
  PB R 3 0 0 [] l out=if pk l= [45]then Zv (PB R 3 0 0 [] (nx l) out) (fun k l1 o1=>some ((o1.length:Int),sb l1,o1++ [R.neg k]))else PB R 4 0 0 [] l out:=by
 by_cases hp:pk l= [45]
 ·rw [if_pos hp];have hl:=Hm l;unfold PB;rw [Jh (fun x l l' q hs=>by rw [hs]),show(fun(k:Int) (l1:List UInt8) (o1:List N)=>some ((o1.length:Int),sb l1,o1++ [R.neg k]))=(fun k l1 o1=>(Qi9 (R.neg k) l1 o1).map nrm)from rfl,←Jc];rw [show(20000:Nat)=19999+1 from rfl,P,if_neg (by omega),if_neg (by omega),if_pos rfl,if_pos hp,YU (Jz 3 0 (by omega) (by omega)) (by omega),←show(20000:Nat)=19999+1 from rfl];congr 1
  unfold Zv;cases P R 20000 3 0 0 [] (nx l) out<;>rfl
 ·rw [if_neg hp];unfold PB;rw [show(20000:Nat)=19999+1 from rfl,P,if_neg (by omega),if_neg (by omega),if_pos rfl,if_neg hp,YU (Jz 4 0 (by omega) (by omega)) hn]
theorem EJ {N:Type} {R:Rw N} {l:List UInt8} {out:List N} (h:pk l= []):PB R 4 0 0 [] l out=none:=by
 unfold PB;rw [show(20000:Nat)=19999+1 from rfl,P,if_neg (by omega),if_neg (by omega),if_neg (by omega),if_pos rfl,if_pos h];rfl
theorem EI {N:Type} {R:Rw N} {l:List UInt8} {out:List N} (h:pk l= [40]) (hn:l.length≤1000):
  PB R 4 0 0 [] l out=Zv (PB R 1 1 0 [] (nx l) out) (fun x l1 o1=>if pk l1= [41]then some (x,sb (nx l1),o1)else none):=by
 have hl:=Hm l;unfold PB
 rw [Jh (fun x l l' q hs=>by
  rw [Qnq hs];by_cases hq:pk l'= [41]
  ·rw [if_pos hq,if_pos hq,JJ hs (by rw [Qnq hs,hq];simp)]
  ·rw [if_neg hq,if_neg hq]),show(fun(x:Int) (l1:List UInt8) (o1:List N)=>if pk l1= [41]then some (x,sb (nx l1),o1)else none)=(fun x l1 o1=>(if pk l1= [41]then some (x,nx l1,o1)else none).map nrm)from by
   funext x l1 o1
   by_cases hq:pk l1= [41]
   ·rw [if_pos hq,if_pos hq];rfl
   ·rw [if_neg hq,if_neg hq];rfl,←Jc]
 rw [show(20000:Nat)=19999+1 from rfl,P,if_neg (by omega),if_neg (by omega),if_neg (by omega),if_pos rfl,if_neg (by rw [h];simp),if_pos h,YU ⟨fun _=>by omega,fun e=>by omega⟩ (by omega),←show(20000:Nat)=19999+1 from rfl];congr 1
 unfold Zv;cases P R 20000 1 1 0 [] (nx l) out<;>rfl
theorem EH {N:Type} {R:Rw N} {l:List UInt8} {out:List N} {x:List UInt8 × List UInt8} (h:(pk l).head? =some 34) (hq:Zh (pk l).tail=some x):PB R 4 0 0 [] l out=some ((out.length:Int),sb (nx l),out++ [R.cst 2 0 x.1]):=by
 have h0:pk l≠ []:=fun e=>by rw [e]at h;cases h
 have h1:pk l≠ [40]:=fun e=>by rw [e]at h;cases h
 unfold PB;rw [show(20000:Nat)=19999+1 from rfl,P,if_neg (by omega),if_neg (by omega),if_neg (by omega),if_pos rfl,if_neg h0,if_neg h1,if_pos h,hq];rfl
theorem Qe2 {N:Type} {R:Rw N} {l:List UInt8} {out:List N} (h0:pk l≠ []) (h1:pk l≠ [40]) (h2:(pk l).head?≠some 34) (hf:Xc (pk l)≠0) (hn:l.length≤1000):
  PB R 4 0 0 [] l out=if pk (nx l)= [40]then Zv (PB R 6 0 0 [] (nx (nx l)) out) (fun k l1 o1=>PB R 5 (Xc (pk l)) 0 [k] l1 o1)else none:=by
 have hl:=Hm l;have hl2:=Hm (nx l);by_cases hp:pk (nx l)= [40]
 ·rw [if_pos hp];unfold PB;rw [Jh (f:=fun k l1 o1=>(P R 20000 5 (Xc (pk l)) 0 [k] l1 o1).map nrm) (fun x l l' q hs=>Gx R _ _ _ _ _ _ _ _ hs),←Jc];rw [show(20000:Nat)=19999+1 from rfl,P,if_neg (by omega),if_neg (by omega),if_neg (by omega),if_pos rfl,if_neg h0,if_neg h1,if_neg h2,if_pos hf,if_pos hp,YU (Jz 6 0 (by omega) (by omega)) (by omega),←show(20000:Nat)=19999+1 from rfl];congr 1
  unfold Zv;cases hq:P R 20000 6 0 0 [] (nx (nx l)) out with
  | none=>rfl
  | some y=>
   obtain⟨x,l1,o1⟩:=y;have:=(Uv R _ _ _ _ _ _ _ _ _ _ hq).1;exact YU (Jz 5 _ (by omega) (by omega)) (by omega)
 ·rw [if_neg hp];unfold PB;rw [show(20000:Nat)=19999+1 from rfl,P,if_neg (by omega),if_neg (by omega),if_neg (by omega),if_pos rfl,if_neg h0,if_neg h1,if_neg h2,if_pos hf,if_neg hp];rfl
theorem Hw {N:Type} {R:Rw N} {l:List UInt8} {out:List N} (h0:pk l≠ []) (h1:pk l≠ [40]) (h2:(pk l).head?≠some 34) (hf:Xc (pk l)=0):
  PB R 4 0 0 [] l out=match R.rv (pk l)with
   | some v=>some ((out.length:Int),sb (nx l),out++ [R.cst v.1 v.2.1 v.2.2])
   | none=>(match R.rp (pk l)with
    | some p=>some ((out.length:Int),sb (nx l),out++ [R.cel p])
    | none=>none):=by
 unfold PB;rw [show(20000:Nat)=19999+1 from rfl,P,if_neg (by omega),if_neg (by omega),if_neg (by omega),if_pos rfl,if_neg h0,if_neg h1,if_neg h2,if_neg (by rw [hf];simp)];cases R.rv (pk l)with
 | some v=>rfl
 | none=>cases R.rp (pk l)<;>rfl
theorem PB5 {N:Type} {R:Rw N} {fn:Int} {ks:List Int} {l:List UInt8} {out:List N} (hn:l.length≤1000):
  PB R 5 fn 0 ks l out=if pk l= [44]then Zv (PB R 6 0 0 [] (nx l) out) (fun k l1 o1=>PB R 5 fn 0 (ks++ [k]) l1 o1)else if pk l= [41]then some ((out.length:Int),sb (nx l),out++ [R.cal fn ks])else none:=by
 have hl:=Hm l;by_cases hp:pk l= [44]
 ·rw [if_pos hp];unfold PB;rw [Jh (f:=fun k l1 o1=>(P R 20000 5 fn 0 (ks++ [k]) l1 o1).map nrm) (fun x l l' q hs=>Gx R _ _ _ _ _ _ _ _ hs),←Jc];rw [show(20000:Nat)=19999+1 from rfl,P,if_neg (by omega),if_neg (by omega),if_neg (by omega),if_neg (by omega),if_pos rfl,if_pos hp,YU (Jz 6 0 (by omega) (by omega)) (by omega),←show(20000:Nat)=19999+1 from rfl];congr 1
  unfold Zv;cases hq:P R 20000 6 0 0 [] (nx l) out with
  | none=>rfl
  | some y=>
   obtain⟨x,l1,o1⟩:=y;have:=(Uv R _ _ _ _ _ _ _ _ _ _ hq).1;exact YU (Jz 5 _ (by omega) (by omega)) (by omega)
 ·rw [if_neg hp];unfold PB;rw [show(20000:Nat)=19999+1 from rfl,P,if_neg (by omega),if_neg (by omega),if_neg (by omega),if_neg (by omega),if_pos rfl,if_neg hp];by_cases hp':pk l= [41]
  ·rw [if_pos hp',if_pos hp'];rfl
  ·rw [if_neg hp',if_neg hp'];rfl
theorem PB6 {N:Type} {R:Rw N} {l:List UInt8} {out:List N} (hn:l.length≤1000):
  PB R 6 0 0 [] l out=if pk l≠ []∧pk (nx l)= [58]then(match R.rp (pk l),R.rp (pk (nx (nx l)))with
   | some p,some q=>some ((out.length:Int),sb (nx (nx (nx l))),out++ [R.are p q])
   | _,_=>none)else PB R 1 1 0 [] l out:=by
 by_cases hp:pk l≠ []∧pk (nx l)= [58]
 ·rw [if_pos hp];unfold PB;rw [show(20000:Nat)=19999+1 from rfl,P,if_neg (by omega),if_neg (by omega),if_neg (by omega),if_neg (by omega),if_neg (by omega),if_pos hp];cases R.rp (pk l)with
  | none=>rfl
  | some p=>cases R.rp (pk (nx (nx l)))<;>rfl
 ·rw [if_neg hp];unfold PB;rw [show(20000:Nat)=19999+1 from rfl,P,if_neg (by omega),if_neg (by omega),if_neg (by omega),if_neg (by omega),if_neg (by omega),if_neg hp,YU ⟨fun _=>by omega,fun e=>by omega⟩ hn]
end Go.Proofs.YtbdhinckiccniaaGreatDoor
