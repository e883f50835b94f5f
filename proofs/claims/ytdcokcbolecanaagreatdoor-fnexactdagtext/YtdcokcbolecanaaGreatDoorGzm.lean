import Derived.Test.YtdcokcbolecanaaGreatDoorMn
import Derived.Test.YtdcokcbolecanaaGreatDoorGaa
import Derived.Test.YtdcokcbolecanaaGreatDoorGzl
set_option linter.unusedSimpArgs false
set_option linter.unusedVariables false
set_option maxHeartbeats 8000000
set_option maxRecDepth 100000
namespace Go.Proofs.YtdcokcbolecanaaGreatDoor
open Go.RowKit
def Qho (b:UInt8):Bool:=decide (97≤b.toNat∧b.toNat≤122)
def Kv (s:ByteArray) (k:Nat):Prop:= ∀j (h:j<s.size),j<k→Qho (s[j]'h)=true
theorem Gm (s:ByteArray):Kv s 0:=fun j _ h=>absurd h (Nat.not_lt_zero _)
theorem Gn {s:ByteArray} {k:Nat} (h:k<s.size) (hl:Kv s k) (h1:97≤(s[k]'h).toNat) (h2:(s[k]'h).toNat≤122):Kv s (k+1):=fun j hj hk=>by
 by_cases e:j=k
 ·subst e;exact decide_eq_true ⟨h1,h2⟩
 ·exact hl j hj (by omega)
def nmB (s:ByteArray):Bool:=decide (1≤s.size∧s.size≤12)&&s.data.toList.all Qho
theorem Qhi {s:ByteArray} (h:Kv s s.size):s.data.toList.all Qho=true:=by
 rw [List.all_eq_true];intro b hb;obtain⟨i,hi,rfl⟩:=List.mem_iff_getElem.1 hb;exact h i (by simpa using hi) (by simpa using hi)
theorem NG {s:ByteArray} {k:Nat} (h:k<s.size) (hl:(s[k]'h).toNat<97∨122<(s[k]'h).toNat):nmB s=false:=by
 have e:s.data.toList.all Qho=false:=by
  cases e:s.data.toList.all Qho with
  | false=>rfl
  | true=>
   have h9:=List.all_eq_true.1 e (s[k]'h) (List.mem_iff_getElem.2 ⟨k,by simpa using h,rfl⟩);have:=of_decide_eq_true h9;omega
 rw [nmB,e,Bool.and_false]
theorem Gl {s:ByteArray} (h:s.size<1∨12<s.size):nmB s=false:=by
 rw [nmB,decide_eq_false (by omega),Bool.false_and]
theorem Es {s:ByteArray} (h:Kv s s.size) (h1:1≤s.size) (h2:s.size≤12):nmB s=true:=by
 rw [nmB,Qhi h,decide_eq_true ⟨h1,h2⟩];rfl
theorem Qlm {s:ByteArray} (h:nmB s=true):1≤s.size∧s.size≤12:=by
 simp only [nmB,Bool.and_eq_true,decide_eq_true_eq]at h;exact h.1
theorem Oj (s:ByteArray) (w:World) (hs:s.size≤maxLen):Calls Tryz.prog 57 #[.string s] w fun e w'=>e= .returned (.bool (nmB s))∧w'=w:=by
 unfold maxLen at hs;go_enter Tryz.func57,Tryz.ntmps57;go_wp2_with fail
 go_loopw [6] (fun i wr=> ∃k:Nat,k≤s.size∧i= .int .i64 k∧Kv s k∧wr=w) (fun i _=>s.size-(intOf i).toNat)
 case atStart=>exact⟨0,Nat.zero_le _,rfl,Gm s,rfl⟩
 case round=>
  obtain⟨k,hk,rfl,hall,hw⟩:=hrel;subst wr;have HA:Hid (Kv s k):=hall;clear hall;by_cases hlt:k<s.size
  ·have h0:(0:Int)≤(k:Int):=by omega
   have h1:(k:Int)<(s.size:Int):=by omega
   by_cases hlo:((s[k]'hlt).toNat:Int)<97
   ·go_wp2_with fail
    go_ret;exact⟨Qa (NG hlt (Or.inl (by omega))).symm,rfl⟩
   by_cases hhi:(122:Int)<((s[k]'hlt).toNat:Int)
   ·go_wp2_with fail
    go_ret;exact⟨Qa (NG hlt (Or.inr (by omega))).symm,rfl⟩
   go_wp2_with fail
   go_roundw
   case rel=>exact⟨k+1,by omega,by go_num,Gn hlt HA.out (by omega) (by omega),trivial⟩
   case measure=>simp [intOf];omega
  ·have h1: ¬(k:Int)<(s.size:Int):=by omega
   obtain rfl:k=s.size:=by omega
   by_cases g1:1≤(s.size:Int)
   ·by_cases g2:(s.size:Int)≤12
    ·go_wp2_with fail
     go_ret;exact⟨Qa (Es HA.out (by omega) (by omega)).symm,rfl⟩
    ·go_wp2_with fail
     go_ret;exact⟨Qa (Gl (Or.inr (by omega))).symm,rfl⟩
   ·go_wp2_with fail
    go_ret;exact⟨Qa (Gl (Or.inl (by omega))).symm,rfl⟩
theorem MB (s:ByteArray) (w:World) (hs:s.size≤maxLen):Calls Tryz.prog 28 #[.string s] w fun e w'=>e= .returned (.bool (nmB s))∧w'=w:=by
 unfold maxLen at hs;by_cases g1:(s.size:Int)<1
 ·go_enter Tryz.func28,Tryz.ntmps28;go_wp2_with fail
  go_ret;exact⟨Qa (Gl (Or.inl (by omega))).symm,rfl⟩
 by_cases g2:(12:Int)<(s.size:Int)
 ·go_enter Tryz.func28,Tryz.ntmps28;go_wp2_with fail
  go_ret;exact⟨Qa (Gl (Or.inr (by omega))).symm,rfl⟩
 go_enter Tryz.func28,Tryz.ntmps28;go_wp2_with fail
 go_loopw [3] (fun i wr=> ∃k:Nat,k≤s.size∧i= .int .i64 k∧Kv s k∧wr=w) (fun i _=>s.size-(intOf i).toNat)
 case atStart=>exact⟨0,Nat.zero_le _,rfl,Gm s,rfl⟩
 case round=>
  obtain⟨k,hk,rfl,hall,hw⟩:=hrel;subst wr;have HA:Hid (Kv s k):=hall;clear hall;by_cases hlt:k<s.size
  ·have h0:(0:Int)≤(k:Int):=by omega
   have h1:(k:Int)<(s.size:Int):=by omega
   by_cases hlo:((s[k]'hlt).toNat:Int)<97
   ·go_wp2_with fail
    go_ret;exact⟨Qa (NG hlt (Or.inl (by omega))).symm,rfl⟩
   by_cases hhi:(122:Int)<((s[k]'hlt).toNat:Int)
   ·go_wp2_with fail
    go_ret;exact⟨Qa (NG hlt (Or.inr (by omega))).symm,rfl⟩
   go_wp2_with fail
   go_roundw
   case rel=>exact⟨k+1,by omega,by go_num,Gn hlt HA.out (by omega) (by omega),trivial⟩
   case measure=>simp [intOf];omega
  ·have h1: ¬(k:Int)<(s.size:Int):=by omega
   obtain rfl:k=s.size:=by omega
   go_wp2_with fail
   go_ret;exact⟨Qa (Es HA.out (by omega) (by omega)).symm,rfl⟩
end Go.Proofs.YtdcokcbolecanaaGreatDoor
namespace Go.Proofs.YtdcokcbolecanaaGreatDoor
open Go.RowKit Go.Maps
theorem Qir {d:Int} (h1:1≤d) (h2:d≤1000000000):(Lit.int .i64 d).wf=true:=WalkArith.wf_i64 (by omega)
theorem Vd {A:Option Addr} {n cap:Nat} {L:List VR} (w:World) (h:VrRow w A L) (hL:L.length=n) (hw: ∀x∈L,(Lit.int .i64 x.id).wf=true) (hn:n≤1048576):
  Calls Tryz.prog 56 #[.slice A n cap] w fun e w'=>e= .returned (.map (some w.heap.size))∧VMap w' w.heap.size n (QT L)∧Below w.heap.size w w':=by
 have HR:Hid (VrRow w A L):=h;have HL:Hid (L.length=n):=hL;have HW:Hid (∀x∈L,(Lit.int .i64 x.id).wf=true):=hw;clear h hL hw;have hmm:= @run_makeMap Tryz.prog;go_enter Tryz.func56,Tryz.ntmps56;go_wp2_with fail
 go_loopw [9] (fun i wr=> ∃k:Nat,k≤n∧i= .int .i64 k∧VMap wr w.heap.size k (QT (L.take k))∧Below w.heap.size w wr) (fun i _=>n-(intOf i).toNat)
 case atStart=>exact⟨0,Nat.zero_le _,rfl,⟨_,World.ownsMap_made _ _ _ _,⟨_,rfl⟩,fun d _=>by simp [QT];rfl⟩,by go_grown⟩
 case round=>
  obtain⟨k,hk,rfl,hv,hbel⟩:=hrel;by_cases hlt:k<n
  ·obtain⟨D,ho,hD,hh⟩:=hv;have HO:Hid (wr.ownsMap Tryz.prog 2 vmE w.heap.size k D):=ho;have HD:Hid (IsMap D):=hD;have HH:Hid (∀d,(Lit.int .i64 d).wf=true→Maps.has D (.int .i64 d)=decide (d∈QT (L.take k))):=hh;obtain⟨x,hx⟩:=ZF HL.out hlt;have HX:Hid (L[k]? =some x):=hx;have HXW:Hid ((Lit.int .i64 x.id).wf=true):=HW.out x (List.mem_of_getElem? hx)
   obtain⟨b,o,u,uc,s,sc,rfl,hl,c0,c1,c2,_,_⟩:=HR.out.2 k x hx;clear ho hD hh hx;have hs:=hbel.size;rw [←hbel.cell (p:=⟨_,_,none⟩) hl]at c0 c1 c2;have hl2:b<wr.heap.size:=Nat.lt_of_lt_of_le hl hs;have h0:(0:Int)≤(k:Int):=by omega
   have h1:(k:Int)<(n:Int):=by omega
   go_wp2_with (first
    | (at_mapUpdate;refine wpList_mapUpdate_own _ rfl _ _ _ 97 rfl 2 44 keyedI Tryz.underlying97 vmE w.heap.size k _ rfl (HO.out.alloc _) (by unfold maxLen;omega) _ _ (.int .i64 x.id) rfl rfl (Qi4 HXW.out) _ [] (Bz _ _ _ _ _ _ _) ?_;intro w1 hown1 hgrow1)
    | go_in)
   have R2:Below w.heap.size w w1:=Below.grown (hbel.alloc hs _) hgrow1 (by simp;omega) (fun j hj=>by cases hj;exact Nat.le_refl _);have HV1:Hid (VMap w1 w.heap.size (k+1) (QT (L.take (k+1)))):=by rw [Dh HX.out];exact VMap.put (w:=w1) HD.out HXW.out HH.out hown1
   go_roundw
   case rel=>exact⟨k+1,by omega,by go_num,HV1.out,R2⟩
   case measure=>simp [intOf];omega
  ·have h1: ¬(k:Int)<(n:Int):=by omega
   obtain rfl:k=n:=by omega
   have HV:Hid (VMap wr w.heap.size k (QT L)):=by rw [←HL.out,List.take_length]at hv;rw [←HL.out];exact hv
   clear hv;go_wp2_with fail
   go_ret;exact⟨rfl,HV.out,hbel⟩
def XS (next:Int) (l:List Int) (x:VR):Bool:=decide (1≤x.id)&&(decide (x.id<next)&&(Uc x.ups l&&Zf x.C x.R x.S x.m))
def YW (next:Int) (L:List VR):Bool:=decide (1≤L.length∧L.length≤40)&&(YM ltV L&&(List.range L.length).all fun t=>match L[t]? with | some x=>XS next (QT (L.take t)) x | none=>true)
theorem Kb {next:Int} {L:List VR} (h:L.length<1∨40<L.length):YW next L=false:=by rw [YW,decide_eq_false (by omega),Bool.false_and]
theorem Kc {next:Int} {L:List VR} (h:YM ltV L=false):YW next L=false:=by rw [YW,h,Bool.false_and,Bool.and_false]
theorem ZR {next:Int} {L:List VR} {t:Nat} {x:VR} (hx:L[t]? =some x) (h:XS next (QT (L.take t)) x=false):YW next L=false:=by
 have e:((List.range L.length).all fun t=>match L[t]? with | some x=>XS next (QT (L.take t)) x | none=>true)=false:=by
  cases e:((List.range L.length).all fun t=>match L[t]? with | some x=>XS next (QT (L.take t)) x | none=>true)with
  | false=>rfl
  | true=>
   have h9:=List.all_eq_true.1 e t (List.mem_range.2 (List.getElem?_eq_some_iff.1 hx).1);rw [hx]at h9;have h8:XS next (QT (L.take t)) x=true:=h9;rw [h]at h8;cases h8
 rw [YW,e,Bool.and_false,Bool.and_false]
theorem UL {next:Int} {L:List VR} (h1:1≤L.length) (h2:L.length≤40) (h3:YM ltV L=true) (h4: ∀(t:Nat) x,L[t]? =some x→XS next (QT (L.take t)) x=true):YW next L=true:=by
 have e:((List.range L.length).all fun t=>match L[t]? with | some x=>XS next (QT (L.take t)) x | none=>true)=true:=List.all_eq_true.2 fun t ht=>by
  have hx:=List.getElem?_eq_getElem (List.mem_range.1 ht);simp only [hx];exact h4 t _ hx
 rw [YW,e,h3,decide_eq_true ⟨h1,h2⟩];rfl
theorem BP {next:Int} {l:List Int} {x:VR} (h:x.id<1):XS next l x=false:=by rw [XS,decide_eq_false (by omega),Bool.false_and]
theorem BQ {next:Int} {l:List Int} {x:VR} (h:next≤x.id):XS next l x=false:=by rw [XS,decide_eq_false (p:=x.id<next) (by omega),Bool.false_and,Bool.and_false]
theorem Hv {next:Int} {l:List Int} {x:VR} (h:Uc x.ups l=false):XS next l x=false:=by rw [XS,h,Bool.false_and,Bool.and_false,Bool.and_false]
theorem BS {next:Int} {l:List Int} {x:VR} (h:Zf x.C x.R x.S x.m=false):XS next l x=false:=by rw [XS,h,Bool.and_false,Bool.and_false,Bool.and_false]
theorem BO {next:Int} {l:List Int} {x:VR} (h1:1≤x.id) (h2:x.id<next) (h3:Uc x.ups l=true) (h4:Zf x.C x.R x.S x.m=true):XS next l x=true:=by rw [XS,h3,h4,decide_eq_true h1,decide_eq_true h2];rfl
theorem Kz {A:Option Addr} {n cap:Nat} {L:List VR} (next:Int) (w:World) (h:VrRow w A L) (hL:L.length=n) (hk: ∀x∈L,Qb2 x) (hnx:next≤1000000000) (hg:GI w):
  Calls Tryz.prog 33 #[.slice A n cap,.int .i64 next] w fun e w'=>e= .returned (.bool (YW next L))∧Below w.heap.size w w':=by
 have HR:Hid (VrRow w A L):=h;have HL:Hid (L.length=n):=hL;have HK:Hid (∀x∈L,Qb2 x):=hk;have HG:Hid (GI w):=hg;have hn:=h.1;rw [hL]at hn;unfold maxLen at hn
 clear h hL hk hg;by_cases g1:(n:Int)<1
 ·go_enter Tryz.func33,Tryz.ntmps33;go_wp2_with fail
  go_ret;exact⟨Qa (Kb (Or.inl (by rw [HL.out];omega))).symm,by go_grown⟩
 by_cases g2:(40:Int)<(n:Int)
 ·go_enter Tryz.func33,Tryz.ntmps33;go_wp2_with fail
  go_ret;exact⟨Qa (Kb (Or.inr (by rw [HL.out];omega))).symm,by go_grown⟩
 obtain⟨ab,HAB⟩: ∃ab,Hid (YM ltV L=ab):=⟨_,rfl⟩;have hmm:= @run_makeMap Tryz.prog;go_enter Tryz.func33,Tryz.ntmps33;go_wp2_with fail
 refine(Oe _ HR.out HL.out).mono ?_;rintro e u1 ⟨rfl,hb⟩;rw [HAB.out];have K1:Hid (Below w.heap.size w u1):=hb;have z1:=hb.size;clear hb;cases ab
 ·go_wp2_with fail
  go_ret;exact⟨Qa (Kc HAB.out).symm,K1.out⟩
 go_wp2_with fail
 go_loopw [24] (fun i wr=> ∃k:Nat,k≤n∧i= .int .i64 k∧VMap wr u1.heap.size k (QT (L.take k))∧(∀(t:Nat) x,t<k→L[t]? =some x→XS next (QT (L.take t)) x=true)∧Below w.heap.size w wr∧u1.heap.size≤wr.heap.size) (fun i _=>n-(intOf i).toNat)
 case atStart=>exact⟨0,Nat.zero_le _,rfl,⟨_,World.ownsMap_made _ _ _ _,⟨_,rfl⟩,fun d _=>by simp [QT];rfl⟩,fun t x ht=>by omega,Below.trans K1.out (by go_grown),by simp⟩
 case round=>
  obtain⟨k,hk,rfl,hv,hall,hbel,hzz⟩:=hrel;have HA:Hid (∀(t:Nat) x,t<k→L[t]? =some x→XS next (QT (L.take t)) x=true):=hall;have HV:Hid (VMap wr u1.heap.size k (QT (L.take k))):=hv;have HZ:Hid (u1.heap.size≤wr.heap.size):=hzz;clear hall hv hzz;by_cases hlt:k<n
  ·obtain⟨x,hx⟩:=ZF HL.out hlt;have HX:Hid (L[k]? =some x):=hx;have HXK:Hid (Qb2 x):=HK.out x (List.mem_of_getElem? hx);obtain⟨b,o,u,uc,s,sc,rfl,hl,c0,c1,c2,r1,r2⟩:=HR.out.2 k x hx;have hs:=hbel.size;have R1:Hid (IntRow wr u x.ups):=r1.below hbel;have R2:Hid (ClRow wr s x.m x.C x.R x.S):=r2.below hbel
   have KB:Hid (Below w.heap.size w wr):=hbel;rw [←hbel.cell (p:=⟨_,_,none⟩) hl]at c0 c1 c2;have hl2:b<wr.heap.size:=Nat.lt_of_lt_of_le hl hs;have h0:(0:Int)≤(k:Int):=by omega
   have h1:(k:Int)<(n:Int):=by omega
   obtain⟨pn,HPN⟩: ∃pn,Hid (x.ups.length=pn):=⟨_,rfl⟩;rw [HPN.out]at c1;clear hx r1 r2 hbel;by_cases i1:x.id<1
   ·go_wp2_with fail
    go_ret;exact⟨Qa (ZR HX.out (BP i1)).symm,by have:=KB.out;go_grown⟩
   by_cases i2:next≤x.id
   ·go_wp2_with fail
    go_ret;exact⟨Qa (ZR HX.out (BQ i2)).symm,by have:=KB.out;go_grown⟩
   obtain⟨ub,HUB⟩: ∃ub,Hid (Uc x.ups (QT (L.take k))=ub):=⟨_,rfl⟩;obtain⟨cb,HCB⟩: ∃cb,Hid (Zf x.C x.R x.S x.m=cb):=⟨_,rfl⟩;go_wp2_with fail
   obtain⟨Y,HY⟩: ∃X,Hid (wr.alloc (.cells #[.int .i64 x.id,.slice u pn uc,.slice s x.m sc] 44)=X):=⟨_,rfl⟩;rw [HY.out];have hbY:Below wr.heap.size wr Y:=by rw [←HY.out];go_grown
   have d_0:Y.cell? ⟨wr.heap.size,0,none⟩=some (.int .i64 x.id):=by rw [←HY.out];go_simp
   have d_1:Y.cell? ⟨wr.heap.size,1,none⟩=some (.slice u pn uc):=by rw [←HY.out];go_simp
   have d_2:Y.cell? ⟨wr.heap.size,2,none⟩=some (.slice s x.m sc):=by rw [←HY.out];go_simp
   have zY:wr.heap.size<Y.heap.size:=by rw [←HY.out];simp
   have KY:=hd (Qb KB.out hbY);have VY:=hd (HV.out.below hbY);have RY1:=hd (R1.out.below hbY);have RY2:=hd (R2.out.below hbY);clear hbY HY c0 c1 c2;refine(Be _ RY1.out HPN.out VY.out HXK.out.2).mono ?_;rintro e u2 ⟨rfl,hb⟩
   rw [HUB.out];replace d_0:=cy hb d_0;replace d_1:=cy hb d_1;replace d_2:=cy hb d_2;replace zY:wr.heap.size<u2.heap.size:=Nat.lt_of_lt_of_le zY hb.size;have K2:=hd (Qb KY.out hb);have V2:=hd (VY.out.below hb)
   have RZ2:=hd (RY2.out.below hb);clear hb KY VY RY1 RY2;cases ub
   ·go_wp2_with fail
    go_ret;exact⟨Qa (ZR HX.out (Hv HUB.out)).symm,K2.out⟩
   go_wp2_with fail
   refine(MI _ RZ2.out (HG.out.below K2.out)).mono ?_;rintro e u3 ⟨rfl,hb⟩;rw [HCB.out];replace d_0:=cy hb d_0;replace d_1:=cy hb d_1;replace d_2:=cy hb d_2;replace zY:wr.heap.size<u3.heap.size:=Nat.lt_of_lt_of_le zY hb.size
   have K3:=hd (Qb K2.out hb);obtain⟨D,ho,hD,hh⟩:=V2.out.below hb;have HO:Hid (u3.ownsMap Tryz.prog 2 vmE u1.heap.size k D):=ho;have HD:Hid (IsMap D):=hD;have HH:Hid (∀d,(Lit.int .i64 d).wf=true→Maps.has D (.int .i64 d)=decide (d∈QT (L.take k))):=hh;clear hb K2 V2 RZ2 ho hD hh;cases cb
   ·go_wp2_with fail
    go_ret;exact⟨Qa (ZR HX.out (BS HCB.out)).symm,K3.out⟩
   have HXW:Hid ((Lit.int .i64 x.id).wf=true):=Qir (by omega) (by omega);have HVB:Hid (XS next (QT (L.take k)) x=true):=BO (by omega) (by omega) HUB.out HCB.out
   go_wp2_with (first
    | (at_mapUpdate;refine wpList_mapUpdate_own _ rfl _ _ _ 97 rfl 2 44 keyedI Tryz.underlying97 vmE u1.heap.size k _ rfl HO.out (by unfold maxLen;omega) _ _ (.int .i64 x.id) rfl rfl (Qi4 HXW.out) _ [] (Bz _ _ _ _ _ _ _) ?_;intro w1 hown1 hgrow1)
    | go_in)
   have R3:Below w.heap.size w w1:=Below.grown K3.out hgrow1 K3.out.size (fun j hj=>by cases hj;exact z1);have HV1:Hid (VMap w1 u1.heap.size (k+1) (QT (L.take (k+1)))):=by rw [Dh HX.out];exact VMap.put (w:=w1) HD.out HXW.out HH.out hown1
   have hz9:=hgrow1.size;go_roundw
   case rel=>exact⟨k+1,by omega,by go_num,HV1.out,fun t y ht hy=>by
    by_cases e:t=k
    ·subst e;rw [HX.out]at hy;cases hy;exact HVB.out
    ·exact HA.out t y (by omega) hy,R3,by have:=HZ.out;omega⟩
   case measure=>simp [intOf];omega
  ·have h1: ¬(k:Int)<(n:Int):=by omega
   go_wp2_with fail
   go_ret;exact⟨Qa (UL (by rw [HL.out];omega) (by rw [HL.out];omega) HAB.out fun t x hx=>HA.out t x (by have:=(List.getElem?_eq_some_iff.1 hx).1;have:=HL.out;omega) hx).symm,hbel⟩
def YZ (l:List Int) (x:BR):Bool:=nmB x.n&&decide (x.h∈l)
def UD (l:List Int) (L:List BR):Bool:=decide (1≤L.length∧L.length≤8)&&(YM ltB L&&L.all (YZ l))
theorem GU {l:List Int} {L:List BR} (h:L.length<1∨8<L.length):UD l L=false:=by rw [UD,decide_eq_false (by omega),Bool.false_and]
theorem DA {l:List Int} {L:List BR} (h:YM ltB L=false):UD l L=false:=by rw [UD,h,Bool.false_and,Bool.and_false]
theorem Np {l:List Int} {L:List BR} {t:Nat} {x:BR} (hx:L[t]? =some x) (h:YZ l x=false):UD l L=false:=by
 have e:L.all (YZ l)=false:=by
  cases e:L.all (YZ l)with
  | false=>rfl
  | true=>have:=List.all_eq_true.1 e x (List.mem_of_getElem? hx);rw [this]at h;cases h
 rw [UD,e,Bool.and_false,Bool.and_false]
theorem Dz {l:List Int} {L:List BR} (h1:1≤L.length) (h2:L.length≤8) (h3:YM ltB L=true) (h4: ∀(t:Nat) x,L[t]? =some x→YZ l x=true):UD l L=true:=by
 have e:L.all (YZ l)=true:=List.all_eq_true.2 fun x hx=>by
  obtain⟨i,hi,rfl⟩:=List.mem_iff_getElem.1 hx;exact h4 i _ (List.getElem?_eq_getElem hi)
 rw [UD,e,h3,decide_eq_true ⟨h1,h2⟩];rfl
theorem KJ {A A2:Option Addr} {n cap m cap2:Nat} {L:List BR} {V:List VR} (w:World) (h:ZT w A L) (hL:L.length=n) (hk: ∀x∈L,UF x) (hh: ∀x∈L,(Lit.int .i64 x.h).wf=true) (h2:VrRow w A2 V) (hV:V.length=m) (hm:m≤1048576) (hw: ∀x∈V,(Lit.int .i64 x.id).wf=true):
  Calls Tryz.prog 34 #[.slice A n cap,.slice A2 m cap2] w fun e w'=>e= .returned (.bool (UD (QT V) L))∧Below w.heap.size w w':=by
 have HR:Hid (ZT w A L):=h;have HL:Hid (L.length=n):=hL;have HK:Hid (∀x∈L,UF x):=hk;have HH:Hid (∀x∈L,(Lit.int .i64 x.h).wf=true):=hh;have HR2:Hid (VrRow w A2 V):=h2;have HVL:Hid (V.length=m):=hV;have HVW:Hid (∀x∈V,(Lit.int .i64 x.id).wf=true):=hw
 have hn:=h.1;rw [hL]at hn;unfold maxLen at hn;clear h hL hk hh h2 hV hw;by_cases g1:(n:Int)<1
 ·go_enter Tryz.func34,Tryz.ntmps34;go_wp2_with fail
  go_ret;exact⟨Qa (GU (Or.inl (by rw [HL.out];omega))).symm,by go_grown⟩
 by_cases g2:(8:Int)<(n:Int)
 ·go_enter Tryz.func34,Tryz.ntmps34;go_wp2_with fail
  go_ret;exact⟨Qa (GU (Or.inr (by rw [HL.out];omega))).symm,by go_grown⟩
 obtain⟨ab,HAB⟩: ∃ab,Hid (YM ltB L=ab):=⟨_,rfl⟩;go_enter Tryz.func34,Tryz.ntmps34;go_wp2_with fail
 refine(Oh _ HR.out HL.out).mono ?_;rintro e u1 ⟨rfl,hb⟩;rw [HAB.out];have K1:Hid (Below w.heap.size w u1):=hb;clear hb;cases ab
 ·go_wp2_with fail
  go_ret;exact⟨Qa (DA HAB.out).symm,K1.out⟩
 go_wp2_with fail
 refine(Vd _ (HR2.out.below K1.out) HVL.out HVW.out hm).mono ?_;rintro e u2 ⟨rfl,hv,hb⟩;have K2:=hd (Qb K1.out hb);have HV:Hid (VMap u2 u1.heap.size m (QT V)):=hv;clear hb hv;go_wp2_with fail
 go_loopw [25] (fun i wr=> ∃k:Nat,k≤n∧i= .int .i64 k∧(∀(t:Nat) x,t<k→L[t]? =some x→YZ (QT V) x=true)∧Below u2.heap.size u2 wr) (fun i _=>n-(intOf i).toNat)
 case atStart=>exact⟨0,Nat.zero_le _,rfl,fun t x ht=>by omega,Below.refl _ _⟩
 case round=>
  obtain⟨k,hk,rfl,hall,hbel⟩:=hrel;have HA:Hid (∀(t:Nat) x,t<k→L[t]? =some x→YZ (QT V) x=true):=hall;have KW:=hd (Qb K2.out hbel);have KB:Hid (Below u2.heap.size u2 wr):=hbel;have HV2:=hd (HV.out.below hbel);clear hall hbel;by_cases hlt:k<n
  ·obtain⟨x,hx⟩:=ZF HL.out hlt;have HX:Hid (L[k]? =some x):=hx;have HXK:Hid (UF x):=HK.out x (List.mem_of_getElem? hx);have HXH:Hid ((Lit.int .i64 x.h).wf=true):=HH.out x (List.mem_of_getElem? hx);obtain⟨b,o,rfl,hl,hc⟩:=HR.out.2 k x hx;have c0:w.cell? ⟨b,o+k*2,none⟩=some (.string x.n):=hc 0 _ rfl;have c1:w.cell? ⟨b,o+k*2+1,none⟩=some (.int .i64 x.h):=hc 1 _ rfl
   rw [←KW.out.cell (p:=⟨_,_,none⟩) hl]at c0 c1;have hl2:b<wr.heap.size:=Nat.lt_of_lt_of_le hl KW.out.size;have h0:(0:Int)≤(k:Int):=by omega
   have h1:(k:Int)<(n:Int):=by omega
   clear hx hc;obtain⟨nb,HNB⟩: ∃nb,Hid (nmB x.n=nb):=⟨_,rfl⟩;obtain⟨ib,HIB⟩: ∃ib,Hid (decide (x.h∈QT V)=ib):=⟨_,rfl⟩;go_wp2_with fail
   obtain⟨Y,HY⟩: ∃X,Hid (wr.alloc (.cells #[.string x.n,.int .i64 x.h] 40)=X):=⟨_,rfl⟩;rw [HY.out];have hbY:Below wr.heap.size wr Y:=by rw [←HY.out];go_grown
   have d_0:Y.cell? ⟨wr.heap.size,0,none⟩=some (.string x.n):=by rw [←HY.out];go_simp
   have d_1:Y.cell? ⟨wr.heap.size,1,none⟩=some (.int .i64 x.h):=by rw [←HY.out];go_simp
   have zY:wr.heap.size<Y.heap.size:=by rw [←HY.out];simp
   have KY:=hd (Qb KW.out hbY);have KYB:=hd (Qb KB.out hbY);have VY:=hd (HV2.out.below hbY);clear hbY HY c0 c1;refine(Oj x.n _ HXK.out).mono ?_;rintro e u3 ⟨rfl,hw3⟩;subst u3
   rw [HNB.out];cases nb
   ·go_wp2_with fail
    go_ret;exact⟨Qa (Np HX.out (by rw [YZ,HNB.out];rfl)).symm,KY.out⟩
   go_wp2_with fail
   refine(Gt x.h _ VY.out HXH.out).mono ?_;rintro e u4 ⟨rfl,hb⟩;rw [HIB.out];have K4:=hd (Qb KY.out hb);have K4B:=hd (Qb KYB.out hb);clear hb;cases ib
   ·go_wp2_with fail
    go_ret;exact⟨Qa (Np HX.out (by rw [YZ,HIB.out,Bool.and_false])).symm,K4.out⟩
   have HONE:Hid (YZ (QT V) x=true):=by show _=_;rw [YZ,HNB.out,HIB.out];rfl
   go_wp2_with fail
   go_roundw
   case rel=>exact⟨k+1,by omega,by go_num,fun t y ht hy=>by
    by_cases e:t=k
    ·subst e;rw [HX.out]at hy;cases hy;exact HONE.out
    ·exact HA.out t y (by omega) hy,K4B.out⟩
   case measure=>simp [intOf];omega
  ·have h1: ¬(k:Int)<(n:Int):=by omega
   go_wp2_with fail
   go_ret;exact⟨Qa (Dz (by rw [HL.out];omega) (by rw [HL.out];omega) HAB.out fun t x hx=>HA.out t x (by have:=(List.getElem?_eq_some_iff.1 hx).1;have:=HL.out;omega) hx).symm,KW.out⟩
def Xe (d:DG):Bool:=decide (1<d.next)&&(decide (d.next≤1000000000)&&(YW d.next d.vs&&UD (QT d.vs) d.bs))
theorem On {next:Int} {L:List VR} (h:YW next L=true) (hn:next≤1000000000): ∀x∈L,1≤x.id∧x.id<next:=fun x hx=>by
 obtain⟨i,hi,rfl⟩:=List.mem_iff_getElem.1 hx;simp only [YW,Bool.and_eq_true]at h;have h9:=List.all_eq_true.1 h.2.2 i (List.mem_range.2 hi);rw [List.getElem?_eq_getElem hi]at h9;have h8:XS next (QT (L.take i)) L[i]=true:=h9;simp only [XS,Bool.and_eq_true,decide_eq_true_eq]at h8;exact⟨h8.1,h8.2.1⟩
theorem Qi5 {v:Value} {d:DG} (w:World) (h:DgRow w v d) (hk:DgOk d) (hl:DgLil d) (hg:GI w):
  Calls Tryz.prog 16 #[v] w fun e w'=>e= .returned (.bool (Xe d))∧Below w.heap.size w w':=by
 obtain⟨A1,n1,c1,A2,n2,c2,rfl⟩:=h.agg;obtain⟨r1,e1,r2,e2⟩:=h.open;have R1:Hid (VrRow w A1 d.vs):=r1;have R2:Hid (ZT w A2 d.bs):=r2;have E1:Hid (d.vs.length=n1):=e1;have E2:Hid (d.bs.length=n2):=e2;have HK:Hid (DgOk d):=hk
 have HL:Hid (DgLil d):=hl;have HG:Hid (GI w):=hg;clear h r1 r2 e1 e2 hk hl hg;by_cases h1:1<d.next
 case neg=>
  go_enter Tryz.func16,Tryz.ntmps16;go_wp2_with fail
  go_ret;exact⟨Qa (by rw [Xe,decide_eq_false (by omega),Bool.false_and]),by go_grown⟩
 by_cases h2:d.next≤1000000000
 case neg=>
  go_enter Tryz.func16,Tryz.ntmps16;go_wp2_with fail
  go_ret;exact⟨Qa (by rw [Xe,decide_eq_false (p:=d.next≤1000000000) (by omega),Bool.false_and,Bool.and_false]),by go_grown⟩
 obtain⟨vb,HVB⟩: ∃vb,Hid (YW d.next d.vs=vb):=⟨_,rfl⟩;obtain⟨bb,HBB⟩: ∃bb,Hid (UD (QT d.vs) d.bs=bb):=⟨_,rfl⟩;have HE:Hid (Xe d=(vb&&bb)):=by show _=_;rw [Xe,HVB.out,HBB.out,decide_eq_true h1,decide_eq_true h2];rfl
 go_enter Tryz.func16,Tryz.ntmps16;go_wp2_with fail
 refine(Kz d.next _ (R1.out.below (by go_grown)) E1.out HK.out.v h2 (HG.out.below (by go_grown))).mono ?_;rintro e u1 ⟨rfl,hb⟩;rw [HVB.out];obtain⟨hc,hf,hC,hF,hz,hkk,l0⟩:=bk1 (w:=w) (by go_grown) (by go_size) hb;clear hb;cases vb
 ·go_wp2_with fail
  go_ret;exact⟨Qa (by rw [HE.out];rfl),hkk⟩
 have HW:Hid (∀x∈d.vs,(Lit.int .i64 x.id).wf=true):=fun x hx=>Qir (On HVB.out h2 x hx).1 (by have:=(On HVB.out h2 x hx).2;omega);go_wp2_with fail
 refine(KJ _ (R2.out.below hkk) E2.out HK.out.b HK.out.h (R1.out.below hkk) E1.out (by rw [←E1.out];exact HL.out.nv) HW.out).mono ?_;rintro e u2 ⟨rfl,hb⟩;rw [HBB.out];have K2:=hd (Qb hkk hb);clear hb;go_wp2_with fail
 go_ret;exact⟨Qa (by rw [HE.out];rfl),K2.out⟩
end Go.Proofs.YtdcokcbolecanaaGreatDoor
