import Derived.Test.YtejbnnacghbhoaaGreatDoorBase
import Derived.Deep.RegionHeld3
import Derived.OrdersIn
import Derived.ControlIn
import Derived.CallsIn
import Derived.RangeFuncCalls
import Derived.Test.YtejbnnacghbhoaaGreatDoorMn
import Derived.Test.YtejbnnacghbhoaaGreatDoorMd
import Derived.Sort.MapsRangeIn
import Derived.OwnWalkIn
import Derived.LoopIn
import Derived.Shelf.SlIter.Collect
import Derived.Shelf.RegionOpen
set_option linter.unusedSimpArgs false
set_option linter.unusedVariables false
set_option maxHeartbeats 4000000
set_option maxRecDepth 100000
namespace Go.Proofs.YtejbnnacghbhoaaGreatDoor
open Go.RowKit
def OnlyN (Q:Exit→Act→World→Prop):Exit→Act→World→Prop
 | .normal,a,w=>Q .normal a w
 | _,_,_=>False
def noDefer (ops:Array Oper):Bool:=ops.all fun o=>match o.op with
 | .defer _=>false
 | _=>true
theorem noDefer_at {ops:Array Oper} (h:noDefer ops=true) {i:Nat} {o:Oper} (ho:ops[i]? =some o): ∀c,o.op≠ .defer c:=fun c e=>by
 unfold noDefer at h;rw [Array.all_eq_true_iff_forall_mem]at h;have:=h o (Array.mem_of_getElem? ho);rw [e]at this;cases this
theorem OnlyN.out {Q:Exit→Act→World→Prop} (h:LetsOut (OnlyN Q)):False:=by
 obtain⟨a,w,h⟩:=h;exact h
theorem wpIn_of_wp {P:Program} {l n:Nat} {o:Oper} {a:Act} {w:World} {K K':Act→World→Prop} {Q:Exit→Act→World→Prop} (hdq: ∀c,o.op≠ .defer c) (hK: ∀a w,K a w→K' a w) (h:o.wp P a w K (OnlyN Q)):o.wpIn (Fence.wide.inRound l) n P a w K' (OnlyN Q):=by
 refine⟨fun _ _=>trivial,?_⟩;rw [Oper.semAt_eq _ _ _ hdq];unfold Oper.wp at h;generalize (execOp a.eval o).run P w=r at*
 cases r with
 | ok x w'=>
  cases x with
  | value v=>exact hK _ _ h
  | skip=>exact hK _ _ h
  | defer d=>exact hK _ _ h
  | enter f args=>
   refine⟨(fun e=>by cases e),?_⟩;exact CallsIn.mono (callsIn_wide.2 h) (fun e w'' he=>by cases e<;>first | exact hK _ _ he | exact he)
  | row row args=>
   refine⟨(fun e=>by cases e),?_⟩
   exact fun c cs _=>by
    obtain⟨v,w2,r,s⟩:=h c cs;exact⟨v,w2,hK _ _ r,stepsIn_wide.2 s⟩
  | _=>exact h.elim
 | halt x w'=>cases x<;>first | exact h | exact h.elim
theorem wpAny_round {P:Program} {md:Region.Mode} {ops:Array Oper} {Q:Exit→Act→World→Prop} {l n:Nat} (hdq:noDefer ops=true): ∀(fuel:Nat) (listed:Array Bool) (a:Act) (w:World),wpAny P md ops (OnlyN Q) fuel listed a w→wpAnyIn (Fence.wide.inRound l) n P md ops (OnlyN Q) fuel listed a w
 | 0,_,_,_,h=>h
 | fuel+1,listed,a,w,h=>⟨h.1,fun i hi=>by
  have h9:=h.2 i hi;unfold wpOp at h9;unfold wpOpIn;cases ho:ops[i]? with
  | none=>rw [ho]at h9;exact wpAny_round hdq fuel _ _ _ h9
  | some o=>
   rw [ho]at h9;simp only at h9 ⊢;split
   ·rename_i hw
    rw [if_pos hw]at h9;rcases h9 with h9 | h9
    ·exact wpIn_of_wp (noDefer_at hdq ho) (fun a' w' h'=>wpAny_round hdq fuel _ a' w' h') h9
    ·exact(OnlyN.out h9.2).elim
   ·rename_i hw
    rw [if_neg hw]at h9
    exact⟨fun _ _=>trivial,wpAny_round hdq fuel _ _ _ h9⟩⟩
theorem region_round {P:Program} {ops:Array Oper} {Q:Exit→Act→World→Prop} {S:World→Prop} {l n id:Nat} {a:Act} {w:World} (hm:P.follows .mixedOrders=true) (hdq:noDefer ops=true) (hS:S w.drew)
  (h:S w.drew→wpAnyH P .any ops (OnlyN Q) S ops.size (Array.replicate ops.size false) a w.drew):(Code.region id ops true).wpIn (Fence.wide.inRound l) n P Q a w:=fun b k cs hro hb hr=>by
 obtain⟨e,a',w',q,r⟩:=wpIn_region_any (id:=id) hm (wpAny_round (l:=l) (n:=n) hdq _ _ _ _ (wpAny_of_held _ _ _ _ (h hS))) b k cs hro hb hr;refine⟨e,a',w',?_,r⟩;cases e<;>first | exact q | exact q.elim
end Go.Proofs.YtejbnnacghbhoaaGreatDoor
namespace Go.Proofs.YtejbnnacghbhoaaGreatDoor
open Go.RowKit Go.Maps Go.Sort Go.Shelf
def szW (W:World) (b:Nat):Nat:=match W.cell? ⟨b,0,none⟩with
 | some (.string s)=>s.size
 | _=>0
theorem szW_of {W:World} {b:Nat} {s:ByteArray} (h:W.cell? ⟨b,0,none⟩=some (.string s)):szW W b=s.size:=by unfold szW;rw [h]
theorem ln_hit {r:ByteArray} (h:10∈r.data.toList): ∃i:Nat,i<r.size∧Lib.indexByte r.data.toList 10=(i:Int)∧r.extract 0 (i+1)=bs (cw 10 r.data.toList++ [10])∧r.extract (i+1) r.size=bs (cr 10 r.data.toList):=by
 obtain⟨x,y,e,hx⟩:=List.eq_append_cons_of_mem h;have hx2: ∀z∈x,z≠10:=fun z hz e=>hx (e▸hz);obtain⟨a1,a2⟩:=XK (b:=10) y hx2;rw [←e]at a1 a2
 have hz:r.size=x.length+(y.length+1):=by
  have:=congrArg List.length e;simpa using this
 refine⟨x.length,by omega,by rw [(MW 10 _).1 h,a1],?_,?_⟩
 ·apply ByteArray.ext;apply Array.toList_inj.1;rw [Qq5,a1,e];show _=x++ [10];rw [List.drop_zero,Nat.sub_zero,List.take_append,List.take_of_length_le (by omega)];simp
 ·apply ByteArray.ext;apply Array.toList_inj.1;rw [Qq5,a2,e];show _=y;rw [List.drop_append,List.drop_of_length_le (by omega)];simp;exact List.take_of_length_le (by omega)
theorem wpIn_of_wpW {P:Program} {n:Nat} {o:Oper} {a:Act} {w:World} {K K':Act→World→Prop} {Q:Exit→Act→World→Prop} (hdq: ∀c,o.op≠ .defer c) (hK: ∀a w,K a w→K' a w) (h:o.wp P a w K (OnlyN Q)):o.wpIn Fence.wide n P a w K' (OnlyN Q):=by
 refine⟨fun _ _=>trivial,?_⟩;rw [Oper.semAt_eq _ _ _ hdq];unfold Oper.wp at h;generalize (execOp a.eval o).run P w=r at*
 cases r with
 | ok x w'=>
  cases x with
  | value v=>exact hK _ _ h
  | skip=>exact hK _ _ h
  | defer d=>exact hK _ _ h
  | enter f args=>
   refine⟨(fun e=>by cases e),?_⟩;exact CallsIn.mono (callsIn_wide.2 h) (fun e w'' he=>by cases e<;>first | exact hK _ _ he | exact he)
  | row row args=>
   refine⟨(fun e=>by cases e),?_⟩
   exact fun c cs _=>by
    obtain⟨v,w2,r,s⟩:=h c cs;exact⟨v,w2,hK _ _ r,stepsIn_wide.2 s⟩
  | _=>exact h.elim
 | halt x w'=>cases x<;>first | exact h | exact h.elim
theorem wpAny_wide {P:Program} {md:Region.Mode} {ops:Array Oper} {Q:Exit→Act→World→Prop} {n:Nat} (hdq:noDefer ops=true): ∀(fuel:Nat) (listed:Array Bool) (a:Act) (w:World),wpAny P md ops (OnlyN Q) fuel listed a w→wpAnyIn Fence.wide n P md ops (OnlyN Q) fuel listed a w
 | 0,_,_,_,h=>h
 | fuel+1,listed,a,w,h=>⟨h.1,fun i hi=>by
  have h9:=h.2 i hi;unfold wpOp at h9;unfold wpOpIn;cases ho:ops[i]? with
  | none=>rw [ho]at h9;exact wpAny_wide hdq fuel _ _ _ h9
  | some o=>
   rw [ho]at h9;simp only at h9 ⊢;split
   ·rename_i hw
    rw [if_pos hw]at h9;rcases h9 with h9 | h9
    ·exact wpIn_of_wpW (noDefer_at hdq ho) (fun a' w' h'=>wpAny_wide hdq fuel _ a' w' h') h9
    ·exact(OnlyN.out h9.2).elim
   ·rename_i hw
    rw [if_neg hw]at h9
    exact⟨fun _ _=>trivial,wpAny_wide hdq fuel _ _ _ h9⟩⟩
theorem region_wide {P:Program} {ops:Array Oper} {Q:Exit→Act→World→Prop} {S:World→Prop} {n id:Nat} {a:Act} {w:World} (hm:P.follows .mixedOrders=true) (hdq:noDefer ops=true) (hS:S w.drew)
  (h:S w.drew→wpAnyH P .any ops (OnlyN Q) S ops.size (Array.replicate ops.size false) a w.drew):(Code.region id ops true).wpIn Fence.wide n P Q a w:=fun b k cs hro hb hr=>by
 obtain⟨e,a',w',q,r⟩:=wpIn_region_any (id:=id) hm (wpAny_wide (n:=n) hdq _ _ _ _ (wpAny_of_held _ _ _ _ (h hS))) b k cs hro hb hr;refine⟨e,a',w',?_,r⟩;cases e<;>first | exact q | exact q.elim
theorem lines1 (n:Nat) (hn:1≤n) (l Bx:Nat) (s:ByteArray) (hs:s.size≤1048576) (J:List (List UInt8)→World→Prop) (W:World)
  (hbox:W.cell? ⟨Bx,0,none⟩=some (.string s)) (hfz:W.frozen? ⟨Bx,0,none⟩=false) (hJ0:J [] W)
  (hJ: ∀pre Wa Wb,J pre Wa→Wa.grownBy Wb (some Bx)→J pre Wb)
  (hY: ∀pre x p Wa,J pre Wa→pre.length<(lnI s.data.toList).length→p.length≤1048576→x.length≤1048576→Lib.trimSuffix p [10]=x→YieldAt Fence.wide (n-1) Tryz.prog l #[.string (bs p)] Wa fun e Wb=>e= .returned (.bool true)∧J (pre++ [x]) Wb∧Wb.heap[Bx]? =Wa.heap[Bx]?):
  CallsIn Fence.wide n Tryz.prog 88 #[.func (.yield l) #[] #[],.pointer (some ⟨Bx,0,none⟩)] W fun e W'=>(∃v,e= .returned v)∧J (lnI s.data.toList) W':=by
 have HB:Hid (W.cell? ⟨Bx,0,none⟩=some (.string s)):=hbox;have HF:Hid (W.frozen? ⟨Bx,0,none⟩=false):=hfz;have HJ0:Hid (J [] W):=hJ0;have HJ:Hid (∀pre Wa Wb,J pre Wa→Wa.grownBy Wb (some Bx)→J pre Wb):=hJ;have HY:Hid (_):=hY;clear hbox hfz hJ0 hJ hY;refine callsIn_of_wp Tryz.func88 rfl trivial ?_ rfl
 simp only [Tryz.ntmps88,List.size_toArray,List.length_cons,List.length_nil,Nat.reduceAdd,Nat.reduceSub,Array.replicate_succ,Array.replicate_zero,List.push_toArray,List.append_toArray,List.nil_append,List.cons_append];gi_wp2
 gi_loopw [] (fun wr=> ∃(r:ByteArray) (pre:List (List UInt8)),wr.cell? ⟨Bx,0,none⟩=some (.string r)∧wr.frozen? ⟨Bx,0,none⟩=false∧r.size≤s.size∧lnI s.data.toList=pre++lnI r.data.toList∧J pre wr) (fun wr=>szW wr Bx)
 case atStart=>exact⟨s,[],HB.out,HF.out,Nat.le_refl _,rfl,HJ0.out⟩
 case round=>
  obtain⟨r,pre,hc,hf,hz,hl,hj⟩:=hrel;have HJP:Hid (J pre wr):=hj;have HL:Hid (lnI s.data.toList=pre++lnI r.data.toList):=hl;have hBx:Bx<wr.heap.size:=World.block_lt_of_cell? wr ⟨Bx,0,none⟩ hc;clear hj hl;by_cases h0:0<r.size
  ·have p0:(0:Int)<(r.size:Int):=by omega
   have hrl:r.data.toList.length=r.size:=by simp
   have hne:r.data.toList≠ []:=fun e=>by rw [e,List.length_nil]at hrl;omega
   have HS:Hid (lnI r.data.toList=cw 10 r.data.toList::lnI (cr 10 r.data.toList)):=Qra hne;have HPL:Hid (pre.length<(lnI s.data.toList).length):=by show _<_;rw [HL.out,HS.out];simp
   by_cases hm:10∈r.data.toList
   ·obtain⟨i,hi,hix,hx1,hx2⟩:=ln_hit hm;have hwl:=cw_len 10 r.data.toList;have hcl:(cw 10 r.data.toList).length=i:=by have:=(MW 10 _).1 hm;omega
    have q0:(0:Int)≤(i:Int):=by omega
    have q1:(i:Int)+1≤(r.size:Int):=by omega
    have q2:(0:Int)≤(i:Int)+1:=by omega
    have q3:IntKind.i64.wrap ((i:Int)+1)=(i:Int)+1:=by rw [IntKind.wrap_i64];omega
    gi_wp2
    refine⟨trivial,?_⟩;refine(callsIn_wide.2 (Qf2 r _)).mono ?_;rintro e w' ⟨rfl,rfl⟩;rw [hix];gi_wp2
    have hmix:Tryz.prog.follows .mixedOrders=true:=by kernel_rfl
    have hcd:w'.drew.cell? ⟨Bx,0,none⟩=some (.string r):=hc;refine region_wide (S:=(fun wq=>Bx<wq.heap.size)) hmix (by kernel_rfl) (by simpa using hBx) (fun hHeld=> ?_);refine tkA 1 ?_;refine tkB 2 ?_;refine tkA 5 ?_;refine tkB 6 ?_;refine rqB 0 4 (fun Kq hKq=> ?_) (fun Kq hKq=> ?_)
    ·go_simp;refine hKq.out _ _ (by simpa using hBx) (fun hHeld=> ?_);clear hKq Kq;try simp only [Act.put,List.getElem_toArray,List.getElem_cons_zero,List.getElem_cons_succ,List.setIfInBounds_toArray,List.set_cons_zero,List.set_cons_succ]
     refine tkA 3 ?_;refine tkB 8 ?_;refine rqA 4 (fun Kq hKq=> ?_);go_simp;refine hKq.out _ _ (by simpa using hBx) (fun hHeld=> ?_);clear hKq Kq;try simp only [Act.put,List.getElem_toArray,List.getElem_cons_zero,List.getElem_cons_succ,List.setIfInBounds_toArray,List.set_cons_zero,List.set_cons_succ]
     refine tkB 7 ?_;refine rqA 9 (fun Kq hKq=> ?_);go_simp;refine hKq.out _ _ (by simpa using hBx) (fun hHeld=> ?_);clear hKq Kq;try simp only [Act.put,List.getElem_toArray,List.getElem_cons_zero,List.getElem_cons_succ,List.setIfInBounds_toArray,List.set_cons_zero,List.set_cons_succ]
     refine wpAnyH_done (by kernel_rfl) ?_ _;simp only [OnlyN];obtain⟨W2,HW2⟩: ∃W2,Hid ((w'.setCell ⟨Bx,0,none⟩ (.string (bs (cr 10 r.data.toList)))).drew=W2):=⟨_,rfl⟩;have hc2:W2.cell? ⟨Bx,0,none⟩=some (.string (bs (cr 10 r.data.toList))):=by rw [←HW2.out];exact World.cell?_setCell_same _ _ _ hc
     have hf2:W2.frozen? ⟨Bx,0,none⟩=false:=by rw [←HW2.out];show World.frozen? _ _=_;simpa using hf
     have hg2:w'.grownBy W2 (some Bx):=by rw [←HW2.out];exact⟨rfl,rfl,rfl,by simp,fun k hk hr=>by
      have hne:k≠Bx:=fun e=>hr (congrArg some e)
      exact Below.heap_setCell _ _ _ _ (by simpa using hne)⟩
     have HJ2:Hid (J pre W2):=HJ.out _ _ _ HJP.out hg2;have hwl2:(cw 10 r.data.toList++ [10]).length≤1048576:=by rw [List.length_append,List.length_singleton];omega
     obtain⟨fn,tmps,asg,body,hyy,hR⟩:=HY.out pre (cw 10 r.data.toList) (cw 10 r.data.toList++ [10]) W2 HJ2.out HPL.out hwl2 (by omega) (Qsk _);rw [HW2.out];clear hg2 HW2;gi_wp2_with (refine hR.mono ?_;rintro e w5 ⟨rfl,hJ5,hk5⟩)
     have hcl2:=cr_len 10 r.data.toList;have hc5:w5.cell? ⟨Bx,0,none⟩=some (.string (bs (cr 10 r.data.toList))):=(World.cell?_of_block hk5).trans hc2;have hf5:w5.frozen? ⟨Bx,0,none⟩=false:=by have:=hf2;unfold World.frozen? at this ⊢;simpa only [hk5]using this
     have hsz5:(bs (cr 10 r.data.toList)).size<r.size:=by
      rw [Qz];obtain⟨x9,y9,e9,hx9⟩:=List.eq_append_cons_of_mem hm;obtain⟨_,a2⟩:=XK (b:=10) y9 (fun z hz e=>hx9 (e▸hz));rw [←e9]at a2;have h8:=congrArg List.length e9;rw [a2];simp at h8
      omega
     go_roundw
     case rel=>exact⟨_,pre++ [cw 10 r.data.toList],hc5,hf5,by omega,by rw [HL.out,HS.out,bs_lq];simp,hJ5⟩
     case measure=>rw [szW_of hc5,szW_of hc];exact hsz5
    ·go_simp;refine hKq.out _ _ (by simpa using hBx) (fun hHeld=> ?_);clear hKq Kq;try simp only [Act.put,List.getElem_toArray,List.getElem_cons_zero,List.getElem_cons_succ,List.setIfInBounds_toArray,List.set_cons_zero,List.set_cons_succ]
     refine tkB 7 ?_;refine rqA 0 (fun Kq hKq=> ?_);go_simp;refine hKq.out _ _ (by simpa using hBx) (fun hHeld=> ?_);clear hKq Kq;try simp only [Act.put,List.getElem_toArray,List.getElem_cons_zero,List.getElem_cons_succ,List.setIfInBounds_toArray,List.set_cons_zero,List.set_cons_succ]
     refine tkA 3 ?_;refine tkB 8 ?_;refine rqA 9 (fun Kq hKq=> ?_);go_simp;refine hKq.out _ _ (by simpa using hBx) (fun hHeld=> ?_);clear hKq Kq;try simp only [Act.put,List.getElem_toArray,List.getElem_cons_zero,List.getElem_cons_succ,List.setIfInBounds_toArray,List.set_cons_zero,List.set_cons_succ]
     refine wpAnyH_done (by kernel_rfl) ?_ _;simp only [OnlyN];obtain⟨W2,HW2⟩: ∃W2,Hid ((w'.setCell ⟨Bx,0,none⟩ (.string (bs (cr 10 r.data.toList)))).drew=W2):=⟨_,rfl⟩;have hc2:W2.cell? ⟨Bx,0,none⟩=some (.string (bs (cr 10 r.data.toList))):=by rw [←HW2.out];exact World.cell?_setCell_same _ _ _ hc
     have hf2:W2.frozen? ⟨Bx,0,none⟩=false:=by rw [←HW2.out];show World.frozen? _ _=_;simpa using hf
     have hg2:w'.grownBy W2 (some Bx):=by rw [←HW2.out];exact⟨rfl,rfl,rfl,by simp,fun k hk hr=>by
      have hne:k≠Bx:=fun e=>hr (congrArg some e)
      exact Below.heap_setCell _ _ _ _ (by simpa using hne)⟩
     have HJ2:Hid (J pre W2):=HJ.out _ _ _ HJP.out hg2;have hwl2:(cw 10 r.data.toList++ [10]).length≤1048576:=by rw [List.length_append,List.length_singleton];omega
     obtain⟨fn,tmps,asg,body,hyy,hR⟩:=HY.out pre (cw 10 r.data.toList) (cw 10 r.data.toList++ [10]) W2 HJ2.out HPL.out hwl2 (by omega) (Qsk _);rw [HW2.out];clear hg2 HW2;gi_wp2_with (refine hR.mono ?_;rintro e w5 ⟨rfl,hJ5,hk5⟩)
     have hcl2:=cr_len 10 r.data.toList;have hc5:w5.cell? ⟨Bx,0,none⟩=some (.string (bs (cr 10 r.data.toList))):=(World.cell?_of_block hk5).trans hc2;have hf5:w5.frozen? ⟨Bx,0,none⟩=false:=by have:=hf2;unfold World.frozen? at this ⊢;simpa only [hk5]using this
     have hsz5:(bs (cr 10 r.data.toList)).size<r.size:=by
      rw [Qz];obtain⟨x9,y9,e9,hx9⟩:=List.eq_append_cons_of_mem hm;obtain⟨_,a2⟩:=XK (b:=10) y9 (fun z hz e=>hx9 (e▸hz));rw [←e9]at a2;have h8:=congrArg List.length e9;rw [a2];simp at h8
      omega
     go_roundw
     case rel=>exact⟨_,pre++ [cw 10 r.data.toList],hc5,hf5,by omega,by rw [HL.out,HS.out,bs_lq];simp,hJ5⟩
     case measure=>rw [szW_of hc5,szW_of hc];exact hsz5
   ·have hnm: ∀z∈r.data.toList,z≠10:=fun z hz e=>hm (e▸hz);obtain⟨a1,a2⟩:=Hf hnm;have HS2:Hid (lnI r.data.toList= [r.data.toList]):=by show _=_;rw [HS.out,a1,a2];rfl
    have hix:Lib.indexByte r.data.toList 10= -1:=(MW 10 _).2 hm;gi_wp2
    refine⟨trivial,?_⟩;refine(callsIn_wide.2 (Qf2 r _)).mono ?_;rintro e w' ⟨rfl,rfl⟩;rw [hix];obtain⟨W2,HW2⟩: ∃W2,Hid (w'.setCell ⟨Bx,0,none⟩ (.string ⟨#[]⟩)=W2):=⟨_,rfl⟩;have hc2:W2.cell? ⟨Bx,0,none⟩=some (.string ⟨#[]⟩):=by rw [←HW2.out];exact World.cell?_setCell_same _ _ _ hc
    have hf2:W2.frozen? ⟨Bx,0,none⟩=false:=by rw [←HW2.out];simpa using hf
    have hg2:w'.grownBy W2 (some Bx):=by rw [←HW2.out];exact⟨rfl,rfl,rfl,by simp,fun k hk hr=>by
     have hne:k≠Bx:=fun e=>hr (congrArg some e)
     exact Below.heap_setCell _ _ _ _ (by simpa using hne)⟩
    have HJ2:Hid (J pre W2):=HJ.out _ _ _ HJP.out hg2;obtain⟨fn,tmps,asg,body,hyy,hR⟩:=HY.out pre r.data.toList r.data.toList W2 HJ2.out HPL.out (by omega) (by omega) (Qsj hnm);rw [Nh]at hyy;have hw2:=HW2.out;clear hg2 HW2
    gi_wp2_with (first
     | (rw [hw2];fail)
     | (refine hR.mono ?_;rintro e w5 ⟨rfl,hJ5,hk5⟩))
    have hc5:w5.cell? ⟨Bx,0,none⟩=some (.string ⟨#[]⟩):=(World.cell?_of_block hk5).trans hc2;have hf5:w5.frozen? ⟨Bx,0,none⟩=false:=by have:=hf2;unfold World.frozen? at this ⊢;simpa only [hk5]using this
    go_roundw
    case rel=>exact⟨_,pre++ [r.data.toList],hc5,hf5,Nat.zero_le _,by rw [HL.out,HS2.out];simp [Qss],hJ5⟩
    case measure=>rw [szW_of hc5,szW_of hc];exact h0
  ·have p0: ¬(0:Int)<(r.size:Int):=by omega
   have hrn:r.data.toList= []:=by
    have hrl:r.data.toList.length=r.size:=by simp
    exact List.eq_nil_of_length_eq_zero (by omega)
   have HL2:Hid (lnI s.data.toList=pre):=by show _=_;rw [HL.out,hrn,Qss,List.append_nil]
   gi_wp2
   go_end0
   exact⟨⟨_,rfl⟩,by rw [HL2.out];exact HJP.out⟩
attribute [local go_sem] Oper.semAt_some
theorem stSlNe:34≠69:=by decide
theorem infoStm:(Tryz.prog.info? 69).map (fun i=>(i.zero,i.size,i.bytes))=some (some (.agg #[.int .i64 0,.int .i64 0,.int .i64 0,.string ⟨#[]⟩,.int .i64 0]),5,48):=by kernel_rfl
def rmAssign : Code := (Code.region 5 #[{ dst := some 5, op := Op.assign (Operand.tmp 11), type := 9, pos := "l11_macros.go:74", after := #[], guard := none }] false)
def rmBody : Code := (Code.block 1 (Code.region 6 #[{ dst := some 12, op := Op.load 34 (Operand.tmp 4), type := 34, pos := "l11_macros.go:75", after := #[], guard := none }, { dst := some 13, op := Op.move (Operand.tmp 5), type := 9, pos := "l11_macros.go:75", after := #[], guard := none }, { dst := some 14, op := Op.call { callee := Callee.value (Operand.func 48), args := #[Operand.tmp 13, Operand.const (Value.string { data := #[10] })], argTypes := #[9, 9] }, type := 9, pos := "l11_macros.go:75", after := #[{ on := 1, ground := Ground.data }], guard := none }, { dst := some 15, op := Op.call { callee := Callee.value (Operand.func 47), args := #[Operand.tmp 14], argTypes := #[9] }, type := 69, pos := "l11_macros.go:75", after := #[{ on := 2, ground := Ground.data }, { on := 2, ground := Ground.chain }], guard := none }, { dst := some 16, op := Op.buildSlice 34 1 #[(0, Operand.tmp 15)], type := 34, pos := "l11_macros.go:75", after := #[{ on := 3, ground := Ground.data }], guard := none }, { dst := some 17, op := Op.call { callee := Callee.builtin Builtin.append, args := #[Operand.tmp 12, Operand.tmp 16], argTypes := #[34, 34] }, type := 34, pos := "l11_macros.go:75", after := #[{ on := 0, ground := Ground.data }, { on := 4, ground := Ground.data }, { on := 3, ground := Ground.chain }], guard := none }, { dst := none, op := Op.store 34 (Operand.tmp 4) (Operand.tmp 17), type := 0, pos := "l11_macros.go:75", after := #[{ on := 5, ground := Ground.data }, { on := 5, ground := Ground.chain }, { on := 0, ground := Ground.phase }, { on := 1, ground := Ground.phase }, { on := 2, ground := Ground.phase }, { on := 3, ground := Ground.phase }, { on := 4, ground := Ground.phase }, { on := 5, ground := Ground.phase }], guard := none }] true))
def rmRec (fn:FuncId) (s:ByteArray) (cn:Int) (sv:Value) (Bs D:Nat) (st:LoopState) (pend:Option Code):Loop:=
 {state:=st,pending:=pend,fn,tmps:= #[.string s,undef,.slice none 0 0,.bool false,.pointer (some ⟨Bs,0,none⟩),undef,.string s,.int .i64 cn,.bool false,.string s,sv,undef,undef,undef,undef,undef,undef,undef,undef,undef,undef,undef,undef],params:= #[11],assign:=rmAssign,body:=rmBody,defers:=D}
def rmL (pre:List (List UInt8)):List SR:=pre.map rdI
theorem rmL_len (pre:List (List UInt8)):(rmL pre).length=pre.length:=List.length_map _
theorem rmL_snoc (pre:List (List UInt8)) (x:List UInt8):rmL (pre++ [x])=rmL pre++ [rdI x]:=by unfold rmL;rw [List.map_append];rfl
structure RmAt (w0:World) (fn:FuncId) (s:ByteArray) (cn:Int) (sv:Value) (Bs l D H:Nat) (pre:List (List UInt8)) (W:World):Prop where
 box: ∃v,W.heap[Bs]? =some (.cells #[v] 34 (0,0))∧W.ownsRow H 69 5 v (rmL pre).length (QC srC (rmL pre))
 L:W.heap[l]? =some (.loop (rmRec fn s cn sv Bs D .ready none))
 K:W.heap[D]? =some (.deferred (some []))
 below:Below w0.heap.size w0 W
 size:H≤W.heap.size
theorem RmAt.keep {w0:World} {fn:FuncId} {s:ByteArray} {cn:Int} {sv:Value} {Bs l D H Bx:Nat} {pre:List (List UInt8)} {W W':World} (h:RmAt w0 fn s cn sv Bs l D H pre W) (hg:W.grownBy W' (some Bx)) (h1:Bs≠Bx) (h2:l≠Bx) (h3:D≠Bx) (h4:Bx<H) (h5:w0.heap.size≤Bx):RmAt w0 fn s cn sv Bs l D H pre W':=by
 obtain⟨v,hv,hr⟩:=h.box;have hb: ∀k:Nat,k<W.heap.size→k≠Bx→W'.heap[k]? =W.heap[k]?:=fun k hk hne=>hg.block k hk (fun e=>hne (by cases e;rfl))
 exact⟨⟨v,(hb Bs (Array.getElem?_eq_some_iff.1 hv).1 h1).trans hv,hr.kept hg (by
  cases hq:v.ownBlock with
  | none=>exact Or.inl rfl
  | some g=>
   right
   intro e9;cases e9
   have:=(hr.lt _ hq).1
   omega)⟩,(hb l (Array.getElem?_eq_some_iff.1 h.L).1 h2).trans h.L,(hb D (Array.getElem?_eq_some_iff.1 h.K).1 h3).trans h.K,h.below.grown hg h.below.size (fun k e=>by cases e;exact h5),Nat.le_trans h.size hg.size⟩
theorem step_app_st {W:World} {ops:Array Oper} {o:Oper} {a:Act} {K:Act→World→Prop} {Q:Exit→Act→World→Prop} {E:Prop} (hgd:o.guard=none) (s x:Operand) (ho:o.op= .call {callee:= .builtin .append,args:= #[s,x],argTypes:= #[34,34]}) (B:Nat) (v:Value) (n:Nat) (xs:List Value) (hs:a.eval s=v)
  (hown:W.ownsRow B 69 5 v n xs) (z:SR) (g:Nat) (hx:a.eval x= .slice (some ⟨g,0,none⟩) 1 1) (hc: ∀j u,(srC z)[j]? =some u→W.cell? ((⟨g,0,none⟩:Addr).add j)=some u) (hn:n≤1099511627776) (hB:B≤W.heap.size)
  (h: ∀v' w',w'.ownsRow B 69 5 v' (n+1) (xs++srC z)→W.grownBy w' v.ownBlock→K (a.put o.dst v') w'):
  if Region.wanted o (yielded ops a.tmps)=true then Oper.wp Tryz.prog o a W K Q else E:=by
 have hw:Region.wanted o (yielded ops a.tmps)=true:=by simp [Region.wanted,hgd]
 rw [if_pos hw];obtain⟨i0,hi,iz0,iz1,iz2⟩:=info_parts infoStm;refine wp_append_own W s x 34 ho B 69 i0 (.agg #[.int .i64 0,.int .i64 0,.int .i64 0,.string ⟨#[]⟩,.int .i64 0]) 5 48 Tryz.underlying34 hi iz0 iz1 iz2 rfl (by decide) v n xs hs hown ⟨g,0,none⟩ 1 1 (srC z) hx rfl hc ?_ ?_ ?_ hB ?_
 ·intro u hu;simp [srC]at hu;rcases hu with rfl | rfl | rfl | rfl | rfl<;>rfl
 ·unfold maxLen;omega
 ·omega
 ·intro v' w3 hown' hgrow _;exact h v' w3 hown' hgrow
theorem st_new (W:World) (z:SR): ∀j u,(srC z)[j]? =some u→(W.alloc (.cells #[.int .i64 z.k,.int .i64 z.c,.int .i64 z.r,.string z.t,.int .i64 z.m] 69)).cell? ((⟨W.heap.size,0,none⟩:Addr).add j)=some u:=fun j u hu=>by
 match j,hu with
 | 0,hu=>cases hu;simp [Addr.add]
 | 1,hu=>cases hu;simp [Addr.add]
 | 2,hu=>cases hu;simp [Addr.add]
 | 3,hu=>cases hu;simp [Addr.add]
 | 4,hu=>cases hu;simp [Addr.add]
theorem rmEnd {w0 Z:World} {o9:Option Obj} {fn:FuncId} {s:ByteArray} {cn:Int} {sv v':Value} {Bs l D H Bx:Nat} {pre:List (List UInt8)} {x:List UInt8} (hBl:Bs≠l) (hDl:D≠l) (hXl:Bx≠l) (h0l:w0.heap.size≤l) (hL:Z.heap[l]? =some (.loop {rmRec fn s cn sv Bs D .ready none with state:= .busy})) (hv:Z.heap[Bs]? =some (.cells #[v'] 34 (0,0))) (hK:Z.heap[D]? =some (.deferred (some [])))
  (hrow:Z.ownsRow H 69 5 v' (rmL (pre++ [x])).length (QC srC (rmL (pre++ [x])))) (hb:Below w0.heap.size w0 Z) (hs:H≤Z.heap.size) (hx:Z.heap[Bx]? =o9):
  ∃vv w',(Instr.endRound l none).run Tryz.prog Z= .ok vv w'∧(Ending.returned vv= .returned (.bool true)∧RmAt w0 fn s cn sv Bs l D H (pre++ [x]) w'∧w'.heap[Bx]? =o9):=by
 have hl:l<Z.heap.size:=(Array.getElem?_eq_some_iff.1 hL).1;refine⟨_,_,run_endRound none hL,rfl,⟨⟨_,(World.putObj_heap_other hBl).trans hv,?_⟩,World.putObj_heap_same hl,(World.putObj_heap_other hDl).trans hK,hb.grown (grownBy_putObj_a _ _ _) hb.size (fun k e=>by cases e;exact h0l),Nat.le_trans hs (grownBy_putObj_a Z l _).size⟩,(World.putObj_heap_other hXl).trans hx⟩;exact hrow.kept (grownBy_putObj_a Z l _) (ownsRow_ne_a hrow hL (fun cur e=>by cases e))
theorem bdrewR {n:Nat} {w W:World} (h:Below n w W):Below n w W.drew:=BM h 1
theorem rmYield (m:Nat) (w0:World) (fn:FuncId) (s:ByteArray) (cn:Int) (sv:Value) (Bs l D H Bx:Nat) (hBl:Bs≠l) (hDl:D≠l) (hDB:D≠Bs) (hXl:Bx≠l) (hXB:Bx≠Bs) (hXH:Bx<H) (hHB:w0.heap.size≤H) (h0B:w0.heap.size≤Bs) (h0l:w0.heap.size≤l) (hg0:RG w0)
  (pre:List (List UInt8)) (x p:List UInt8) (W:World) (h:RmAt w0 fn s cn sv Bs l D H pre W) (hlen:pre.length<1048578) (hp:p.length≤1048576) (hx:x.length≤1048576) (hpx:Lib.trimSuffix p [10]=x) (hXW:Bx<W.heap.size):
  YieldAt Fence.wide m Tryz.prog l #[.string (bs p)] W fun e W'=>e= .returned (.bool true)∧RmAt w0 fn s cn sv Bs l D H (pre++ [x]) W'∧W'.heap[Bx]? =W.heap[Bx]?:=by
 obtain⟨o9,HO9⟩: ∃o9,Hid (W.heap[Bx]? =o9):=⟨_,rfl⟩;rw [HO9.out];have hne:=stSlNe;obtain⟨v,hv,hrow⟩:=h.box;have hdl:(rmL pre).length<1048578:=by rw [rmL_len];exact hlen
 have HHW:=h.size;have hmix:Tryz.prog.follows .mixedOrders=true:=by kernel_rfl
 refine⟨fn,#[.string s,undef,.slice none 0 0,.bool false,.pointer (some ⟨Bs,0,none⟩),undef,.string s,.int .i64 cn,.bool false,.string s,sv,.string (bs p),undef,undef,undef,undef,undef,undef,undef,undef,undef,undef,undef],rmAssign,rmBody,by simpa [rmRec]using run_yield (P:=Tryz.prog) (args:= #[.string (bs p)]) h.L rfl,roundIn_of_wpIn trivial ?_⟩;have hl:l<W.heap.size:=(Array.getElem?_eq_some_iff.1 h.L).1;have hBW:Bs<W.heap.size:=(Array.getElem?_eq_some_iff.1 hv).1;have hDW:D<W.heap.size:=(Array.getElem?_eq_some_iff.1 h.K).1;have hbr:=run_beginRound (P:=Tryz.prog) h.L rfl;obtain⟨W2,hW2⟩: ∃W2,W.putObj l (.loop {rmRec fn s cn sv Bs D .ready none with state:= .busy})=W2:=⟨_,rfl⟩;rw [hW2]at hbr
 have hg2:W.grownBy W2 (some l):=by rw [←hW2];exact grownBy_putObj_a _ _ _
 have hv2:W2.heap[Bs]? =some (.cells #[v] 34 (0,0)):=by rw [←hW2];exact(World.putObj_heap_other hBl).trans hv
 have hK2:W2.heap[D]? =some (.deferred (some [])):=by rw [←hW2];exact(World.putObj_heap_other hDl).trans h.K
 have hX2:W2.heap[Bx]? =W.heap[Bx]?:=by rw [←hW2];exact World.putObj_heap_other hXl
 have hL2:W2.heap[l]? =some (.loop {rmRec fn s cn sv Bs D .ready none with state:= .busy}):=by rw [←hW2];exact World.putObj_heap_same hl
 have hrow2:W2.ownsRow H 69 5 v (rmL pre).length (QC srC (rmL pre)):=hrow.kept hg2 (ownsRow_ne_a hrow h.L (fun cur e=>by cases e));have hb2:Below w0.heap.size w0 W2:=h.below.grown hg2 h.below.size (fun k e=>by cases e;exact h0l);have hBlt:Bs<W2.heap.size:=(Array.getElem?_eq_some_iff.1 hv2).1;have hl2:l<W2.heap.size:=(Array.getElem?_eq_some_iff.1 hL2).1;have hDlt:D<W2.heap.size:=(Array.getElem?_eq_some_iff.1 hK2).1;have hz2:=hg2.size;have hXlt:Bx<W2.heap.size:=by omega
 have hHz:H≤W2.heap.size:=by omega
 have hG2:RG W2:=hg0.below hb2;obtain⟨hc2,hf2⟩:=cell_of_box_a hv2
 have ne_of: ∀{j:Nat} {o:Obj},W2.heap[j]? =some o→(∀cur,o≠ .cells cur 69 (0,0))→some j≠v.ownBlock:=fun hj hno=>by
  rcases ownsRow_ne_a hrow2 hj hno with e | e
  ·rw [e];simp
  ·exact fun e'=>e e'.symm
 have hnB:some Bs≠v.ownBlock:=ne_of hv2 (fun cur e=>hne (Obj.cells.inj e).2.1);have hnL:some l≠v.ownBlock:=ne_of hL2 (fun cur e=>by cases e);have hnD:some D≠v.ownBlock:=ne_of hK2 (fun cur e=>by cases e);have hnX:some Bx≠v.ownBlock:=fun e=>by have:=(hrow2.lt _ e.symm).1;omega
 obtain⟨c9,HC9⟩: ∃c9,Hid (rdI x=c9):=⟨_,rfl⟩;have HT:Hid (bs (Lib.trimSuffix (bs p).data.toList [10])=bs x):=by show _=_;rw [bs_lq,hpx]
 have HRD:Hid (rdI (bs x).data.toList=c9):=HC9.out;have hpz:(bs p).size≤1048577:=by rw [Qz];omega
 have hxz:(bs x).size≤1048576:=by rw [Qz];omega
 clear hW2;unfold rmAssign;gi_wp2
 unfold rmBody;gi_wp2
 refine region_round (S:=(fun wq=>W2.heap.size≤wq.heap.size)) hmix (by kernel_rfl) (Nat.le_refl _) (fun hHeld=> ?_);refine tkB 1 ?_;refine rqB 0 2 (fun Kq hKq=> ?_) (fun Kq hKq=> ?_)
 ·skip
  go_simp;refine hkB hKq (Nat.le_refl _) fun hHeld=> ?_;clear hKq Kq;refine rqA 2 (fun Kq hKq=> ?_);go_simp;refine(Qoh (bs p) _ hpz).mono ?_;rintro e w' ⟨rfl,rfl⟩
  rw [HT.out];refine hkB hKq (Nat.le_refl _) fun hHeld=> ?_;clear hKq Kq;refine rqA 3 (fun Kq hKq=> ?_);go_simp;refine(impl_readStmt (bs x) W2.drew hxz (hG2.below (bdrewR (Below.refl _ W2)))).mono ?_;rintro e Y ⟨rfl,hbY⟩
  rw [HRD.out];have hbY2:Below W2.heap.size W2 Y:=Qc (bdrewR (Below.refl _ W2)) hbY;have hzY:=hbY2.size;have hvY:=(hbY2.block Bs hBlt).trans hv2;obtain⟨hcY,hfY⟩:=cell_of_box_a hvY;have hBY:Bs<Y.heap.size:=by omega
  unfold srV;refine hkB hKq (hzY) fun hHeld=> ?_;clear hKq Kq;refine rqA 4 (fun Kq hKq=> ?_);go_simp;refine hKq.out _ _ ?_ (fun hHeld=> ?_)
  ·(simp;omega)
  clear hKq Kq;try simp only [Act.put,List.getElem_toArray,List.getElem_cons_zero,List.getElem_cons_succ,List.setIfInBounds_toArray,List.set_cons_zero,List.set_cons_succ]
  refine rqA 5 (fun Kq hKq=> ?_);have hrowY:=Qi hrow2 hbY2;refine step_app_st (by rfl) _ _ (by rfl) H v (rmL pre).length (QC srC (rmL pre)) (by rfl) (hrowY.alloc _) c9 Y.heap.size (by rfl) (st_new Y c9) (by omega) (by rw [World.size_alloc];omega) ?_;intro v' w3 hown' hg3;have hbk3: ∀k:Nat,k<W2.heap.size→some k≠v.ownBlock→w3.heap[k]? =W2.heap[k]?:=fun k h1 h2=>(hg3.block k (by simp;omega) h2).trans ((Below.heap_alloc _ _ k (by omega)).trans (hbY2.block k h1));have hv3:w3.heap[Bs]? =some (.cells #[v] 34 (0,0)):=(hbk3 Bs hBlt hnB).trans hv2;obtain⟨hcb3,hfb3⟩:=cell_of_box_a hv3
  have hz3:W2.heap.size≤w3.heap.size:=by have:=hg3.size;simp at this;omega
  obtain⟨F3,cap3,rfl,_,_⟩:=Qu hown';refine hkB hKq (hz3) fun hHeld=> ?_;clear hKq Kq;refine rqA 6 (fun Kq hKq=> ?_);go_simp;obtain⟨w4,hw4⟩: ∃w4,w3.setCell ⟨Bs,0,none⟩ (.slice F3 ((rmL pre).length+1) cap3)=w4:=⟨_,rfl⟩;rw [hw4]
  have hg4:w3.grownBy w4 (some Bs):=by rw [←hw4];exact grownBy_setCell0_a _ _ _
  have hv4:w4.heap[Bs]? =some (.cells #[.slice F3 ((rmL pre).length+1) cap3] 34 (0,0)):=by rw [←hw4];exact heap_setCell_box_a _ hv3
  have hbk4: ∀k:Nat,k<W2.heap.size→k≠Bs→some k≠v.ownBlock→w4.heap[k]? =W2.heap[k]?:=fun k h1 h3 h2=>(hg4.block k (by omega) (fun e=>h3 (by cases e;rfl))).trans (hbk3 k h1 h2);have hrow4:=hown'.kept hg4 (ownsRow_ne_a hown' hv3 (fun cur e=>hne (Obj.cells.inj e).2.1));have hb3:Below w0.heap.size w0 w3:=((Qc hb2 hbY2).alloc (by have:=(Qc hb2 hbY2).size;omega) _).grown hg3 (by have:=hb2.size;simp;omega) (fun k e=>by have:=(hrow2.lt k e).1;have:=HHW;have:=h.below.size;have:=hHB;omega);have hb4:Below w0.heap.size w0 w4:=hb3.grown hg4 hb3.size (fun k e=>by cases e;exact h0B);have hz4:=hg4.size;refine hKq.out _ _ ?_ (fun hHeld=> ?_)
  ·(show W2.heap.size≤w4.heap.size;omega)
  clear hKq Kq;try simp only [Act.put,List.getElem_toArray,List.getElem_cons_zero,List.getElem_cons_succ,List.setIfInBounds_toArray,List.set_cons_zero,List.set_cons_succ]
  refine wpAnyH_done (by kernel_rfl) ?_ _;simp only [OnlyN];gi_wp2
  exact rmEnd hBl hDl hXl h0l ((hbk4 l hl2 (fun e=>hBl e.symm) hnL).trans hL2) hv4 ((hbk4 D hDlt hDB hnD).trans hK2) (by rw [rmL_snoc,Vn,List.length_append,HC9.out];exact hrow4) hb4 (by omega) ((hbk4 Bx hXlt hXB hnX).trans (hX2.trans HO9.out))
 ·skip
  go_simp;refine(Qoh (bs p) _ hpz).mono ?_;rintro e w' ⟨rfl,rfl⟩;rw [HT.out];refine hkB hKq (Nat.le_refl _) fun hHeld=> ?_;clear hKq Kq;refine rqB 0 3 (fun Kq hKq=> ?_) (fun Kq hKq=> ?_)
  ·skip
   go_simp;refine hkB hKq (Nat.le_refl _) fun hHeld=> ?_;clear hKq Kq;refine rqA 3 (fun Kq hKq=> ?_);go_simp;refine(impl_readStmt (bs x) W2.drew hxz (hG2.below (bdrewR (Below.refl _ W2)))).mono ?_;rintro e Y ⟨rfl,hbY⟩
   rw [HRD.out];have hbY2:Below W2.heap.size W2 Y:=Qc (bdrewR (Below.refl _ W2)) hbY;have hzY:=hbY2.size;have hvY:=(hbY2.block Bs hBlt).trans hv2;obtain⟨hcY,hfY⟩:=cell_of_box_a hvY;have hBY:Bs<Y.heap.size:=by omega
   unfold srV;refine hkB hKq (hzY) fun hHeld=> ?_;clear hKq Kq;refine rqA 4 (fun Kq hKq=> ?_);go_simp;refine hKq.out _ _ ?_ (fun hHeld=> ?_)
   ·(simp;omega)
   clear hKq Kq;try simp only [Act.put,List.getElem_toArray,List.getElem_cons_zero,List.getElem_cons_succ,List.setIfInBounds_toArray,List.set_cons_zero,List.set_cons_succ]
   refine rqA 5 (fun Kq hKq=> ?_);have hrowY:=Qi hrow2 hbY2;refine step_app_st (by rfl) _ _ (by rfl) H v (rmL pre).length (QC srC (rmL pre)) (by rfl) (hrowY.alloc _) c9 Y.heap.size (by rfl) (st_new Y c9) (by omega) (by rw [World.size_alloc];omega) ?_;intro v' w3 hown' hg3;have hbk3: ∀k:Nat,k<W2.heap.size→some k≠v.ownBlock→w3.heap[k]? =W2.heap[k]?:=fun k h1 h2=>(hg3.block k (by simp;omega) h2).trans ((Below.heap_alloc _ _ k (by omega)).trans (hbY2.block k h1));have hv3:w3.heap[Bs]? =some (.cells #[v] 34 (0,0)):=(hbk3 Bs hBlt hnB).trans hv2;obtain⟨hcb3,hfb3⟩:=cell_of_box_a hv3
   have hz3:W2.heap.size≤w3.heap.size:=by have:=hg3.size;simp at this;omega
   obtain⟨F3,cap3,rfl,_,_⟩:=Qu hown';refine hkB hKq (hz3) fun hHeld=> ?_;clear hKq Kq;refine rqA 6 (fun Kq hKq=> ?_);go_simp;obtain⟨w4,hw4⟩: ∃w4,w3.setCell ⟨Bs,0,none⟩ (.slice F3 ((rmL pre).length+1) cap3)=w4:=⟨_,rfl⟩;rw [hw4]
   have hg4:w3.grownBy w4 (some Bs):=by rw [←hw4];exact grownBy_setCell0_a _ _ _
   have hv4:w4.heap[Bs]? =some (.cells #[.slice F3 ((rmL pre).length+1) cap3] 34 (0,0)):=by rw [←hw4];exact heap_setCell_box_a _ hv3
   have hbk4: ∀k:Nat,k<W2.heap.size→k≠Bs→some k≠v.ownBlock→w4.heap[k]? =W2.heap[k]?:=fun k h1 h3 h2=>(hg4.block k (by omega) (fun e=>h3 (by cases e;rfl))).trans (hbk3 k h1 h2);have hrow4:=hown'.kept hg4 (ownsRow_ne_a hown' hv3 (fun cur e=>hne (Obj.cells.inj e).2.1));have hb3:Below w0.heap.size w0 w3:=((Qc hb2 hbY2).alloc (by have:=(Qc hb2 hbY2).size;omega) _).grown hg3 (by have:=hb2.size;simp;omega) (fun k e=>by have:=(hrow2.lt k e).1;have:=HHW;have:=h.below.size;have:=hHB;omega);have hb4:Below w0.heap.size w0 w4:=hb3.grown hg4 hb3.size (fun k e=>by cases e;exact h0B);have hz4:=hg4.size;refine hKq.out _ _ ?_ (fun hHeld=> ?_)
   ·(show W2.heap.size≤w4.heap.size;omega)
   clear hKq Kq;try simp only [Act.put,List.getElem_toArray,List.getElem_cons_zero,List.getElem_cons_succ,List.setIfInBounds_toArray,List.set_cons_zero,List.set_cons_succ]
   refine wpAnyH_done (by kernel_rfl) ?_ _;simp only [OnlyN];gi_wp2
   exact rmEnd hBl hDl hXl h0l ((hbk4 l hl2 (fun e=>hBl e.symm) hnL).trans hL2) hv4 ((hbk4 D hDlt hDB hnD).trans hK2) (by rw [rmL_snoc,Vn,List.length_append,HC9.out];exact hrow4) hb4 (by omega) ((hbk4 Bx hXlt hXB hnX).trans (hX2.trans HO9.out))
  ·skip
   go_simp;refine(impl_readStmt (bs x) W2.drew hxz (hG2.below (bdrewR (Below.refl _ W2)))).mono ?_;rintro e Y ⟨rfl,hbY⟩;rw [HRD.out];have hbY2:Below W2.heap.size W2 Y:=Qc (bdrewR (Below.refl _ W2)) hbY;have hzY:=hbY2.size;have hvY:=(hbY2.block Bs hBlt).trans hv2
   obtain⟨hcY,hfY⟩:=cell_of_box_a hvY;have hBY:Bs<Y.heap.size:=by omega
   unfold srV;refine hkB hKq (hzY) fun hHeld=> ?_;clear hKq Kq;refine rqB 0 4 (fun Kq hKq=> ?_) (fun Kq hKq=> ?_)
   ·skip
    go_simp;refine hkB hKq (hzY) fun hHeld=> ?_;clear hKq Kq;refine rqA 4 (fun Kq hKq=> ?_);go_simp;refine hKq.out _ _ ?_ (fun hHeld=> ?_)
    ·(simp;omega)
    clear hKq Kq;try simp only [Act.put,List.getElem_toArray,List.getElem_cons_zero,List.getElem_cons_succ,List.setIfInBounds_toArray,List.set_cons_zero,List.set_cons_succ]
    refine rqA 5 (fun Kq hKq=> ?_);have hrowY:=Qi hrow2 hbY2;refine step_app_st (by rfl) _ _ (by rfl) H v (rmL pre).length (QC srC (rmL pre)) (by rfl) (hrowY.alloc _) c9 Y.heap.size (by rfl) (st_new Y c9) (by omega) (by rw [World.size_alloc];omega) ?_;intro v' w3 hown' hg3;have hbk3: ∀k:Nat,k<W2.heap.size→some k≠v.ownBlock→w3.heap[k]? =W2.heap[k]?:=fun k h1 h2=>(hg3.block k (by simp;omega) h2).trans ((Below.heap_alloc _ _ k (by omega)).trans (hbY2.block k h1));have hv3:w3.heap[Bs]? =some (.cells #[v] 34 (0,0)):=(hbk3 Bs hBlt hnB).trans hv2;obtain⟨hcb3,hfb3⟩:=cell_of_box_a hv3
    have hz3:W2.heap.size≤w3.heap.size:=by have:=hg3.size;simp at this;omega
    obtain⟨F3,cap3,rfl,_,_⟩:=Qu hown';refine hkB hKq (hz3) fun hHeld=> ?_;clear hKq Kq;refine rqA 6 (fun Kq hKq=> ?_);go_simp;obtain⟨w4,hw4⟩: ∃w4,w3.setCell ⟨Bs,0,none⟩ (.slice F3 ((rmL pre).length+1) cap3)=w4:=⟨_,rfl⟩;rw [hw4]
    have hg4:w3.grownBy w4 (some Bs):=by rw [←hw4];exact grownBy_setCell0_a _ _ _
    have hv4:w4.heap[Bs]? =some (.cells #[.slice F3 ((rmL pre).length+1) cap3] 34 (0,0)):=by rw [←hw4];exact heap_setCell_box_a _ hv3
    have hbk4: ∀k:Nat,k<W2.heap.size→k≠Bs→some k≠v.ownBlock→w4.heap[k]? =W2.heap[k]?:=fun k h1 h3 h2=>(hg4.block k (by omega) (fun e=>h3 (by cases e;rfl))).trans (hbk3 k h1 h2);have hrow4:=hown'.kept hg4 (ownsRow_ne_a hown' hv3 (fun cur e=>hne (Obj.cells.inj e).2.1));have hb3:Below w0.heap.size w0 w3:=((Qc hb2 hbY2).alloc (by have:=(Qc hb2 hbY2).size;omega) _).grown hg3 (by have:=hb2.size;simp;omega) (fun k e=>by have:=(hrow2.lt k e).1;have:=HHW;have:=h.below.size;have:=hHB;omega);have hb4:Below w0.heap.size w0 w4:=hb3.grown hg4 hb3.size (fun k e=>by cases e;exact h0B);have hz4:=hg4.size;refine hKq.out _ _ ?_ (fun hHeld=> ?_)
    ·(show W2.heap.size≤w4.heap.size;omega)
    clear hKq Kq;try simp only [Act.put,List.getElem_toArray,List.getElem_cons_zero,List.getElem_cons_succ,List.setIfInBounds_toArray,List.set_cons_zero,List.set_cons_succ]
    refine wpAnyH_done (by kernel_rfl) ?_ _;simp only [OnlyN];gi_wp2
    exact rmEnd hBl hDl hXl h0l ((hbk4 l hl2 (fun e=>hBl e.symm) hnL).trans hL2) hv4 ((hbk4 D hDlt hDB hnD).trans hK2) (by rw [rmL_snoc,Vn,List.length_append,HC9.out];exact hrow4) hb4 (by omega) ((hbk4 Bx hXlt hXB hnX).trans (hX2.trans HO9.out))
   ·skip
    go_simp;refine hKq.out _ _ ?_ (fun hHeld=> ?_)
    ·(simp;omega)
    clear hKq Kq;try simp only [Act.put,List.getElem_toArray,List.getElem_cons_zero,List.getElem_cons_succ,List.setIfInBounds_toArray,List.set_cons_zero,List.set_cons_succ]
    refine rqA 0 (fun Kq hKq=> ?_);go_simp;refine hKq.out _ _ ?_ (fun hHeld=> ?_)
    ·(simp;omega)
    clear hKq Kq;try simp only [Act.put,List.getElem_toArray,List.getElem_cons_zero,List.getElem_cons_succ,List.setIfInBounds_toArray,List.set_cons_zero,List.set_cons_succ]
    refine rqA 5 (fun Kq hKq=> ?_);have hrowY:=Qi hrow2 hbY2;refine step_app_st (by rfl) _ _ (by rfl) H v (rmL pre).length (QC srC (rmL pre)) (by rfl) (hrowY.alloc _) c9 Y.heap.size (by rfl) (st_new Y c9) (by omega) (by rw [World.size_alloc];omega) ?_;intro v' w3 hown' hg3;have hbk3: ∀k:Nat,k<W2.heap.size→some k≠v.ownBlock→w3.heap[k]? =W2.heap[k]?:=fun k h1 h2=>(hg3.block k (by simp;omega) h2).trans ((Below.heap_alloc _ _ k (by omega)).trans (hbY2.block k h1));have hv3:w3.heap[Bs]? =some (.cells #[v] 34 (0,0)):=(hbk3 Bs hBlt hnB).trans hv2;obtain⟨hcb3,hfb3⟩:=cell_of_box_a hv3
    have hz3:W2.heap.size≤w3.heap.size:=by have:=hg3.size;simp at this;omega
    obtain⟨F3,cap3,rfl,_,_⟩:=Qu hown';refine hkB hKq (hz3) fun hHeld=> ?_;clear hKq Kq;refine rqA 6 (fun Kq hKq=> ?_);go_simp;obtain⟨w4,hw4⟩: ∃w4,w3.setCell ⟨Bs,0,none⟩ (.slice F3 ((rmL pre).length+1) cap3)=w4:=⟨_,rfl⟩;rw [hw4]
    have hg4:w3.grownBy w4 (some Bs):=by rw [←hw4];exact grownBy_setCell0_a _ _ _
    have hv4:w4.heap[Bs]? =some (.cells #[.slice F3 ((rmL pre).length+1) cap3] 34 (0,0)):=by rw [←hw4];exact heap_setCell_box_a _ hv3
    have hbk4: ∀k:Nat,k<W2.heap.size→k≠Bs→some k≠v.ownBlock→w4.heap[k]? =W2.heap[k]?:=fun k h1 h3 h2=>(hg4.block k (by omega) (fun e=>h3 (by cases e;rfl))).trans (hbk3 k h1 h2);have hrow4:=hown'.kept hg4 (ownsRow_ne_a hown' hv3 (fun cur e=>hne (Obj.cells.inj e).2.1));have hb3:Below w0.heap.size w0 w3:=((Qc hb2 hbY2).alloc (by have:=(Qc hb2 hbY2).size;omega) _).grown hg3 (by have:=hb2.size;simp;omega) (fun k e=>by have:=(hrow2.lt k e).1;have:=HHW;have:=h.below.size;have:=hHB;omega);have hb4:Below w0.heap.size w0 w4:=hb3.grown hg4 hb3.size (fun k e=>by cases e;exact h0B);have hz4:=hg4.size;refine hKq.out _ _ ?_ (fun hHeld=> ?_)
    ·(show W2.heap.size≤w4.heap.size;omega)
    clear hKq Kq;try simp only [Act.put,List.getElem_toArray,List.getElem_cons_zero,List.getElem_cons_succ,List.setIfInBounds_toArray,List.set_cons_zero,List.set_cons_succ]
    refine wpAnyH_done (by kernel_rfl) ?_ _;simp only [OnlyN];gi_wp2
    exact rmEnd hBl hDl hXl h0l ((hbk4 l hl2 (fun e=>hBl e.symm) hnL).trans hL2) hv4 ((hbk4 D hDlt hDB hnD).trans hK2) (by rw [rmL_snoc,Vn,List.length_append,HC9.out];exact hrow4) hb4 (by omega) ((hbk4 Bx hXlt hXB hnX).trans (hX2.trans HO9.out))
end Go.Proofs.YtejbnnacghbhoaaGreatDoor
