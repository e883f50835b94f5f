import Derived.Test.YtejbnnacghbhoaaGreatDoorMn
import Derived.Test.YtejbnnacghbhoaaGreatDoorRi
import Derived.Laws.OwnMore
import Derived.Laws.AppendOwn
import Derived.Laws.BytesString
import Derived.Deep.RegionHeld3
set_option linter.unusedSimpArgs false
set_option linter.unusedVariables false
set_option maxHeartbeats 8000000
set_option maxRecDepth 100000
namespace Go.Proofs.YtejbnnacghbhoaaGreatDoor
open Go.RowKit
theorem rd_nextG (r:Nat) (A:Option Addr) (len cap:Nat) (W:World) (h:Rd W r A len cap):Calls Tryz.prog 69 #[.pointer (some ⟨r,0,none⟩)] W fun e w'=>
  ∃v,e= .returned (.int .i64 v)∧0≤v∧v≤255∧Rd w' r A len cap∧UpdG r W w':=by
 have HH:Hid (Rd W r A len cap):=h;obtain⟨h0,h1,h2,h3,p,hp,h4⟩:=h;by_cases hl:p=len
 ·subst hl;clear h1;have hge:(p:Int)≤(p:Int):=Int.le_refl _;go_enter Tryz.func69,Tryz.ntmps69;go_wp2_with fail
  go_quiet (fail)
  go_wp2_with fail
  go_ret;exact⟨0,rfl,by omega,by omega,HH.out.keep (fun _ _ _=>rfl) (fun _ _ _=>rfl),UpdG.draws _ _ _⟩
 ·have hlt:p<len:=by omega
  obtain⟨b,o,v,rfl,hb,c,v0,v1⟩:=h1 p hlt;clear h1;have hlt':(p:Int)<(len:Int):=by omega
  have hp0:(0:Int)≤(p:Int):=by omega
  go_enter Tryz.func69,Tryz.ntmps69;go_wp2_with fail
  go_quiet (fail)
  go_wp2_with fail
  go_quiet (fail)
  go_wp2_with fail
  go_ret;have e:((p+1:Nat):Int)=(p:Int)+1:=by omega
  have hn:=HH.out.set (p+1) (by omega);rw [e]at hn;exact⟨v,rfl,v0,v1,hn.keep (fun _ _ _=>rfl) (fun _ _ _=>rfl),(UpdG.draws _ _ _).trans (UpdG.set.trans (UpdG.draws _ _ _))⟩
theorem rd_belowG (r:Nat) (A:Option Addr) (len cap:Nat) (n:Int) (W:World) (h:Rd W r A len cap) (h0:1≤n) (h1:n≤1048577):Calls Tryz.prog 35 #[.pointer (some ⟨r,0,none⟩),.int .i64 n] W fun e w'=>
  ∃v,e= .returned (.int .i64 v)∧0≤v∧v<n∧Rd w' r A len cap∧UpdG r W w':=by
 have HH:Hid (Rd W r A len cap):=h;clear h;by_cases ha:n≤1
 ·go_enter Tryz.func35,Tryz.ntmps35;go_wp2_with fail
  go_ret;exact⟨0,rfl,by omega,by omega,HH.out,UpdG.draws r W 0⟩
 by_cases hb:n≤256
 ·go_enter Tryz.func35,Tryz.ntmps35;go_wp2_with fail
  refine(rd_nextG r A len cap _ HH.out).mono ?_;rintro e w1 ⟨v,rfl,v0,v1,hr,hu⟩;have HR:Hid (Rd w1 r A len cap):=hr;have HU:Hid (UpdG r W w1):=hu;clear hr hu;go_wp2_with fail
  go_ret;exact⟨_,rfl,Int.emod_nonneg _ (by omega),Int.emod_lt_of_pos _ (by omega),HR.out,HU.out⟩
 ·go_enter Tryz.func35,Tryz.ntmps35;go_wp2_with fail
  refine(rd_nextG r A len cap _ HH.out).mono ?_;rintro e w1 ⟨v,rfl,v0,v1,hr,hu⟩;have HR:Hid (Rd w1 r A len cap):=hr;have HU:Hid (UpdG r W w1):=hu;clear hr hu;go_wp2_with fail
  refine(rd_nextG r A len cap _ HR.out).mono ?_;rintro e w2 ⟨v',rfl,v0',v1',hr,hu⟩;have HR':Hid (Rd w2 r A len cap):=hr;have HU':Hid (UpdG r w1 w2):=hu;clear hr hu;go_wp2_with fail
  go_ret;exact⟨_,rfl,Int.emod_nonneg _ (by omega),Int.emod_lt_of_pos _ (by omega),HR'.out,HU.out.trans HU'.out⟩
theorem infoU8:(Tryz.prog.info? 5).map (fun i=>(i.zero,i.size,i.bytes))=some (some (.int .u8 0),1,1):=by kernel_rfl
def Bys (xs:List Value):Prop:= ∃l:List Int,xs=l.map (Value.int .u8)
theorem push_size: ∀(l:List Int) (r:ByteArray),(l.foldl (fun r n=>r.push (UInt8.ofNat n.toNat)) r).size=r.size+l.length
 | [],r=>rfl
 | n::l,r=>by rw [List.foldl_cons,push_size l,ByteArray.size_push,List.length_cons];omega
theorem conv_row {W:World} {B k:Nat} {v:Value} {xs:List Value} (h:W.ownsRow B 5 1 v k xs) (hb:Bys xs): ∃s:ByteArray,s.size=k∧(convert 22 9 v).run Tryz.prog W= .ok (.string s) W:=by
 obtain⟨l,rfl⟩:=hb;have hl:l.length=k:=by have:=h.1;simpa using this
 rcases h.2 with⟨rfl,rfl⟩ | ⟨g,cap,cur,rfl,_⟩
 ·refine⟨⟨#[]⟩,rfl,?_⟩;rw [run_convert_bytes_string W 22 9 5 none 0 0 Tryz.underlying22 Tryz.underlying5 Tryz.underlying9];rfl
 ·rw [run_convert_bytes_string W 22 9 5 (some ⟨g,0,none⟩) k cap Tryz.underlying22 Tryz.underlying5 Tryz.underlying9];have hc:=run_loadCells_list (P:=Tryz.prog) W ⟨g,0,none⟩ (l.map (Value.int .u8)) (fun j x hj=>h.cells (g:=g) rfl j x hj);rw [run_bytesToString W ⟨g,0,none⟩ k cap l (by simpa [hl]using hc)];exact⟨_,by rw [push_size];rw [hl];exact Nat.zero_add _,rfl⟩
theorem app_byte {ops:Array Oper} {rest:List Oper} {o:Oper} {a:Act} {Q:Exit→Act→World→Prop} (w:World) (hgd:o.guard=none) (s x:Operand)
  (ho:o.op= .call {callee:= .builtin .append,args:= #[s,x],argTypes:= #[22,22]}) (v:Value) (hs:a.eval s=v) (base:Nat) (hb:base≤w.heap.size) (k:Nat) (ys:List Value) (hown:w.ownsRow base 5 1 v k ys)
  (z:Int) (g:Nat) (hx:a.eval x= .slice (some ⟨g,0,none⟩) 1 1) (hc:w.cell? ⟨g,0,none⟩=some (.int .u8 z)) (hk:k≤60)
  (h: ∀v' w',w'.ownsRow base 5 1 v' (k+1) (ys++ [.int .u8 z])→w.grownBy w' v.ownBlock→wpList Tryz.prog ops Q rest (a.put o.dst v') w'):wpList Tryz.prog ops Q (o::rest) a w:=by
 obtain⟨i0,hi0,hz0,hz1,hz2⟩:=info_parts infoU8;refine wpList_append_own w hgd s x 22 ho base 5 i0 (.int .u8 0) 1 1 Tryz.underlying22 hi0 hz0 hz1 hz2 rfl (by decide) v k ys hs hown ⟨g,0,none⟩ 1 1 [.int .u8 z] hx rfl ?_ ?_ ?_ ?_ hb ?_
 ·intro j u hj;match j,hj with
  | 0,hj=>simp at hj;simpa [Addr.add,←hj]using hc
 ·intro u hu;simp only [List.mem_singleton]at hu;subst hu;rfl
 ·unfold maxLen;omega
 ·omega
 ·intro v' w' ho' hg' _;exact h v' w' ho' hg'
theorem own_empty8 {W:World} {B g:Nat} {e:TypeId} {size:Nat} (hB:B≤W.heap.size) (hg:g=W.heap.size):(W.alloc (.cells #[] e)).ownsRow B e size (.slice (some ⟨g,0,none⟩) 0 0) 0 []:=by
 subst hg;exact World.ownsRow_made W #[] 0 hB (Nat.zero_le _) (by simp)
theorem own_below8 {W w':World} {B:Nat} {e:TypeId} {size n:Nat} {v:Value} {xs:List Value} (h:W.ownsRow B e size v n xs) (hb:Below W.heap.size W w'):w'.ownsRow B e size v n xs:=by
 refine⟨h.1,?_⟩;rcases h.2 with hn | ⟨g,cap,cur,rfl,hB,hgg,rest⟩
 ·exact .inl hn
 ·exact .inr ⟨g,cap,cur,rfl,hB,by rw [hb.block g (Array.getElem?_eq_some_iff.1 hgg).1];exact hgg,rest⟩
theorem own_updG {W w1:World} {r B k:Nat} {e:TypeId} {v:Value} {xs:List Value} (h:W.ownsRow B e 1 v k xs) (hu:UpdG r W w1) (hr:r<B):w1.ownsRow B e 1 v k xs:=by
 refine h.kept hu.2 ?_;cases hv:v.ownBlock with
 | none=>exact Or.inl rfl
 | some g=>
  right
  intro e9;cases e9
  have:=(h.lt r hv).1;omega
theorem rd_bytes (r:Nat) (A:Option Addr) (len cap:Nat) (w:World) (hr:Rd w r A len cap):Calls Tryz.prog 102 #[.pointer (some ⟨r,0,none⟩),.int .i64 2] w fun e w'=>
  ∃s:ByteArray,e= .returned (.string s)∧s.size≤2∧Rd w' r A len cap∧Upd r w w':=by
 have HH:Hid (Rd w r A len cap):=hr;have HL:Hid (r<w.heap.size):=hr.lt;clear hr;go_enter Tryz.func102,Tryz.ntmps102;have HO0:Hid ((w.alloc (.cells #[] 5)).ownsRow w.heap.size 5 1 (.slice (some ⟨w.heap.size,0,none⟩) 0 0) 0 []):=own_empty8 (Nat.le_refl _) rfl;go_wp2_with fail
 refine(rd_belowG r A len cap 3 _ (HH.out.below (by go_grown)) (by omega) (by omega)).mono ?_;rintro e w1 ⟨v,rfl,v0,v1,hr,hu⟩;have HR1:Hid (Rd w1 r A len cap):=hr;have HU1:Hid (UpdG r w w1):=(UpdG.of_below (Nat.le_of_lt HL.out) (by go_grown)).trans hu;have HO1:Hid (w1.ownsRow w.heap.size 5 1 (.slice (some ⟨w.heap.size,0,none⟩) 0 0) 0 []):=own_updG HO0.out hu HL.out;clear hr hu HO0;obtain⟨n,rfl⟩: ∃n:Nat,v=(n:Int):=⟨v.toNat,by omega⟩
 go_wp2_with fail
 go_loopw [5,6] (fun o i wr=> ∃(t k:Nat) (xs:List Value),i= .int .i64 t∧t+k≤2∧wr.ownsRow w.heap.size 5 1 o k xs∧Bys xs∧Rd wr r A len cap∧UpdG r w wr) (fun _ i _=>(intOf i).toNat)
 case atStart=>exact⟨n,0,[],rfl,by omega,HO1.out,⟨[],rfl⟩,HR1.out,HU1.out⟩
 case round=>
  clear HR1 HU1 HO1;obtain⟨t,k,xs,rfl,htk,hown,hby,hr,hu⟩:=hrel;have HO:Hid (wr.ownsRow w.heap.size 5 1 u5 k xs):=hown
  have HY:Hid (Bys xs):=hby
  have HR:Hid (Rd wr r A len cap):=hr;have HU:Hid (UpdG r w wr):=hu;have HSZ:Hid (w.heap.size≤wr.heap.size):=hu.1.2.2.1;clear hown hby hr hu;by_cases h0:(t:Int)≤0
  ·have h0': ¬(0:Int)<(t:Int):=by omega
   obtain⟨s,hs,hcv⟩:=conv_row HO.out HY.out;have HS:Hid (s.size≤2):=(by omega:s.size≤2);clear hs;go_wp2_with fail
   go_ret;exact⟨s,rfl,HS.out,HR.out,HU.out.1⟩
  ·have h0':(0:Int)<(t:Int):=by omega
   go_wp2_with fail
   refine(rd_belowG r A len cap 256 _ HR.out (by omega) (by omega)).mono ?_;rintro e w2 ⟨z,rfl,z0,z1,hr,hu⟩;have HR2:Hid (Rd w2 r A len cap):=hr;have HU2:Hid (UpdG r w w2):=HU.out.trans hu;have HO2:Hid (w2.ownsRow w.heap.size 5 1 u5 k xs):=own_updG HO.out hu HL.out;have HS2:Hid (w.heap.size≤w2.heap.size):=Nat.le_trans HSZ.out hu.1.2.2.1;clear hr hu HO HR HU
   go_wp2_with (at_builtin;refine app_byte _ rfl _ _ rfl u5 rfl w.heap.size ?hb k xs ?hw z _ rfl ?hc (by omega) ?_)
   case hb=>have:=HS2.out;simp;omega
   case hw=>exact own_below8 HO2.out (by go_grown)
   case hc=>simp
   intro v3 w3 hown3 hgrow3;have HB3:Hid (Below w.heap.size w2 w3):=Below.grown (Below.mono (by go_grown:Below w2.heap.size w2 (w2.alloc (.cells #[.int .u8 z] 5))) HS2.out) hgrow3 (by have:=HS2.out;simp;omega) (fun q hq=>(HO2.out.lt q hq).1);have HO3:Hid (w3.ownsRow w.heap.size 5 1 v3 (k+1) (xs++ [.int .u8 z])):=hown3
   have HY3:Hid (Bys (xs++ [.int .u8 z])):=by
    obtain⟨l,hl⟩:=HY.out;exact⟨l++ [z],by rw [hl];simp⟩
   have HR3:Hid (Rd w3 r A len cap):=(HH.out.carry HR2.out HU2.out.1 HB3.out).1;have HU3:Hid (UpdG r w w3):=⟨(HH.out.carry HR2.out HU2.out.1 HB3.out).2,⟨HB3.out.os.trans HU2.out.2.os,HB3.out.tape.trans HU2.out.2.tape,HB3.out.output.trans HU2.out.2.output,Nat.le_trans HU2.out.2.size HB3.out.size,fun q hq hn=>(HB3.out.block q hq).trans (HU2.out.2.block q hq hn)⟩⟩;clear hown3 hgrow3 HO2 HR2 HU2 HB3;go_wp2_with fail
   go_roundw
   case rel=>exact⟨t-1,k+1,_,by congr 1;omega,by omega,HO3.out,HY3.out,HR3.out,HU3.out⟩
   case measure=>simp [intOf];omega
def tab6 (n:Nat):ByteArray:=match n with
 | 0=>⟨#[65]⟩
 | 1=>⟨#[49]⟩
 | 2=>⟨#[40]⟩
 | 3=>⟨#[44]⟩
 | 4=>⟨#[34]⟩
 | _=>⟨#[32]⟩
theorem tab6_size (n:Nat):(tab6 n).size=1:=by unfold tab6;split<;>rfl
theorem ext_size (s:ByteArray) (a b:Nat):(s.extract a b).size≤s.size:=by rw [ByteArray.size_extract];omega
theorem rd_hurt (r:Nat) (A:Option Addr) (len cap:Nat) (s:ByteArray) (w:World) (hr:Rd w r A len cap) (hs:s.size≤100000):Calls Tryz.prog 56 #[.pointer (some ⟨r,0,none⟩),.string s] w fun e w'=>
  ∃t:ByteArray,e= .returned (.string t)∧t.size≤s.size+2∧Rd w' r A len cap∧Upd r w w':=by
 have HH:Hid (Rd w r A len cap):=hr;have HL:Hid (r<w.heap.size):=hr.lt;clear hr;go_enter Tryz.func56,Tryz.ntmps56;go_wp2_with fail
 refine(QB r A len cap 6 _ HH.out (by omega) (by omega)).mono ?_;rintro e w1 ⟨v,rfl,v0,v1,hr,hu⟩;have HR1:Hid (Rd w1 r A len cap):=hr;have HU1:Hid (Upd r w w1):=hu;clear hr hu;by_cases h0:v=0
 ·subst h0;go_wp2_with fail
  refine(rd_bytes r A len cap _ HR1.out).mono ?_;rintro e w2 ⟨t,rfl,ht,hr,hu⟩;have HR2:Hid (Rd w2 r A len cap):=hr;have HU2:Hid (Upd r w w2):=HU1.out.trans hu;have hst: ¬9223372036854775807<s.size+t.size:=by omega
  clear hr hu;go_wp2_with fail
  go_ret;exact⟨_,rfl,by rw [ByteArray.size_append];omega,HR2.out,HU2.out⟩
 have n0:(v==0)=false:=by simpa using h0
 by_cases h1:v=1
 ·subst h1;go_wp2_with fail
  refine(QB r A len cap ((s.size:Int)+1) _ HR1.out (by omega) (by omega)).mono ?_;rintro e w2 ⟨u,rfl,u0,u1,hr,hu⟩;have HR2:Hid (Rd w2 r A len cap):=hr;have HU2:Hid (Upd r w w2):=HU1.out.trans hu;clear hr hu;have u2:u≤(s.size:Int):=by omega
  go_wp2_with fail
  go_ret;exact⟨_,rfl,Nat.le_trans (ext_size _ _ _) (by omega),HR2.out,HU2.out⟩
 have n1:(v==1)=false:=by simpa using h1
 by_cases h2:v=2
 ·subst h2;by_cases hz:s.size=0
  ·have hz': ¬(0:Int)<(s.size:Int):=by omega
   go_wp2_with fail
   go_ret;exact⟨s,rfl,by omega,HR1.out,HU1.out⟩
  ·have hz':(0:Int)<(s.size:Int):=by omega
   go_wp2_with fail
   refine(QB r A len cap (s.size:Int) _ HR1.out (by omega) (by omega)).mono ?_;rintro e w2 ⟨u,rfl,u0,u1,hr,hu⟩;have HR2:Hid (Rd w2 r A len cap):=hr;have HU2:Hid (Upd r w w2):=HU1.out.trans hu;clear hr hu;obtain⟨i,rfl⟩: ∃i:Nat,u=(i:Int):=⟨u.toNat,by omega⟩;have i1:(i:Int)≤(s.size:Int):=by omega
   have i2:(0:Int)≤(i:Int)+1:=by omega
   have i3:(i:Int)+1≤(s.size:Int):=by omega
   have hadd1: ∀n W,(Op.stringOp .add (s.extract 0 i) (tab6 n)).run Tryz.prog W= .ok (.string (s.extract 0 i++tab6 n)) W:=fun n=>Qd4 _ _ (by have:=ext_size s 0 i;have:=tab6_size n;omega);have hadd2: ∀n W,(Op.stringOp .add (s.extract 0 i++tab6 n) (s.extract (i+1) s.size)).run Tryz.prog W= .ok (.string (s.extract 0 i++tab6 n++s.extract (i+1) s.size)) W:=fun n=>Qd4 _ _ (by have:=ext_size s 0 i;have:=tab6_size n;have:=ext_size s (i+1) s.size;rw [ByteArray.size_append];omega)
   have HFS:Hid (∀n,(s.extract 0 i++tab6 n++s.extract (i+1) s.size).size≤s.size+2):=fun n=>by
    have:=tab6_size n;rw [ByteArray.size_append,ByteArray.size_append,ByteArray.size_extract,ByteArray.size_extract];omega
   have hwr:IntKind.i64.wrap ((i:Int)+1)=(i:Int)+1:=by rw [IntKind.wrap_i64];omega
   have hto:((i:Int)+1).toNat=i+1:=by omega
   have hw2:w.heap.size≤w2.heap.size:=HU2.out.2.2.1;have hrw:=HL.out;have nr: ¬w2.heap.size=r:=by omega
   have htab: ∀n,n<6→ ∀W:World,(W.alloc (.cells #[.string ⟨#[65]⟩,.string ⟨#[49]⟩,.string ⟨#[40]⟩,.string ⟨#[44]⟩,.string ⟨#[34]⟩,.string ⟨#[32]⟩] 9)).cell? ⟨W.heap.size,n,none⟩=some (.string (tab6 n)):=fun n hn W=>by
    have hn':n=0∨n=1∨n=2∨n=3∨n=4∨n=5:=by omega
    rcases hn' with rfl | rfl | rfl | rfl | rfl | rfl<;>simp [tab6]
   go_wp2_with fail
   refine wp_region_held_drew (S:=fun _=>True) (by kernel_rfl) trivial (fun hHeld=> ?_);refine tkA 0 ?_;refine tkB 1 ?_;refine tkA 2 ?_;refine tkB 4 ?_;refine tkA 9 ?_;refine tkB 10 ?_
   refine tkA 11 ?_;refine tkB 12 ?_;refine rqB 3 5 (fun Kq hKq=> ?_) (fun Kq hKq=> ?_)
   ·go_simp;refine hKq.out _ _ trivial (fun hHeld=> ?_);clear hKq Kq;try simp only [Act.put,List.getElem_toArray,List.getElem_cons_zero,List.getElem_cons_succ,List.setIfInBounds_toArray,List.set_cons_zero,List.set_cons_succ]
    refine rqA 5 (fun Kq hKq=> ?_);go_simp;refine(QB r A len cap 6 _ (HR2.out.below (by go_grown)) (by omega) (by omega)).mono ?_;rintro e w3 ⟨q,rfl,q0,q1,hr,hu⟩;obtain⟨nq,rfl⟩: ∃n:Nat,q=(n:Int):=⟨q.toNat,by omega⟩;have hq6:nq<6:=(by omega);have hq7:(nq:Int)<6:=(by omega);have hq8:(0:Int)≤(nq:Int):=(by omega);have ht7:=htab nq hq6;have HR3:Hid (Rd w3 r A len cap):=hr;have HU3:Hid (Upd r w w3):=HU2.out.trans ((Upd.of_below (by omega) (by go_grown)).trans hu);obtain⟨uc,uf,uz,ub⟩:=hu;(try simp only [World.size_drew]at uc uf uz);clear hr ub;refine hKq.out _ _ trivial (fun hHeld=> ?_);clear hKq Kq;try simp only [Act.put,List.getElem_toArray,List.getElem_cons_zero,List.getElem_cons_succ,List.setIfInBounds_toArray,List.set_cons_zero,List.set_cons_succ]
    refine tkB 6 ?_;refine rqA 7 (fun Kq hKq=> ?_);go_simp;refine hKq.out _ _ trivial (fun hHeld=> ?_);clear hKq Kq;try simp only [Act.put,List.getElem_toArray,List.getElem_cons_zero,List.getElem_cons_succ,List.setIfInBounds_toArray,List.set_cons_zero,List.set_cons_succ]
    refine tkA 8 ?_;refine tkB 13 ?_;refine tkB 14 ?_;refine wpAnyH_done (by kernel_rfl) ?_ _;go_wp2_with fail
    go_ret;exact⟨_,rfl,HFS.out nq,HR3.out,HU3.out⟩
   ·go_simp;refine(QB r A len cap 6 _ (HR2.out.below (by go_grown)) (by omega) (by omega)).mono ?_;rintro e w3 ⟨q,rfl,q0,q1,hr,hu⟩;obtain⟨nq,rfl⟩: ∃n:Nat,q=(n:Int):=⟨q.toNat,by omega⟩;have hq6:nq<6:=(by omega);have hq7:(nq:Int)<6:=(by omega);have hq8:(0:Int)≤(nq:Int):=(by omega);have ht7:=htab nq hq6;have HR3:Hid (Rd w3 r A len cap):=hr;have HU3:Hid (Upd r w w3):=HU2.out.trans ((Upd.of_below (by omega) (by go_grown)).trans hu);obtain⟨uc,uf,uz,ub⟩:=hu;(try simp only [World.size_drew]at uc uf uz);clear hr ub;refine hKq.out _ _ trivial (fun hHeld=> ?_);clear hKq Kq;try simp only [Act.put,List.getElem_toArray,List.getElem_cons_zero,List.getElem_cons_succ,List.setIfInBounds_toArray,List.set_cons_zero,List.set_cons_succ]
    refine rqA 3 (fun Kq hKq=> ?_);go_simp;refine hKq.out _ _ trivial (fun hHeld=> ?_);clear hKq Kq;try simp only [Act.put,List.getElem_toArray,List.getElem_cons_zero,List.getElem_cons_succ,List.setIfInBounds_toArray,List.set_cons_zero,List.set_cons_succ]
    refine tkB 6 ?_;refine rqA 7 (fun Kq hKq=> ?_);go_simp;refine hKq.out _ _ trivial (fun hHeld=> ?_);clear hKq Kq;try simp only [Act.put,List.getElem_toArray,List.getElem_cons_zero,List.getElem_cons_succ,List.setIfInBounds_toArray,List.set_cons_zero,List.set_cons_succ]
    refine tkA 8 ?_;refine tkB 13 ?_;refine tkB 14 ?_;refine wpAnyH_done (by kernel_rfl) ?_ _;go_wp2_with fail
    go_ret;exact⟨_,rfl,HFS.out nq,HR3.out.below (by go_grown),HU3.out.trans (Upd.of_below (Nat.le_of_lt HR3.out.lt) (by go_grown))⟩
 have n2:(v==2)=false:=by simpa using h2
 go_wp2_with fail
 go_ret;exact⟨s,rfl,by omega,HR1.out,HU1.out⟩
theorem spec_l1OpenC (A:Option Addr) (len cap:Nat) (w:World):Calls Tryz.prog 32 #[.slice A len cap] w fun e w'=>
  e= .returned (.pointer (some ⟨w.heap.size,0,none⟩))∧w.alloc (.cells #[.slice A len cap,.int .i64 0] 102)=w':=by
 go_enter Tryz.func32,Tryz.ntmps32;go_wp2
 go_ret;exact⟨rfl,rfl⟩
theorem mtT_sizeM {K C R:Nat→Int} {T:Nat→ByteArray} {M:Nat→Int}: ∀n:Nat,(∀i,i<n→(T i).size≤300)→(mtT K C R T M n).size≤n*317
 | 0,_=>Nat.zero_le _
 | n+1,h=>by
  have h1:=mtT_sizeM (K:=K) (C:=C) (R:=R) (M:=M) n (fun i hi=>h i (by omega));have h2:=Qa7 (K n) (C n) (R n) (T n) (M n);have h3:=h n (by omega);have h4:nlb.size=1:=rfl;rw [mtT,ByteArray.size_append,ByteArray.size_append];omega
theorem mtO_sizeM {K C R:Nat→Int} {T:Nat→ByteArray} {M:Nat→Int} {n:Nat} (hn:n≤7) (h: ∀i,i<n→(T i).size≤300):(mtO K C R T M n).size≤2219:=by
 unfold mtO;split
 ·exact Nat.le_trans (mtT_sizeM n h) (by omega)
 ·exact Nat.zero_le _
theorem draw_macroText (H1:FtX 1 69) (H2:FtX 2 228) (A:Option Addr) (len cap:Nat) (w:World) (h:Cd w A len):Calls Tryz.prog 15 #[.slice A len cap] w fun e w'=>
  ∃(L:List SR) (B:Option Addr) (n c:Nat),e= .returned (.slice B n c)∧L.length=n∧n≤7∧w'.ownsRow w.heap.size 69 5 (.slice B n c) n (QC srC L)∧(∀x∈L,x.t.size≤300)∧Below w.heap.size w w':=by
 have HH:Hid (Cd w A len):=h;clear h;go_enter Tryz.func15,Tryz.ntmps15;go_wp2_with fail
 refine(spec_l1OpenC A len cap _).mono ?_;rintro e w1 ⟨rfl,rfl⟩;go_wp2_with fail
 refine(rd_macro H1 H2 w.heap.size A len cap _ (HH.out.open (by go_grown) rfl)).mono ?_;rintro e w2 ⟨L,B,n,c,rfl,hL,hn,hm⟩;have HB:Hid (Below w.heap.size w w2):=Below.trans (by go_grown) hm.upd.2.2.2.1
 have HO:Hid (w2.ownsRow w.heap.size 69 5 (.slice B n c) n (QC srC L)):=by
  have h9:=hm.own;rw [hL]at h9;exact ZP h9 (by simp<;>omega)
 have HZ:Hid (∀x∈L,x.t.size≤300):=hm.sz;clear hm;go_wp2_with fail
 go_ret;exact⟨L,B,n,c,rfl,hL,hn,HO.out,HZ.out,HB.out⟩
theorem draw_readMacro (H1:FtX 1 69) (H2:FtX 2 228) (A:Option Addr) (len cap:Nat) (w:World) (h:Cd w A len):Calls Tryz.prog 22 #[.slice A len cap] w fun e w'=>
  ∃s:ByteArray,e= .returned (.string s)∧s.size≤3000∧Below w.heap.size w w':=by
 have HH:Hid (Cd w A len):=h;clear h;go_enter Tryz.func22,Tryz.ntmps22;go_wp2_with fail
 refine(spec_l1OpenC A len cap _).mono ?_;rintro e w1 ⟨rfl,rfl⟩;go_wp2_with fail
 refine(rd_macro H1 H2 w.heap.size A len cap _ (HH.out.open (by go_grown) rfl)).mono ?_;rintro e w2 ⟨L,B,n,c,rfl,hL,hn,hm⟩;have HB:Hid (Below w.heap.size w w2):=Below.trans (by go_grown) hm.upd.2.2.2.1;have HR:Hid (Rd w2 w.heap.size A len cap):=hm.rd;have HMS:Hid (MsRow w2 B n (sK L) (sC L) (sR L) (sT L) (sM L)∧ ∀i,i<n→(sT L i).size≤300):=hm.ms hL;clear hm;go_wp2_with fail
 refine(Qgb w2 HMS.out.1 (fun i hi=>by have:=HMS.out.2 i hi;omega)).mono ?_;rintro e w3 ⟨rfl,hb⟩;obtain⟨t,HT⟩: ∃t,Hid (mtO (sK L) (sC L) (sR L) (sT L) (sM L) n=t):=⟨_,rfl⟩;have ht:t.size≤2219:=by rw [←HT.out];exact mtO_sizeM hn HMS.out.2
 rw [HT.out];have HB3:=hd (Qc HB.out hb);have HR3:=hd (HR.out.below hb);clear hb HB HR HMS HT;go_wp2_with fail
 refine(rd_hurt w.heap.size A len cap t _ HR3.out (by omega)).mono ?_;rintro e w5 ⟨s,rfl,hs,hr,hu⟩;have HB5:Hid (Below w.heap.size w w5):=HB3.out.trans hu.2.2.2.1;clear hr hu;go_wp2_with fail
 go_ret;exact⟨s,rfl,by omega,HB5.out⟩
theorem rmF_szN {s:ByteArray} (hs:s.size≤1048576): ∀i,i<(rmF s).length→(sT (rmF s) i).size≤1048576:=by
 intro i hi;unfold rmF at hi ⊢;split
 ·rename_i h
  rw [if_pos h]at hi;exact rmT_sz hs i hi
 ·rename_i h
  rw [if_neg h]at hi;exact absurd hi (Nat.not_lt_zero _)
theorem rmF_text {s:ByteArray} (h:rmB s=true):mtO (sK (rmF s)) (sC (rmF s)) (sR (rmF s)) (sT (rmF s)) (sM (rmF s)) (rmF s).length=s:=by
 have hF:rmF s=rmI s:=by unfold rmF;rw [if_pos h]
 rw [hF];unfold rmB at h;simp only [Bool.and_eq_true]at h;exact ba_tl.1 h.2
theorem mt_reads {L:List SR} {t:ByteArray} (hk:Zb (sK L) (sC L) (sR L) (sT L) (sM L) L.length=true) (ht:mtO (sK L) (sC L) (sR L) (sT L) (sM L) L.length=t):rmB t=true∧rmF t=L:=by
 have hT:mtT (sK L) (sC L) (sR L) (sT L) (sM L) L.length=t:=by rw [←ht];unfold mtO;rw [if_pos hk]
 obtain⟨h30,_,h1,h2,_,hc⟩:=Dj (L:=L) hk hT;have hI:rmI t=L:=by unfold rmI;rw [h1,h2]
 have hB:rmB t=true:=by
  unfold rmB;rw [hI,Bool.and_eq_true];exact⟨decide_eq_true (by omega),ba_tl.2 ht⟩
 exact⟨hB,by unfold rmF;rw [if_pos hB,hI]⟩
theorem laws_bigM (A:Option Addr) (len cap:Nat) (w:World):Calls Tryz.prog 7 #[.slice A len cap] w fun e w'=>
  e= .returned (.bool (decide ((1048576:Int)<(len:Int))))∧w'=w:=by
 go_enter Tryz.func7,Tryz.ntmps7;go_wp2
 go_ret;exact⟨rfl,rfl⟩
theorem laws_sameStmts {A A':Option Addr} {n cap cap':Nat} {K C R:Nat→Int} {T:Nat→ByteArray} {M:Nat→Int} (w:World) (h:MsRow w A n K C R T M) (h':MsRow w A' n K C R T M):
  Calls Tryz.prog 21 #[.slice A n cap,.slice A' n cap'] w fun e w'=>e= .returned (.bool true)∧Below w.heap.size w w':=by
 have HR:Hid (MsRow w A n K C R T M):=h;have HR':Hid (MsRow w A' n K C R T M):=h';have hn:=h.1;unfold maxLen at hn;clear h h';go_enter Tryz.func21,Tryz.ntmps21;go_wp2_with fail
 go_loopw [5] (fun i wr=> ∃k:Nat,k≤n∧i= .int .i64 k∧Below w.heap.size w wr) (fun i _=>n-(intOf i).toNat)
 case atStart=>exact⟨0,Nat.zero_le _,rfl,Below.refl _ _⟩
 case round=>
  obtain⟨k,hk,rfl,hbel⟩:=hrel;by_cases hlt:k<n
  ·obtain⟨b,o,rfl,hl,c0,c1,c2,c3,c4,hs⟩:=HR.out.2 k hlt;obtain⟨b',o',rfl,hl',c0',c1',c2',c3',c4',_⟩:=HR'.out.2 k hlt;rw [←hbel.cell (p:=⟨_,_,none⟩) hl]at c0 c1 c2 c3 c4;rw [←hbel.cell (p:=⟨_,_,none⟩) hl']at c0' c1' c2' c3' c4';have h0:(0:Int)≤(k:Int):=by omega
   have h1:(k:Int)<(n:Int):=by omega
   have hbb:((T k).toList==(T k).toList)=true:=by simp
   go_wp2_with fail
   all_goals try go_quiet (fail)
   all_goals try go_wp2_with fail
   all_goals
    go_roundw
    case rel=>exact⟨k+1,by omega,by go_num,hbel.trans ⟨rfl,rfl,rfl,Nat.le_refl _,fun _ _=>rfl⟩⟩
    case measure=>simp [intOf];omega
  ·have h1: ¬(k:Int)<(n:Int):=by omega
   go_wp2_with fail
   go_ret;exact⟨rfl,hbel⟩
theorem law_FnMacroTexts (H1:FtX 1 69) (H2:FtX 2 228) (A:Option Addr) (len cap:Nat) (w:World) (hz:len≤1048576→Cd w A len) (hg:RG w):Calls Tryz.prog 4 #[.slice A len cap] w fun e w'=>
  e= .returned (.bool true)∧Below w.heap.size w w':=by
 have HG:Hid (RG w):=hg;clear hg;by_cases hbig:(1048576:Int)<(len:Int)
 ·go_enter Tryz.func4,Tryz.ntmps4;go_wp2_with fail
  refine(laws_bigM A len cap _).mono ?_;rintro e wq ⟨rfl,hw⟩;subst wq;go_wp2_with fail
  go_ret;exact⟨rfl,Below.refl _ _⟩
 have HC:Hid (Cd w A len):=hz (by omega);clear hz;go_enter Tryz.func4,Tryz.ntmps4;go_wp2_with fail
 refine(laws_bigM A len cap _).mono ?_;rintro e wq ⟨rfl,hw⟩;subst wq;go_wp2_with fail
 refine(draw_macroText H1 H2 A len cap _ HC.out).mono ?_;rintro e w1 ⟨L,B,n,c,rfl,hL,hn,ho,hz,hb⟩;have K1:Hid (Below w.heap.size w w1):=hb;have O1:Hid (w1.ownsRow w.heap.size 69 5 (.slice B n c) n (QC srC L)):=ho;have HL:Hid (L.length=n):=hL
 have HZ:Hid (∀i,i<n→(sT L i).size≤300):=fun i hi=>by
  have e:L.getD i dSR=L[i]'(by omega):=by rw [List.getD_eq_getElem?_getD,List.getElem?_eq_getElem (by omega)];rfl
  unfold sT;rw [e];exact hz _ (List.getElem_mem _)
 have HZN:Hid (∀i,i<n→(sT L i).size≤1048576):=fun i hi=>by have:=HZ.out i hi;omega
 have HSZ:Hid (∀i,i<L.length→(sT L i).size≤maxLen):=fun i hi=>by rw [HL.out]at hi;have:=HZ.out i hi;unfold maxLen;omega
 clear hb ho hL hz;obtain⟨t,HT⟩: ∃t,Hid (mtO (sK L) (sC L) (sR L) (sT L) (sM L) n=t):=⟨_,rfl⟩;have HTS:Hid (t.size≤1048576):=by have h9:=mtO_sizeM (K:=sK L) (C:=sC L) (R:=sR L) (M:=sM L) hn HZ.out;rw [HT.out]at h9;exact(by omega:t.size≤1048576)
 obtain⟨b,HB⟩: ∃b,Hid (Zb (sK L) (sC L) (sR L) (sT L) (sM L) n=b):=⟨_,rfl⟩
 have HGOOD:Hid (b=true→rmB t=true∧rmF t=L):=fun h9=>by
  rw [←HB.out,←HL.out]at h9;refine mt_reads h9 ?_;rw [HL.out];exact HT.out
 have hbb:(t.toList==t.toList)=true:=by simp
 go_wp2_with fail
 refine(impl_MacroText w1 (ms_of_sr O1.out HL.out HSZ.out) HZN.out (HG.out.below K1.out).gi (HG.out.below K1.out).sw).mono ?_;rintro e w2 ⟨rfl,hb⟩;rw [HT.out];have O2:=hd (Qi O1.out hb);have K2:=hd (Qc K1.out hb);clear hb O1 K1;obtain⟨L3,HL3⟩: ∃P,Hid (rmF t=P):=⟨_,rfl⟩
 obtain⟨n3,HN3⟩: ∃m,Hid (L3.length=m):=⟨_,rfl⟩;obtain⟨ok,HK⟩: ∃b,Hid (rmB t=b):=⟨_,rfl⟩;rw [HL3.out,HK.out]at HGOOD;go_wp2_with fail
 refine(impl_ReadMacro t w2 HTS.out (HG.out.below K2.out)).mono ?_;rintro e w3 ⟨hp,hb⟩;obtain⟨A3,c3,rfl,ho⟩:=hp.out;rw [HL3.out,HN3.out]at ho ⊢;rw [HK.out];have P3:Hid (w3.ownsRow w2.heap.size 69 5 (.slice A3 n3 c3) n3 (QC srC L3)):=ho;have O3:=hd (Qi O2.out hb)
 have K3:=hd (Qc K2.out hb);clear hp ho hb O2 K2;cases b
 ·clear HGOOD;go_wp2_with fail
  refine(Qgb w3 (ms_of_sr O3.out HL.out HSZ.out) HZN.out).mono ?_;rintro e w4 ⟨rfl,hb⟩;rw [HT.out];have O4:=hd (Qi O3.out hb);have P4:=hd (Qi P3.out hb);have K4:=hd (Qc K3.out hb);clear hb O3 P3 K3
  go_wp2_with fail
  refine(impl_MacroOk w4 (ms_of_sr O4.out HL.out HSZ.out) HZN.out (HG.out.below K4.out).gi).mono ?_;rintro e w5 ⟨rfl,hb⟩;rw [HB.out];have O5:=hd (Qi O4.out hb);have P5:=hd (Qi P4.out hb);have K5:=hd (Qc K4.out hb);clear hb O4 P4 K4
  go_wp2_with fail
  refine(Kw w5 (ms_of_sr O5.out HL.out HSZ.out) HZN.out).mono ?_;rintro e w6 ⟨rfl,hb⟩;rw [HB.out];have O6:=hd (Qi O5.out hb);have P6:=hd (Qi P5.out hb);have K6:=hd (Qc K5.out hb);clear hb O5 P5 K5
  go_wp2_with fail
  refine(impl_MacroOk w6 (ms_of_sr O6.out HL.out HSZ.out) HZN.out (HG.out.below K6.out).gi).mono ?_;rintro e w7 ⟨rfl,hb⟩;rw [HB.out];have O7:=hd (Qi O6.out hb);have P7:=hd (Qi P6.out hb);have K7:=hd (Qc K6.out hb);clear hb O6 P6 K6
  have KX:Hid (Below w.heap.size w w7):=K7.out;clear O7 P7 K7;go_wp2_with fail
  refine(draw_readMacro H1 H2 A len cap _ (HC.out.below KX.out)).mono ?_;rintro e w8 ⟨s,rfl,hs,hb⟩;have K8:=hd (Qc KX.out hb);have HS:Hid (s.size≤1048576):=(by omega:s.size≤1048576);have HBK:Hid (rmB s=true→mtO (sK (rmF s)) (sC (rmF s)) (sR (rmF s)) (sT (rmF s)) (sM (rmF s)) (rmF s).length=s):=rmF_text;have HSZ2:Hid (∀i,i<(rmF s).length→(sT (rmF s) i).size≤1048576):=rmF_szN HS.out;clear hb hs KX
  obtain⟨P,HP⟩: ∃P,Hid (rmF s=P):=⟨_,rfl⟩;obtain⟨m,HM⟩: ∃m,Hid (P.length=m):=⟨_,rfl⟩;obtain⟨ok2,HK2⟩: ∃b,Hid (rmB s=b):=⟨_,rfl⟩;have hbs:(s.toList==s.toList)=true:=by simp
  rw [HP.out,HK2.out]at HBK;rw [HP.out]at HSZ2;go_wp2_with fail
  refine(impl_ReadMacro s w8 HS.out (HG.out.below K8.out)).mono ?_;rintro e w9 ⟨hp,hb⟩;obtain⟨A9,c9,rfl,ho⟩:=hp.out;rw [HP.out,HM.out]at ho ⊢;rw [HK2.out];have O9:Hid (w9.ownsRow w8.heap.size 69 5 (.slice A9 m c9) m (QC srC P)):=ho;have K9:=hd (Qc K8.out hb)
  clear hp ho hb K8;go_wp2_with fail
  refine(spec_ReadMacro s w9 HS.out).mono ?_;rintro e w10 ⟨B10,_,hp,hb⟩;obtain⟨A10,c10,rfl,ho⟩:=hp.out;rw [HP.out,HM.out];rw [HK2.out];have OA:=hd (Qi O9.out hb);have KA:=hd (Qc K9.out hb)
  clear hp ho hb K9 O9;cases ok2
  ·clear HBK;go_wp2_with fail
   go_ret;exact⟨rfl,KA.out⟩
  ·have HBS:Hid (mtO (sK P) (sC P) (sR P) (sT P) (sM P) m=s):=by have:=HBK.out rfl;rw [HM.out]at this;exact this
   clear HBK;go_wp2_with fail
   refine(impl_MacroText w10 (ms_of_sr OA.out HM.out (fun i hi=>by have:=HSZ2.out i hi;unfold maxLen;omega)) (fun i hi=>HSZ2.out i (by rw [HM.out];exact hi)) (HG.out.below KA.out).gi (HG.out.below KA.out).sw).mono ?_;rintro e w11 ⟨rfl,hb⟩;rw [HBS.out];have KB:=hd (Qc KA.out hb);clear hb OA KA;go_wp2_with fail
   go_ret;exact⟨rfl,KB.out⟩
 ·obtain⟨rfl,h9⟩:=HGOOD.out rfl;obtain rfl:=h9.symm;clear HGOOD;obtain rfl:n=n3:=HL.out.symm.trans HN3.out;go_wp2_with fail
  refine(Qgb w3 (ms_of_sr O3.out HL.out HSZ.out) HZN.out).mono ?_;rintro e w4 ⟨rfl,hb⟩;rw [HT.out];have O4:=hd (Qi O3.out hb);have P4:=hd (Qi P3.out hb);have K4:=hd (Qc K3.out hb);clear hb O3 P3 K3
  go_wp2_with fail
  refine(impl_MacroOk w4 (ms_of_sr O4.out HL.out HSZ.out) HZN.out (HG.out.below K4.out).gi).mono ?_;rintro e w5 ⟨rfl,hb⟩;rw [HB.out];have O5:=hd (Qi O4.out hb);have P5:=hd (Qi P4.out hb);have K5:=hd (Qc K4.out hb);clear hb O4 P4 K4
  go_wp2_with fail
  refine(Kw w5 (ms_of_sr O5.out HL.out HSZ.out) HZN.out).mono ?_;rintro e w6 ⟨rfl,hb⟩;rw [HB.out];have O6:=hd (Qi O5.out hb);have P6:=hd (Qi P5.out hb);have K6:=hd (Qc K5.out hb);clear hb O5 P5 K5
  go_wp2_with fail
  refine(impl_MacroOk w6 (ms_of_sr O6.out HL.out HSZ.out) HZN.out (HG.out.below K6.out).gi).mono ?_;rintro e w7 ⟨rfl,hb⟩;rw [HB.out];have O7:=hd (Qi O6.out hb);have P7:=hd (Qi P6.out hb);have K7:=hd (Qc K6.out hb);clear hb O6 P6 K6
  go_wp2_with fail
  refine(laws_sameStmts w7 (ms_of_sr P7.out HL.out HSZ.out) (ms_of_sr O7.out HL.out HSZ.out)).mono ?_;rintro e wy ⟨rfl,hb⟩;have KX:=hd (Qc K7.out hb);clear hb O7 P7 K7;go_wp2_with fail
  refine(draw_readMacro H1 H2 A len cap _ (HC.out.below KX.out)).mono ?_;rintro e w8 ⟨s,rfl,hs,hb⟩;have K8:=hd (Qc KX.out hb);have HS:Hid (s.size≤1048576):=(by omega:s.size≤1048576);have HBK:Hid (rmB s=true→mtO (sK (rmF s)) (sC (rmF s)) (sR (rmF s)) (sT (rmF s)) (sM (rmF s)) (rmF s).length=s):=rmF_text;have HSZ2:Hid (∀i,i<(rmF s).length→(sT (rmF s) i).size≤1048576):=rmF_szN HS.out;clear hb hs KX
  obtain⟨P,HP⟩: ∃P,Hid (rmF s=P):=⟨_,rfl⟩;obtain⟨m,HM⟩: ∃m,Hid (P.length=m):=⟨_,rfl⟩;obtain⟨ok2,HK2⟩: ∃b,Hid (rmB s=b):=⟨_,rfl⟩;have hbs:(s.toList==s.toList)=true:=by simp
  rw [HP.out,HK2.out]at HBK;rw [HP.out]at HSZ2;go_wp2_with fail
  refine(impl_ReadMacro s w8 HS.out (HG.out.below K8.out)).mono ?_;rintro e w9 ⟨hp,hb⟩;obtain⟨A9,c9,rfl,ho⟩:=hp.out;rw [HP.out,HM.out]at ho ⊢;rw [HK2.out];have O9:Hid (w9.ownsRow w8.heap.size 69 5 (.slice A9 m c9) m (QC srC P)):=ho;have K9:=hd (Qc K8.out hb)
  clear hp ho hb K8;go_wp2_with fail
  refine(spec_ReadMacro s w9 HS.out).mono ?_;rintro e w10 ⟨B10,_,hp,hb⟩;obtain⟨A10,c10,rfl,ho⟩:=hp.out;rw [HP.out,HM.out];rw [HK2.out];have OA:=hd (Qi O9.out hb);have KA:=hd (Qc K9.out hb)
  clear hp ho hb K9 O9;cases ok2
  ·clear HBK;go_wp2_with fail
   go_ret;exact⟨rfl,KA.out⟩
  ·have HBS:Hid (mtO (sK P) (sC P) (sR P) (sT P) (sM P) m=s):=by have:=HBK.out rfl;rw [HM.out]at this;exact this
   clear HBK;go_wp2_with fail
   refine(impl_MacroText w10 (ms_of_sr OA.out HM.out (fun i hi=>by have:=HSZ2.out i hi;unfold maxLen;omega)) (fun i hi=>HSZ2.out i (by rw [HM.out];exact hi)) (HG.out.below KA.out).gi (HG.out.below KA.out).sw).mono ?_;rintro e w11 ⟨rfl,hb⟩;rw [HBS.out];have KB:=hd (Qc KA.out hb);clear hb OA KA;go_wp2_with fail
   go_ret;exact⟨rfl,KB.out⟩
end Go.Proofs.YtejbnnacghbhoaaGreatDoor
