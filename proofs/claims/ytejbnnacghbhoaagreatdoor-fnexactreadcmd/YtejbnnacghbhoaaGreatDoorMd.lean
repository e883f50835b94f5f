import Derived.Test.YtejbnnacghbhoaaGreatDoorMn
import Derived.Test.YtejbnnacghbhoaaGreatDoorMc
import Derived.Test.YtejbnnacghbhoaaGreatDoorShelf
import Derived.Test.YtejbnnacghbhoaaGreatDoorGas
import Derived.Deep.QuietTactic
import Derived.BigQuiet
import Derived.Test.YtejbnnacghbhoaaGreatDoorGzj
import Derived.Deep.MidRow
import Derived.RangeFuncCalls
import Derived.Test.YtejbnnacghbhoaaGreatDoorPlaceJK
import Derived.Test.YtejbnnacghbhoaaGreatDoorGag
import Derived.Deep.RegionHeld3
set_option linter.unusedSimpArgs false
set_option linter.unusedVariables false
set_option maxHeartbeats 8000000
set_option maxRecDepth 100000
namespace Go.Proofs.YtejbnnacghbhoaaGreatDoor
open Go.RowKit
theorem Qab (b:UInt8): ∀l:List UInt8,l.take (cw b l).length=cw b l∧l.drop ((cw b l).length+1)=cr b l
 | []=>⟨rfl,rfl⟩
 | x::l=>by
  by_cases h:x=b
  ·subst h;rw [Be,Qj2];exact⟨rfl,rfl⟩
  ·obtain⟨a1,a2⟩:=Qab b l;rw [Hx _ _ _ h,Dx _ _ _ h];exact⟨by rw [List.length_cons,List.take_succ_cons,a1],by rw [List.length_cons,List.drop_succ_cons,a2]⟩
theorem NN (b:UInt8): ∀l:List UInt8,(b∈l→Lib.index l [b]=((cw b l).length:Int))∧(b∉l→Lib.index l [b]= -1)
 | []=>⟨fun h=>(nomatch h),fun _=>rfl⟩
 | x::l=>by
  obtain⟨a1,a2⟩:=NN b l;unfold Lib.index;by_cases h:x=b
  ·subst h;exact⟨fun _=>by rw [if_pos (by simp),Be];rfl,fun h9=>absurd (List.mem_cons_self ..) h9⟩
  ·have hp: ¬([b].isPrefixOf (x::l)=true):=by simp [List.isPrefixOf];exact fun e=>h e.symm
   rw [if_neg hp];refine⟨fun h9=> ?_,fun h9=> ?_⟩
   ·have h8:b∈l:=by rcases List.mem_cons.1 h9 with e | e;exact absurd e.symm h;exact e
    rw [a1 h8,if_neg (by simp),Hx _ _ _ h,List.length_cons];omega
   ·rw [a2 (fun e=>h9 (List.mem_cons_of_mem _ e))];first | done | rfl
theorem MW (b:UInt8): ∀l:List UInt8,(b∈l→Lib.indexByte l b=((cw b l).length:Int))∧(b∉l→Lib.indexByte l b= -1)
 | []=>⟨fun h=>(nomatch h),fun _=>rfl⟩
 | x::l=>by
  obtain⟨a1,a2⟩:=MW b l;unfold Lib.indexByte;by_cases h:x=b
  ·subst h;exact⟨fun _=>by rw [if_pos (by simp),Be];rfl,fun h9=>absurd (List.mem_cons_self ..) h9⟩
  ·rw [if_neg (by simp [h])];refine⟨fun h9=> ?_,fun h9=> ?_⟩
   ·have h8:b∈l:=by rcases List.mem_cons.1 h9 with e | e;exact absurd e.symm h;exact e
    rw [a1 h8,if_neg (by simp),Hx _ _ _ h,List.length_cons];omega
   ·rw [a2 (fun e=>h9 (List.mem_cons_of_mem _ e))];first | done | rfl
theorem Bv (b:UInt8) (l:List UInt8):(Lib.cut l [b]).1=cw b l∧(Lib.cut l [b]).2.1=cr b l:=by
 obtain⟨a1,a2⟩:=NN b l;obtain⟨c1,c2⟩:=Qab b l;by_cases h:b∈l
 ·unfold Lib.cut;rw [a1 h,if_pos (by omega)];exact⟨by simpa using c1,by simpa using c2⟩
 ·obtain⟨d1,d2⟩:=Hf (b:=b) (x:=l) (fun z hz e=>h (e▸hz));unfold Lib.cut;rw [a2 h,if_neg (by decide),d1,d2];exact⟨rfl,rfl⟩
theorem Qsk (l:List UInt8):Lib.trimSuffix (l++ [10]) [10]=l:=by
 unfold Lib.trimSuffix Lib.hasSuffix;simp
theorem Qsj {l:List UInt8} (h: ∀z∈l,z≠10):Lib.trimSuffix l [10]=l:=by
 unfold Lib.trimSuffix Lib.hasSuffix;by_cases hs:([10]:List UInt8).isSuffixOf l=true
 ·have h1:=List.isSuffixOf_iff_suffix.1 hs;obtain⟨t,rfl⟩:=h1;exact absurd rfl (h 10 (by simp))
 ·simp only [hs];rfl
theorem Qn6 (s:ByteArray) (w:World):Calls Tryz.prog 45 #[.string s,.string ⟨#[10]⟩] w fun e w'=>e= .returned (.int .i64 (s.data.toList.count 10:Nat))∧w'=w:=
 Tryz.strings_Count_one s 10 w
theorem Qoh (s:ByteArray) (w:World) (hs:s.size≤1048577):Calls Tryz.prog 48 #[.string s,.string ⟨#[10]⟩] w fun e w'=>e= .returned (.string (bs (Lib.trimSuffix s.data.toList [10])))∧w'=w:=
 Tryz.strings_TrimSuffix s ⟨#[10]⟩ w (by omega)
theorem Qrb (s:ByteArray) (b:UInt8) (w:World) (hs:s.size≤1048576) (hm:MX w):Calls Tryz.prog 64 #[.string s,.string ⟨#[b]⟩] w fun e w'=>
  (∃f:Bool,e= .returned (.tuple #[.string (bs (cw b s.data.toList)),.string (bs (cr b s.data.toList)),.bool f]))∧ ∃n,w'=w.drewN n:=by
 obtain⟨m,hm⟩:=hm;refine(Tryz.strings_Cut s ⟨#[b]⟩ m w (by omega) hm).mono ?_;rintro e w' ⟨rfl,hw⟩;obtain⟨e1,e2⟩:=Bv b s.data.toList;have e0:(⟨#[b]⟩:ByteArray).data.toList= [b]:=rfl;refine⟨⟨(Lib.cut s.data.toList [b]).2.2,?_⟩,hw⟩;rw [e0,e1,e2]
 rfl
theorem Qf2 (s:ByteArray) (w:World):Calls Tryz.prog 89 #[.string s,.int .u8 10] w fun e w'=>e= .returned (.int .i64 (Lib.indexByte s.data.toList 10))∧w'=w:=
 Tryz.strings_IndexByte s 10 w
theorem Qq5 (s:ByteArray) (a b:Nat):(s.extract a b).data.toList=(s.data.toList.drop a).take (b-a):=by
 simp [ByteArray.data_extract,Array.toList_extract,List.extract_eq_take_drop]
theorem at_L (s:ByteArray) (k:Nat) (hk:k<s.size):s.data.toList=s.data.toList.take k++s[k]::s.data.toList.drop (k+1):=by
 have h1:k<s.data.toList.length:=by simpa using hk
 have h2:s.data.toList[k]=s[k]:=by simp;rfl
 rw [←h2];exact(List.take_append_drop k _).symm.trans (congrArg _ (List.drop_eq_getElem_cons h1))
theorem take_ne {s:ByteArray} {b:UInt8} {k:Nat} (hk:k≤s.size) (h: ∀j (hj:j<k),s[j]'(by omega)≠b): ∀z∈s.data.toList.take k,z≠b:=by
 intro z hz;obtain⟨j,hj,rfl⟩:=List.getElem_of_mem hz;rw [List.length_take]at hj;rw [List.getElem_take];exact h j (by omega)
theorem Qqf {s:ByteArray} {b:UInt8} {k:Nat} (hk:k<s.size) (h: ∀j (hj:j<k),s[j]'(by omega)≠b) (e:s[k]=b):bs (cw b s.data.toList)=s.extract 0 k∧bs (cr b s.data.toList)=s.extract (k+1) s.size:=by
 have h1:=at_L s k hk;rw [e]at h1;obtain⟨a1,a2⟩:=XK (b:=b) (s.data.toList.drop (k+1)) (take_ne (Nat.le_of_lt hk) h);rw [←h1]at a1 a2;rw [a1,a2];constructor
 ·apply ByteArray.ext;apply Array.toList_inj.1;rw [Qq5];show _=_;simp [bs]
 ·apply ByteArray.ext;apply Array.toList_inj.1;rw [Qq5];show s.data.toList.drop (k+1)=_;rw [List.take_of_length_le];simp
theorem Qqg {s:ByteArray} {b:UInt8} (h: ∀j (hj:j<s.size),s[j]'(by omega)≠b):bs (cw b s.data.toList)=s∧bs (cr b s.data.toList)=⟨#[]⟩:=by
 have h1:=take_ne (Nat.le_refl s.size) h;rw [List.take_of_length_le (by simp)]at h1;obtain⟨a1,a2⟩:=Hf h1;rw [a1,a2];exact⟨rfl,rfl⟩
theorem BM {n:Nat} {w W:World} (h:Below n w W) (k:Nat):Below n w (W.drewN k):=by
 induction k with
 | zero=>exact h
 | succ k ih=>first | exact ih.drew | (rw [World.drewN_succ];exact ih.drew)
theorem Qn5 (s:ByteArray) (w:World) (hs:s.size≤1048576):Calls Tryz.prog 58 #[.string s] w fun e w'=>
  e= .returned (.tuple #[.string (bs (cw 32 s.data.toList)),.string (bs (cr 32 s.data.toList))])∧Below w.heap.size w w':=by
 go_enter Tryz.func58,Tryz.ntmps58;go_wp2_with fail
 go_loop [4] (fun v=> ∃k:Nat,∃hk:k≤s.size,v= .int .i64 k∧ ∀j,(hj:j<k)→s[j]'(by omega)≠32) (fun v=>s.size-(intOf v).toNat)
 case atStart=>exact⟨0,Nat.zero_le _,rfl,fun j hj=>by omega⟩
 case round=>
  obtain⟨k,hk,rfl,hr⟩:=hrel;have HR:Hid (∀j,(hj:j<k)→s[j]'(by omega)≠32):=hr;clear hr;have hk0:(0:Int)≤(k:Int):=by omega
  by_cases hlt:k<s.size
  ·have hlt':(k:Int)<(s.size:Int):=by omega
   have hne: ¬(k:Int)=(s.size:Int):=by omega
   by_cases hb:s[k]=32
   ·have HC:Hid (bs (cw 32 s.data.toList)=s.extract 0 k∧bs (cr 32 s.data.toList)=s.extract (k+1) s.size):=Qqf hlt HR.out hb;have h32:(s[k].toNat:Int)=32:=by rw [hb];rfl
    have q1:(k:Int)+1≤(s.size:Int):=by omega
    have q0:(0:Int)≤(k:Int)+1:=by omega
    have q2:IntKind.i64.wrap ((k:Int)+1)=(k:Int)+1:=by rw [IntKind.wrap_i64];omega
    go_wp2_with fail
    go_quiet (fail)
    go_wp2_with fail
    refine bodyPost_ret (v:= .tuple #[.string (s.extract 0 k),.string (s.extract (k+1) s.size)]) ?_ rfl ⟨by rw [HC.out.1,HC.out.2],BM (by go_grown) _⟩;simp (maxDischargeDepth:=9) [results,Tryz.results58,go_sem, *]
   ·have HL:Hid (∀j,(hj:j<k+1)→s[j]'(by omega)≠32):=fun j hj=>by
     by_cases e:j=k
     ·subst e;exact hb
     ·exact HR.out j (by omega)
    have h32: ¬(s[k].toNat:Int)=32:=fun e=>hb (by apply UInt8.toNat_inj.1;show s[k].toNat=32;omega);clear hb;go_wp2_with fail
    go_round
    case rel=>exact⟨k+1,by omega,by go_num,HL.out⟩
    case measure=>simp [intOf];omega
  ·have hlt': ¬(k:Int)<(s.size:Int):=by omega
   obtain rfl:k=s.size:=by omega
   have HC:Hid (bs (cw 32 s.data.toList)=s∧bs (cr 32 s.data.toList)=⟨#[]⟩):=Qqg HR.out;go_wp2_with fail
   refine bodyPost_ret (v:= .tuple #[.string s,.string ⟨#[]⟩]) ?_ rfl ⟨by rw [HC.out.1,HC.out.2],by go_grown⟩;simp (maxDischargeDepth:=9) [results,Tryz.results58,go_sem, *]
theorem Qht:(Tryz.prog.info? 9).map (fun i=>(i.zero,i.size,i.bytes))=some (some (.string ⟨#[]⟩),1,16):=by kernel_rfl
theorem Qa5 {W:World} {B g:Nat} {e:TypeId} {size:Nat} (hB:B≤W.heap.size) (hg:g=W.heap.size):(W.alloc (.cells #[] e)).ownsRow B e size (.slice (some ⟨g,0,none⟩) 0 0) 0 []:=by
 subst hg;exact World.ownsRow_made W #[] 0 hB (Nat.zero_le _) (by simp)
def stB (xs:List (List UInt8)):List Value:=xs.map fun l=> .string (bs l)
theorem Qgn (xs:List (List UInt8)) (x:List UInt8):stB (xs++ [x])=stB xs++ [.string (bs x)]:=by unfold stB;rw [List.map_append];rfl
theorem Qfv {w wi w1:World} {B:Nat} {e:TypeId} {size n:Nat} {v:Value} {xs:List Value} {o:Obj} (hown:wi.ownsRow B e size v n xs) (hbel:Below B w wi) (hB:B≤wi.heap.size) (hgrow:(wi.alloc o).grownBy w1 v.ownBlock):Below B w w1:=
 (hbel.alloc hB _).grown hgrow (by simp;omega) (fun k hk=>by have:=(hown.lt k hk).1;omega)
theorem Qmm {s:ByteArray} {k:Nat} (hk:k<s.size):ln (s.data.toList.take (k+1))=lnS (ln (s.data.toList.take k)) s[k]:=by
 rw [List.take_add_one,List.getElem?_eq_getElem (by simpa using hk)];exact Qmn _ _
theorem Qi4 (s:ByteArray) (w:World) (hs:s.size≤1048576):Calls Tryz.prog 57 #[.string s] w fun e w'=>
  ∃v,e= .returned (.tuple #[v,.bool (decide ((ln s.data.toList).2= []))])∧w'.ownsRow w.heap.size 9 1 v (ln s.data.toList).1.length (stB (ln s.data.toList).1)∧Below w.heap.size w w':=by
 obtain⟨i0,hi,hz0,hz1,hz2⟩:=info_parts Qht;go_enter Tryz.func57,Tryz.ntmps57;go_wp2_with fail
 go_loopw [4,5,6] (fun v p i wr=> ∃k:Nat,k≤s.size∧i= .int .i64 k∧p= .string (bs (ln (s.data.toList.take k)).2)∧wr.ownsRow w.heap.size 9 1 v (ln (s.data.toList.take k)).1.length (stB (ln (s.data.toList.take k)).1)∧Below w.heap.size w wr) (fun _ _ i _=>s.size-(intOf i).toNat)
 case atStart=>exact⟨0,Nat.zero_le _,rfl,rfl,Qa5 (Nat.le_refl _) rfl,by go_grown⟩
 case round=>
  obtain⟨k,hk,rfl,rfl,hown,hbel⟩:=hrel;have hk0:(0:Int)≤(k:Int):=by omega
  have hls:=Qhj (s.data.toList.take k)
  have hlc:(ln (s.data.toList.take k)).1.length≤k:=by
   rw [EJ];exact Nat.le_trans List.count_le_length (by rw [List.length_take];omega)
  have hl2:(ln (s.data.toList.take k)).2.length≤k:=Nat.le_trans hls.2 (by rw [List.length_take];omega);clear hls;obtain⟨⟨xs,q⟩,HQ⟩: ∃q,Hid (ln (s.data.toList.take k)=q):=⟨_,rfl⟩;rw [HQ.out]at hown hlc hl2 ⊢;have HW:Hid (wr.ownsRow w.heap.size 9 1 u4 xs.length (stB xs)):=hown;have KA:Hid (Below w.heap.size w wr):=hbel;replace hlc:xs.length≤k:=hlc
  replace hl2:q.length≤k:=hl2;have hqz:(bs q).size≤k:=hl2;clear hown hbel hl2;by_cases hlt:k<s.size
  ·have hlt':(k:Int)<(s.size:Int):=by omega
   have HN:Hid (ln (s.data.toList.take (k+1))=lnS (xs,q) s[k]):=by show _=_;rw [Qmm hlt,HQ.out]
   by_cases hb:s[k]=10
   ·have h32:(s[k].toNat:Int)=10:=by rw [hb];rfl
    have HM:Hid (ln (s.data.toList.take (k+1))=(xs++ [q],[])):=by show _=_;rw [HN.out];exact if_pos hb
    clear HN hb;obtain⟨p,HP⟩: ∃p,Hid (bs q=p):=⟨_,rfl⟩;rw [HP.out]at hqz ⊢
    go_wp2_with (first
     | (at_builtin;refine wpList_append_own _ rfl _ _ 86 rfl w.heap.size 9 i0 (.string ⟨#[]⟩) 1 16 Tryz.underlying86 hi hz0 hz1 hz2 rfl (by decide) _ _ _ rfl (HW.out.alloc _) ⟨wr.heap.size,0,none⟩ 1 1 [.string p] rfl rfl ?c1 ?c2 ?c3 ?c4 ?c5 ?_)
     | go_in)
    case c1=>
     intro q u hq;match q,hq with
     | 0,hq=>simp at hq;subst hq;simp [Addr.add]
    case c2=>intro u hu;simp at hu;subst hu;rfl
    case c3=>unfold maxLen;omega
    case c4=>omega
    case c5=>have:=KA.out.size;simp;omega
    intro v' w1' hown' hgrow _;have R2:=Qfv HW.out KA.out KA.out.size hgrow;have HW':Hid (w1'.ownsRow w.heap.size 9 1 v' (xs++ [q]).length (stB (xs++ [q]))):=by show World.ownsRow _ _ _ _ _ _ _;rw [Qgn,List.length_append,HP.out];exact hown'
    clear hown' hgrow HW;go_wp2_with fail
    go_roundw
    case rel=>exact⟨k+1,by omega,by go_num,by rw [HM.out];rfl,by rw [HM.out];exact HW'.out,R2⟩
    case measure=>simp [intOf];omega
   ·have h32: ¬(s[k].toNat:Int)=10:=fun e=>hb (by apply UInt8.toNat_inj.1;show s[k].toNat=10;omega);have HM:Hid (ln (s.data.toList.take (k+1))=(xs,q++ [s[k]])):=by show _=_;rw [HN.out];exact if_neg hb
    clear HN hb
    have HE:Hid (s.extract k (k+1)=bs [s[k]]):=by
     apply ByteArray.ext;apply Array.toList_inj.1;rw [Qq5];show _= [s[k]];have h1:k<s.data.toList.length:=by simpa using hlt
     rw [List.drop_eq_getElem_cons h1,show k+1-k=1 by omega];simp;rfl
    obtain⟨c,HCC⟩: ∃c,Hid (s.extract k (k+1)=c):=⟨_,rfl⟩;have hcz:c.size=1:=by rw [←HCC.out,HE.out];rfl
    obtain⟨p,HP⟩: ∃p,Hid (bs q=p):=⟨_,rfl⟩;have HA:Hid (p++c=bs (q++ [s[k]])):=by show _=_;rw [←HP.out,←HCC.out,HE.out,QM]
    rw [HP.out]at hqz ⊢;have hcc:=HCC.out;have q1:(k:Int)+1≤(s.size:Int):=by omega
    have q0:(0:Int)≤(k:Int)+1:=by omega
    have q3:(k:Int)≤(k:Int)+1:=by omega
    have q2:IntKind.i64.wrap ((k:Int)+1)=(k:Int)+1:=by rw [IntKind.wrap_i64];omega
    have q4: ¬9223372036854775807<p.size+1:=by omega
    have q5: ¬9223372036854775807<p.size+c.size:=by omega
    go_wp2_with fail
    go_roundw
    case rel=>exact⟨k+1,by omega,by go_num,by rw [HM.out];exact congrArg Value.string HA.out,by rw [HM.out];exact HW.out,KA.out⟩
    case measure=>simp [intOf];omega
  ·have hlt': ¬(k:Int)<(s.size:Int):=by omega
   obtain rfl:k=s.size:=by omega
   have HE:Hid (s.data.toList.take s.size=s.data.toList):=List.take_of_length_le (by simp);rw [HE.out]at HQ
   have HD:Hid ((bs q).toList.isEmpty=decide (q= [])):=by
    show _=_;rw [ByteArray.toList_eq];cases q<;>rfl
   go_wp2_with fail
   refine bodyPost_ret (v:= .tuple #[u4,.bool (bs q).toList.isEmpty]) ?_ rfl ⟨_,by rw [HQ.out,HD.out],by rw [HQ.out];exact HW.out,KA.out⟩;simp (maxDischargeDepth:=9) [results,Tryz.results57,go_sem, *]
structure RG (W:World):Prop where
 gi:GI W
 sw:SWG W
 s0:W.cell? ⟨0,0,none⟩=some (.string ⟨#[]⟩)
theorem RG.below {W W':World} (h:RG W) (hb:Below W.heap.size W W'):RG W':=⟨h.gi.below hb,h.sw.below hb,(hb.cell (p:=⟨0,0,none⟩) h.sw.2).trans h.s0⟩
def BX (W:World) (b:Nat) (cs:List Value):Prop:= ∀j v,cs[j]? =some v→W.cell? ⟨b,j,none⟩=some v∧W.frozen? ⟨b,j,none⟩=false
theorem BX.lt {W:World} {b:Nat} {cs:List Value} (h:BX W b cs) (h0:0<cs.length):b<W.heap.size:=by
 obtain⟨v,hv⟩: ∃v,cs[0]? =some v:=⟨_,List.getElem?_eq_getElem h0⟩;exact World.block_lt_of_cell? W ⟨b,0,none⟩ (h 0 v hv).1
theorem BX.below {W W':World} {b:Nat} {cs:List Value} (h:BX W b cs) (h0:0<cs.length) (hb:Below W.heap.size W W'):BX W' b cs:=fun j v hv=>
 ⟨(hb.cell (p:=⟨b,j,none⟩) (h.lt h0)).trans (h j v hv).1,(hb.frozen (p:=⟨b,j,none⟩) (h.lt h0)).trans (h j v hv).2⟩
theorem BX.at {W W':World} {b:Nat} {cs:List Value} (h:BX W b cs) (hb:W'.heap[b]? =W.heap[b]?):BX W' b cs:=fun j v hv=>
 ⟨(World.cell?_of_block hb).trans (h j v hv).1,by have:=(h j v hv).2;unfold World.frozen? at this ⊢;simpa only [hb]using this⟩
theorem BX.set {W:World} {b:Nat} {cs:List Value} (h:BX W b cs) (p:Nat) (u:Value) (hp:p<cs.length):BX (W.setCell ⟨b,p,none⟩ u) b (cs.set p u):=fun j v hv=>by
 by_cases e:p=j
 ·subst e;rw [List.getElem?_set_self hp]at hv;cases hv
  obtain⟨x,hx⟩: ∃x,cs[p]? =some x:=⟨_,List.getElem?_eq_getElem hp⟩;exact⟨World.cell?_setCell_same _ _ _ (h p x hx).1,by simpa using(h p x hx).2⟩
 ·rw [List.getElem?_set_ne e]at hv;exact⟨(World.cell?_setCell_other W ⟨b,p,none⟩ ⟨b,j,none⟩ u (fun e9=>e (by cases e9;rfl))).trans (h j v hv).1,by simpa using(h j v hv).2⟩
theorem BX.setCells {b:Nat}: ∀(vs:List Value) {W:World} {cs:List Value} (o:Nat),BX W b cs→o+vs.length≤cs.length→BX (W.setCells b o vs) b (Gz cs o vs)
 | [],_,_,_,h,_=>h
 | v::r,W,cs,o,h,hl=>by
  rw [List.length_cons]at hl;exact BX.setCells r (o+1) (h.set o v (by omega)) (by rw [List.length_set];omega)
theorem BX.there {W:World} {b:Nat} {cs:List Value} (h:BX W b cs) (o n:Nat) (hn:o+n≤cs.length):W.there b o n:=fun j hj=>by
 obtain⟨x,hx⟩: ∃x,cs[o+j]? =some x:=⟨_,List.getElem?_eq_getElem (by omega)⟩;rw [(h _ x hx).1];exact⟨rfl,(h _ x hx).2⟩
theorem below_setR (b:Nat): ∀(vs:List Value) (o:Nat) (w:World),Below b w (w.setCells b o vs)∧(w.setCells b o vs).heap.size=w.heap.size
 | [],_,w=>⟨Below.refl _ _,rfl⟩
 | v::r,o,w=>by
  obtain⟨h1,h2⟩:=below_setR b r (o+1) (w.setCell ⟨b,o,none⟩ v);exact⟨((Below.refl b w).setCell (Nat.le_refl _) v).trans h1,h2.trans (by simp)⟩
theorem stoB {ops:Array Oper} {rest:List Oper} {op:Oper} {a:Act} {Q:Exit→Act→World→Prop} {b o:Nat} {W:World} {cs:List Value} (hX:BX W b cs) (vs:List Value) (hl:o+vs.length≤cs.length) (hgd:op.guard=none) (e:TypeId) (x y:Operand) (ho:op.op= .store e x y)
  (hx:a.eval x= .pointer (some ⟨b,o,none⟩)) (hy:a.eval y= .agg vs.toArray) (hi:(Tryz.prog.info? e).map (·.size)=some vs.length) (h1:vs.all (·.oneCell')=true)
  (h: ∀W',BX W' b (Gz cs o vs)→Below b W W'→W'.heap.size=W.heap.size→(∀k,k≠b→W'.heap[k]? =W.heap[k]?)→wpList Tryz.prog ops Q rest (a.put op.dst undef) W'):wpList Tryz.prog ops Q (op::rest) a W:=by
 have hb:=below_setR b vs o W
 have hk: ∀(vs:List Value) (o:Nat) (W:World) (k:Nat),k≠b→(W.setCells b o vs).heap[k]? =W.heap[k]?:=by
  intro vs;induction vs with
  | nil=>intro o W k _;rfl
  | cons v r ih=>intro o W k hk;exact(ih (o+1) _ k hk).trans (Below.heap_setCell _ _ _ _ (by simpa using hk))
 exact wpList_store_mid hgd e x y ho b o vs.toArray hx hy (by simpa using hX.there o vs.length hl) (by simpa using hi) (all_oneCell_toArray (List.all_eq_true.1 h1)) (h _ (hX.setCells vs o hl) hb.1 hb.2 (hk vs o W))
theorem loaB {ops:Array Oper} {rest:List Oper} {op:Oper} {a:Act} {Q:Exit→Act→World→Prop} {b o:Nat} {W:World} {cs:List Value} (hX:BX W b cs) (vs:List Value) (hv: ∀j,j<vs.length→cs[o+j]? =vs[j]?) (hgd:op.guard=none) (e:TypeId) (x:Operand) (ho:op.op= .load e x)
  (hx:a.eval x= .pointer (some ⟨b,o,none⟩)) (d:TypeDesc) (hu:Tryz.prog.underlying e=some d) (hdq:d.isRow=true) (hi:(Tryz.prog.info? e).map (·.size)=some vs.length)
  (h:wpList Tryz.prog ops Q rest (a.put op.dst (.agg vs.toArray)) W):wpList Tryz.prog ops Q (op::rest) a W:=
 wpList_load_mid hgd e x ho b o hx vs d (fun j v hj=>(hX (o+j) v (by
  have h9:j<vs.length:=by
   rcases Nat.lt_or_ge j vs.length with h9 | h9
   ·exact h9
   ·rw [List.getElem?_eq_none h9]at hj;cases hj
  rw [hv j h9,hj])).1) hu hdq hi h
theorem bx_new (W:World) (cs:List Value) (e:TypeId):BX (W.alloc (.cells cs.toArray e)) W.heap.size cs:=fun j v hv=>by
 have h9:=World.alloc_heap_new W (.cells cs.toArray e);constructor
 ·unfold World.cell?;simp only [h9];simpa using hv
 ·unfold World.frozen?;simp only [h9];simp
def wdT (k:Nat):ByteArray:=if k=0 then⟨#[]⟩else Un k
def tabW (f:Nat→ByteArray):List Value:= [.string (f 0),.string (f 1),.string (f 2),.string (f 3),.string (f 4),.string (f 5)]
theorem ixW_0 (f:Nat→ByteArray) (w:World):(Instr.index 120 (.agg (tabW f).toArray) (.int .i64 0)).run Tryz.prog w= .ok (.string (f 0)) w:=by kernel_rfl
theorem ixW_1 (f:Nat→ByteArray) (w:World):(Instr.index 120 (.agg (tabW f).toArray) (.int .i64 1)).run Tryz.prog w= .ok (.string (f 1)) w:=by kernel_rfl
theorem ixW_2 (f:Nat→ByteArray) (w:World):(Instr.index 120 (.agg (tabW f).toArray) (.int .i64 2)).run Tryz.prog w= .ok (.string (f 2)) w:=by kernel_rfl
theorem ixW_3 (f:Nat→ByteArray) (w:World):(Instr.index 120 (.agg (tabW f).toArray) (.int .i64 3)).run Tryz.prog w= .ok (.string (f 3)) w:=by kernel_rfl
theorem ixW_4 (f:Nat→ByteArray) (w:World):(Instr.index 120 (.agg (tabW f).toArray) (.int .i64 4)).run Tryz.prog w= .ok (.string (f 4)) w:=by kernel_rfl
theorem ixW_5 (f:Nat→ByteArray) (w:World):(Instr.index 120 (.agg (tabW f).toArray) (.int .i64 5)).run Tryz.prog w= .ok (.string (f 5)) w:=by kernel_rfl
theorem ixW (f:Nat→ByteArray) (k:Nat) (hk:k<6) (w:World):(Instr.index 120 (.agg (tabW f).toArray) (.int .i64 (k:Int))).run Tryz.prog w= .ok (.string (f k)) w:=by
 have hq:k=0∨k=1∨k=2∨k=3∨k=4∨k=5:=by omega
 rcases hq with rfl | rfl | rfl | rfl | rfl | rfl
 ·exact ixW_0 f w
 ·exact ixW_1 f w
 ·exact ixW_2 f w
 ·exact ixW_3 f w
 ·exact ixW_4 f w
 ·exact ixW_5 f w
theorem rgW {W:World} (h:RG W):W.rangeAt 0 0 (tabW wdT):=by
 intro j v hv;rw [Nat.zero_add]
 have hj:j<6:=by
  rcases Nat.lt_or_ge j 6 with h9 | h9
  ·exact h9
  ·rw [List.getElem?_eq_none (by simp only [tabW,List.length_cons,List.length_nil];omega)]at hv;cases hv
 have hq:j=0∨j=1∨j=2∨j=3∨j=4∨j=5:=by omega
 rcases hq with rfl | rfl | rfl | rfl | rfl | rfl
 ·cases hv;exact h.s0
 ·cases hv;exact h.sw.1 1 (by omega) (by omega)
 ·cases hv;exact h.sw.1 2 (by omega) (by omega)
 ·cases hv;exact h.sw.1 3 (by omega) (by omega)
 ·cases hv;exact h.sw.1 4 (by omega) (by omega)
 ·cases hv;exact h.sw.1 5 (by omega) (by omega)
theorem kd_at {s:ByteArray} {k:Nat} (hk:k<6) (he:wdT k=s):kdL s.data.toList=(k:Int):=by
 subst he;have hq:k=0∨k=1∨k=2∨k=3∨k=4∨k=5:=by omega
 rcases hq with rfl | rfl | rfl | rfl | rfl | rfl<;>decide
theorem kd_no {s:ByteArray} (h: ∀j:Nat,j<6→wdT j≠s):kdL s.data.toList=0:=by
 have ne: ∀(j:Nat) (l:List UInt8),j<6→(wdT j).data.toList=l→ ¬s.data.toList=l:=fun j l hj e e2=>h j hj (ByteArray.ext (Array.toList_inj.1 (e.trans e2.symm)));unfold kdL;rw [if_neg (ne 1 _ (by omega) (by decide)),if_neg (ne 2 _ (by omega) (by decide)),if_neg (ne 3 _ (by omega) (by decide)),if_neg (ne 4 _ (by omega) (by decide)),if_neg (ne 5 _ (by omega) (by decide))]
theorem wpList_index_atR {ops:Array Oper} {rest:List Oper} {op:Oper} {a:Act} {w:World} {Q:Exit→Act→World→Prop} (hgd:op.guard=none) (ty:TypeId) (x y:Operand) (ho:op.op= .index ty x y) (vx vy v:Value) (hx:a.eval x=vx) (hy:a.eval y=vy)
  (hr:(Instr.index ty vx vy).run Tryz.prog w= .ok v w) (h:wpList Tryz.prog ops Q rest (a.put op.dst v) w):wpList Tryz.prog ops Q (op::rest) a w:=
 wpList_plain hgd fun _ hK=>by
  unfold Oper.wp execOp;simp only [ho,hx,hy,Sem.run_bind,hr,Sem.run_pure,Result.andThen_ok];exact hK _ _ h
theorem impl_stmtNamed (s:ByteArray) (w:World) (hg:RG w):Calls Tryz.prog 90 #[.string s] w fun e w'=>e= .returned (.int .i64 (kdL s.data.toList))∧Below w.heap.size w w':=by
 obtain⟨cs,hlen,hrg,hix⟩: ∃cs:List Value,cs.length=6∧w.rangeAt 0 0 cs∧ ∀k:Nat,k<6→ ∀w:World,(Instr.index 120 (.agg cs.toArray) (.int .i64 (k:Int))).run Tryz.prog w= .ok (.string (wdT k)) w:=⟨tabW wdT,rfl,rgW hg,fun k hk w=>ixW wdT k hk w⟩;clear hg;have HL:Hid (cs.length=6):=hlen;have HR:Hid (w.rangeAt 0 0 cs):=hrg;have HI:Hid (∀k:Nat,k<6→ ∀w:World,(Instr.index 120 (.agg cs.toArray) (.int .i64 (k:Int))).run Tryz.prog w= .ok (.string (wdT k)) w):=hix;clear hlen hrg hix;go_enter Tryz.func90,Tryz.ntmps90
 go_wp2_with (refine wpList_load_mid rfl 120 (.global 0) rfl 0 0 rfl cs _ HR.out Tryz.underlying120 rfl (by rw [HL.out];kernel_rfl) ?_)
 generalize (Value.agg cs.toArray)=tb at*
 go_loopw [6] (fun b wr=> ∃k:Nat,k≤6∧b= .int .i64 (k:Nat)∧(∀j:Nat,j<k→wdT j≠s)∧Below w.heap.size w wr) (fun b _=>6-(intOf b).toNat)
 case atStart=>exact⟨0,Nat.zero_le _,rfl,fun j hj=>absurd hj (Nat.not_lt_zero _),Below.refl _ _⟩
 case round=>
  obtain⟨k,hk,rfl,hno,hbw⟩:=hrel;have HBW:Hid (Below w.heap.size w wr):=hbw;have HNO:Hid (∀j:Nat,j<k→wdT j≠s):=hno;clear hbw hno;by_cases h12:k<6
  ·have q1:(k:Int)<6:=by omega
   have hw1:IntKind.i64.wrap ((k:Int)+1)=(k:Int)+1:=by rw [IntKind.wrap_i64];omega
   obtain⟨x,HX⟩: ∃x,Hid (wdT k=x):=⟨_,rfl⟩;have HIK:Hid (∀w:World,(Instr.index 120 tb (.int .i64 (k:Int))).run Tryz.prog w= .ok (.string x) w):=fun w=>by rw [←HX.out];exact HI.out k h12 w
   by_cases he:x=s
   ·have hb:(x.toList==s.toList)=true:=Jv he;have HE:Hid (kdL s.data.toList=(k:Int)):=kd_at h12 (HX.out.trans he);clear he;go_wp2_with (refine wpList_index_atR rfl _ _ _ rfl tb (.int .i64 (k:Int)) _ rfl rfl (HIK.out _) ?_)
    go_ret;exact⟨by rw [HE.out];rfl,Qc HBW.out (by go_grown)⟩
   ·have hb:(x.toList==s.toList)=false:=QF he
    have HN:Hid (∀j:Nat,j<k+1→wdT j≠s):=fun j hj=>by
     rcases Nat.lt_succ_iff_lt_or_eq.1 hj with h9 | rfl
     ·exact HNO.out j h9
     ·rw [HX.out];exact he
    clear he;go_wp2_with (refine wpList_index_atR rfl _ _ _ rfl tb (.int .i64 (k:Int)) _ rfl rfl (HIK.out _) ?_)
    exact⟨⟨k+1,by omega,by simp,HN.out,Qc HBW.out (by go_grown)⟩,by simp [intOf];omega⟩
  ·obtain rfl:k=6:=by omega
   have HE:Hid (kdL s.data.toList=0):=kd_no HNO.out;go_wp2_with fail
   go_ret;exact⟨by rw [HE.out];rfl,HBW.out⟩
def srV (x:SR):Value:= .agg #[.int .i64 x.k,.int .i64 x.c,.int .i64 x.r,.string x.t,.int .i64 x.m]
def srC (x:SR):List Value:= [.int .i64 x.k,.int .i64 x.c,.int .i64 x.r,.string x.t,.int .i64 x.m]
theorem infoSt5:(Tryz.prog.info? 69).map (·.size)=some 5:=by kernel_rfl
theorem infoRf2:(Tryz.prog.info? 26).map (·.size)=some 2:=by kernel_rfl
theorem kd_range (l:List UInt8):kdL l=0∨kdL l=1∨kdL l=2∨kdL l=3∨kdL l=4∨kdL l=5:=by
 unfold kdL;repeat' split
 all_goals simp
theorem impl_readStmt (s:ByteArray) (w:World) (hs:s.size≤1048576) (hg:RG w):Calls Tryz.prog 47 #[.string s] w fun e w'=>e= .returned (srV (rdI s.data.toList))∧Below w.heap.size w w':=by
 have HG:Hid (RG w):=hg;clear hg;obtain⟨l,HL⟩: ∃l,Hid (s.data.toList=l):=⟨_,rfl⟩;obtain⟨wd,HW⟩: ∃wd,Hid (bs (cw 32 l)=wd):=⟨_,rfl⟩;obtain⟨y,HY⟩: ∃y,Hid (bs (cr 32 l)=y):=⟨_,rfl⟩;obtain⟨p,HP⟩: ∃p,Hid (bs (cw 32 y.data.toList)=p):=⟨_,rfl⟩;obtain⟨q,HQ⟩: ∃q,Hid (bs (cr 32 y.data.toList)=q):=⟨_,rfl⟩
 obtain⟨k,HK⟩: ∃k,Hid (kdL (cw 32 l)=k):=⟨_,rfl⟩;have hsl:l.length=s.size:=by rw [←HL.out];simp
 have hzy:y.size≤1048576:=by rw [←HY.out,Qz];have:=cr_len 32 l;omega
 have hyl:y.data.toList.length=y.size:=by simp
 have hzp:p.size≤1048576:=by rw [←HP.out,Qz];have:=cw_len 32 y.data.toList;omega
 have hzq:q.size≤1048576:=by rw [←HQ.out,Qz];have:=cr_len 32 y.data.toList;omega
 have eyl:cr 32 l=y.data.toList:=by rw [←HY.out];rfl
 have epl:cw 32 y.data.toList=p.data.toList:=by rw [←HP.out];rfl
 have HR:Hid (rdI l=if k=1∨k=2 then⟨k,pqA p (Yh (rp3 p).data.toList),pqB p (Yh (rp3 p).data.toList),q,0⟩else if k=3∨k=4 then⟨k,0,0,q,(Yh p.data.toList).getD 0⟩else⟨k,0,0,y,0⟩):=by
  show _=_;unfold rdI;simp only [HK.out,eyl,epl,HQ.out,Nh]
 have HKR:Hid (k=0∨k=1∨k=2∨k=3∨k=4∨k=5):=by rw [←HK.out];exact kd_range _
 have HKW:Hid (kdL wd.data.toList=k):=by rw [←HW.out];exact HK.out
 rw [HL.out];clear hyl eyl epl;go_enter Tryz.func47,Tryz.ntmps47;go_wp2_with fail
 obtain⟨X0,HX0⟩: ∃X,Hid (w.alloc (.cells #[.int .i64 0,.int .i64 0,.int .i64 0,.string ⟨#[]⟩,.int .i64 0] 69)=X):=⟨_,rfl⟩;have B0:Hid (BX X0 w.heap.size [.int .i64 0,.int .i64 0,.int .i64 0,.string ⟨#[]⟩,.int .i64 0]):=by rw [←HX0.out];exact bx_new w _ _
 have K0:Hid (Below w.heap.size w X0):=by rw [←HX0.out];exact(Below.refl _ _).alloc (Nat.le_refl _) _
 rw [HX0.out];clear HX0;refine(Qrb s 32 X0 hs (HG.out.below K0.out).gi.mxR).mono ?_;rintro e w1 ⟨⟨f1,rfl⟩,n1,rfl⟩;rw [HL.out,HW.out,HY.out];obtain⟨X1,HX1⟩: ∃X,Hid (X0.drewN n1=X):=⟨_,rfl⟩;have K01:Hid (Below X0.heap.size X0 X1):=by rw [←HX1.out];exact BM (Below.refl _ _) _
 have B1:Hid (BX X1 w.heap.size [.int .i64 0,.int .i64 0,.int .i64 0,.string ⟨#[]⟩,.int .i64 0]):=B0.out.below (by simp) K01.out;have K1:=hd (Qc K0.out K01.out);rw [HX1.out];clear HX1 B0 K0 K01;go_wp2_with fail
 refine(impl_stmtNamed wd X1 (HG.out.below K1.out)).mono ?_;rintro e X2 ⟨rfl,hb2⟩;rw [HKW.out];have B2:Hid (BX X2 w.heap.size [.int .i64 0,.int .i64 0,.int .i64 0,.string ⟨#[]⟩,.int .i64 0]):=B1.out.below (by simp) hb2;have K2:=hd (Qc K1.out hb2);clear hb2 B1 K1;go_wp2_with fail
 obtain⟨b1,HB1⟩: ∃b1,Hid (X2.heap.size=b1):=⟨_,rfl⟩;obtain⟨Z,HZ⟩: ∃X,Hid (X2.alloc (.cells #[.int .i64 k,.int .i64 0,.int .i64 0,.string y,.int .i64 0] 69)=X):=⟨_,rfl⟩;have C0:Hid (BX Z b1 [.int .i64 k,.int .i64 0,.int .i64 0,.string y,.int .i64 0]):=by rw [←HZ.out,←HB1.out];exact bx_new X2 _ _
 have K2Z:Hid (Below X2.heap.size X2 Z):=by rw [←HZ.out];exact(Below.refl _ _).alloc (Nat.le_refl _) _
 have hlt1:w.heap.size<b1:=by have:=B2.out.lt (by simp);have:=HB1.out;omega
 rw [HZ.out,HB1.out];clear HZ;have K3Z:=hd (Qc K2.out K2Z.out);have B3Z:Hid (BX Z w.heap.size [.int .i64 0,.int .i64 0,.int .i64 0,.string ⟨#[]⟩,.int .i64 0]):=B2.out.below (by simp) K2Z.out;refine(Qrb y 32 Z hzy (HG.out.below K3Z.out).gi.mxR).mono ?_;rintro e w3 ⟨⟨f3,rfl⟩,n3,rfl⟩;rw [HP.out,HQ.out]
 obtain⟨X3,HX3⟩: ∃X,Hid (Z.drewN n3=X):=⟨_,rfl⟩;have KZ3:Hid (Below Z.heap.size Z X3):=by rw [←HX3.out];exact BM (Below.refl _ _) _
 have B3:Hid (BX X3 w.heap.size [.int .i64 0,.int .i64 0,.int .i64 0,.string ⟨#[]⟩,.int .i64 0]):=B3Z.out.below (by simp) KZ3.out;have C3:Hid (BX X3 b1 [.int .i64 k,.int .i64 0,.int .i64 0,.string y,.int .i64 0]):=C0.out.below (by simp) KZ3.out;have K3:=hd (Qc K3Z.out KZ3.out);rw [HX3.out];clear HX3 B2 K2 K2Z K3Z B3Z KZ3 C0 HKW HW HL hsl;have c0:=(C3.out 0 _ rfl).1;have hne1: ¬b1=w.heap.size:=by omega
 have hne2: ¬w.heap.size=b1:=by omega
 have HG3:=hd (HG.out.below K3.out);have hlb3:b1<X3.heap.size:=C3.out.lt (by simp);rcases HKR.out with rfl | rfl | rfl | rfl | rfl | rfl
 ·have HE:Hid (rdI l=⟨0,0,0,y,0⟩):=by show _=_;rw [HR.out,if_neg (by decide),if_neg (by decide)]
  clear HR
  go_wp2_with (first
   | (refine loaB C3.out [.int .i64 0,.int .i64 0,.int .i64 0,.string y,.int .i64 0] (fun j hj=>by rw [Nat.zero_add]) rfl 69 _ rfl rfl _ Tryz.underlying69 rfl infoSt5 ?_)
   | (refine stoB B3.out (srC ⟨0,0,0,y,0⟩) (by simp [srC]) rfl 69 _ _ rfl rfl rfl infoSt5 rfl ?_;intro Y hBY hbY hzY hkY;have d0:=(hBY 0 _ rfl).1;have d1:=(hBY 1 _ rfl).1;have d2:=(hBY 2 _ rfl).1;have d3:=(hBY 3 _ rfl).1;have d4:=(hBY 4 _ rfl).1;have KY:Hid (Below w.heap.size w Y):=K3.out.trans hbY))
  refine bodyPost_ret (v:=srV ⟨0,0,0,y,0⟩) ?_ rfl ⟨by rw [HE.out],KY.out⟩;simp (maxDischargeDepth:=9) [results,Tryz.results47,go_sem,srV, *]
 ·obtain⟨pa,HPA⟩: ∃o,Hid (pqA p (Yh (rp3 p).data.toList)=o):=⟨_,rfl⟩;obtain⟨pb,HPB⟩: ∃o,Hid (pqB p (Yh (rp3 p).data.toList)=o):=⟨_,rfl⟩;have HE:Hid (rdI l=⟨1,pa,pb,q,0⟩):=by show _=_;rw [HR.out,if_pos (by decide),HPA.out,HPB.out]
  clear HR;go_wp2_with fail
  refine(Ul p X3 hzp HG3.out.gi.vs).mono ?_;rintro e X4 ⟨rfl,hb4⟩;have HV:Hid (plV (rpC p) (Yh (rp3 p).data.toList) (QE p) (QE (rp2 p))= .tuple #[.agg #[.int .i64 pa,.int .i64 pb,.bool (Xd (rpC p) (Yh (rp3 p).data.toList)&&QE p),.bool (Xd (rpC p) (Yh (rp3 p).data.toList)&&QE (rp2 p))],.bool (Xd (rpC p) (Yh (rp3 p).data.toList))]):=by rw [←HPA.out,←HPB.out];exact(rfl:plV _ _ _ _=_)
  rw [HV.out];generalize (Xd (rpC p) (Yh (rp3 p).data.toList)&&QE p)=z1
  generalize (Xd (rpC p) (Yh (rp3 p).data.toList)&&QE (rp2 p))=z2
  generalize (Xd (rpC p) (Yh (rp3 p).data.toList))=z3
  have B4:Hid (BX X4 w.heap.size [.int .i64 0,.int .i64 0,.int .i64 0,.string ⟨#[]⟩,.int .i64 0]):=B3.out.below (by simp) hb4;have C4:Hid (BX X4 b1 [.int .i64 1,.int .i64 0,.int .i64 0,.string y,.int .i64 0]):=C3.out.below (by simp) hb4;have K4:=hd (Qc K3.out hb4);have hl4:w.heap.size≤X4.heap.size:=K4.out.size;clear hb4 c0 HPA HPB
  go_wp2_with (first
   | (refine stoB (o:=1) (C4.out.below (by simp) (by go_grown)) [.int .i64 pa,.int .i64 pb] (by simp) rfl 26 _ _ rfl rfl rfl infoRf2 rfl ?_;intro W5 hB5 hb5 hz5 hk5;have C5:Hid (BX W5 b1 [.int .i64 1,.int .i64 pa,.int .i64 pb,.string y,.int .i64 0]):=hB5;have B5:Hid (BX W5 w.heap.size [.int .i64 0,.int .i64 0,.int .i64 0,.string ⟨#[]⟩,.int .i64 0]):=(B4.out.below (by simp) (by go_grown)).at (hk5 _ hne2);have K5:Hid (Below w.heap.size w W5):=(Qc K4.out (by go_grown)).trans (hb5.mono (by omega));have c3:=(C5.out 3 _ rfl).1;have g3:=(C5.out 3 _ rfl).2;clear hB5 hb5 hz5 hk5;have D4:Hid (BX (W5.setCell ⟨b1,3,none⟩ (.string q)) b1 [.int .i64 1,.int .i64 pa,.int .i64 pb,.string q,.int .i64 0]):=C5.out.set 3 _ (by simp);have E4:Hid (BX (W5.setCell ⟨b1,3,none⟩ (.string q)) w.heap.size [.int .i64 0,.int .i64 0,.int .i64 0,.string ⟨#[]⟩,.int .i64 0]):=B5.out.at (Below.heap_setCell _ _ _ _ hne2);have K6:Hid (Below w.heap.size w (W5.setCell ⟨b1,3,none⟩ (.string q))):=K5.out.setCell (p:=⟨b1,3,none⟩) (by show w.heap.size≤b1;omega) _)
   | (refine loaB D4.out [.int .i64 1,.int .i64 pa,.int .i64 pb,.string q,.int .i64 0] (fun j hj=>by rw [Nat.zero_add]) rfl 69 _ rfl rfl _ Tryz.underlying69 rfl infoSt5 ?_)
   | (refine stoB E4.out (srC ⟨1,pa,pb,q,0⟩) (by simp [srC]) rfl 69 _ _ rfl rfl rfl infoSt5 rfl ?_;intro Y hBY hbY hzY hkY;have d0:=(hBY 0 _ rfl).1;have d1:=(hBY 1 _ rfl).1;have d2:=(hBY 2 _ rfl).1;have d3:=(hBY 3 _ rfl).1;have d4:=(hBY 4 _ rfl).1;have KY:Hid (Below w.heap.size w Y):=K6.out.trans hbY))
  refine bodyPost_ret (v:=srV ⟨1,pa,pb,q,0⟩) ?_ rfl ⟨by rw [HE.out],KY.out⟩;simp (maxDischargeDepth:=9) [results,Tryz.results47,go_sem,srV, *]
 ·obtain⟨pa,HPA⟩: ∃o,Hid (pqA p (Yh (rp3 p).data.toList)=o):=⟨_,rfl⟩;obtain⟨pb,HPB⟩: ∃o,Hid (pqB p (Yh (rp3 p).data.toList)=o):=⟨_,rfl⟩;have HE:Hid (rdI l=⟨2,pa,pb,q,0⟩):=by show _=_;rw [HR.out,if_pos (by decide),HPA.out,HPB.out]
  clear HR;go_wp2_with fail
  refine(Ul p X3 hzp HG3.out.gi.vs).mono ?_;rintro e X4 ⟨rfl,hb4⟩;have HV:Hid (plV (rpC p) (Yh (rp3 p).data.toList) (QE p) (QE (rp2 p))= .tuple #[.agg #[.int .i64 pa,.int .i64 pb,.bool (Xd (rpC p) (Yh (rp3 p).data.toList)&&QE p),.bool (Xd (rpC p) (Yh (rp3 p).data.toList)&&QE (rp2 p))],.bool (Xd (rpC p) (Yh (rp3 p).data.toList))]):=by rw [←HPA.out,←HPB.out];exact(rfl:plV _ _ _ _=_)
  rw [HV.out];generalize (Xd (rpC p) (Yh (rp3 p).data.toList)&&QE p)=z1
  generalize (Xd (rpC p) (Yh (rp3 p).data.toList)&&QE (rp2 p))=z2
  generalize (Xd (rpC p) (Yh (rp3 p).data.toList))=z3
  have B4:Hid (BX X4 w.heap.size [.int .i64 0,.int .i64 0,.int .i64 0,.string ⟨#[]⟩,.int .i64 0]):=B3.out.below (by simp) hb4;have C4:Hid (BX X4 b1 [.int .i64 2,.int .i64 0,.int .i64 0,.string y,.int .i64 0]):=C3.out.below (by simp) hb4;have K4:=hd (Qc K3.out hb4);have hl4:w.heap.size≤X4.heap.size:=K4.out.size;clear hb4 c0 HPA HPB
  go_wp2_with (first
   | (refine stoB (o:=1) (C4.out.below (by simp) (by go_grown)) [.int .i64 pa,.int .i64 pb] (by simp) rfl 26 _ _ rfl rfl rfl infoRf2 rfl ?_;intro W5 hB5 hb5 hz5 hk5;have C5:Hid (BX W5 b1 [.int .i64 2,.int .i64 pa,.int .i64 pb,.string y,.int .i64 0]):=hB5;have B5:Hid (BX W5 w.heap.size [.int .i64 0,.int .i64 0,.int .i64 0,.string ⟨#[]⟩,.int .i64 0]):=(B4.out.below (by simp) (by go_grown)).at (hk5 _ hne2);have K5:Hid (Below w.heap.size w W5):=(Qc K4.out (by go_grown)).trans (hb5.mono (by omega));have c3:=(C5.out 3 _ rfl).1;have g3:=(C5.out 3 _ rfl).2;clear hB5 hb5 hz5 hk5;have D4:Hid (BX (W5.setCell ⟨b1,3,none⟩ (.string q)) b1 [.int .i64 2,.int .i64 pa,.int .i64 pb,.string q,.int .i64 0]):=C5.out.set 3 _ (by simp);have E4:Hid (BX (W5.setCell ⟨b1,3,none⟩ (.string q)) w.heap.size [.int .i64 0,.int .i64 0,.int .i64 0,.string ⟨#[]⟩,.int .i64 0]):=B5.out.at (Below.heap_setCell _ _ _ _ hne2);have K6:Hid (Below w.heap.size w (W5.setCell ⟨b1,3,none⟩ (.string q))):=K5.out.setCell (p:=⟨b1,3,none⟩) (by show w.heap.size≤b1;omega) _)
   | (refine loaB D4.out [.int .i64 2,.int .i64 pa,.int .i64 pb,.string q,.int .i64 0] (fun j hj=>by rw [Nat.zero_add]) rfl 69 _ rfl rfl _ Tryz.underlying69 rfl infoSt5 ?_)
   | (refine stoB E4.out (srC ⟨2,pa,pb,q,0⟩) (by simp [srC]) rfl 69 _ _ rfl rfl rfl infoSt5 rfl ?_;intro Y hBY hbY hzY hkY;have d0:=(hBY 0 _ rfl).1;have d1:=(hBY 1 _ rfl).1;have d2:=(hBY 2 _ rfl).1;have d3:=(hBY 3 _ rfl).1;have d4:=(hBY 4 _ rfl).1;have KY:Hid (Below w.heap.size w Y):=K6.out.trans hbY))
  refine bodyPost_ret (v:=srV ⟨2,pa,pb,q,0⟩) ?_ rfl ⟨by rw [HE.out],KY.out⟩;simp (maxDischargeDepth:=9) [results,Tryz.results47,go_sem,srV, *]
 ·obtain⟨o,HO⟩: ∃o,Hid ((Yh p.data.toList).getD 0=o):=⟨_,rfl⟩;have HE:Hid (rdI l=⟨3,0,0,q,o⟩):=by show _=_;rw [HR.out,if_neg (by decide),if_pos (by decide),HO.out]
  clear HR;go_wp2_with fail
  refine(XE p X3 (by omega) HG3.out.gi.vs).mono ?_;rintro e X4 ⟨rfl,hb4⟩;rw [HO.out];have B4:Hid (BX X4 w.heap.size [.int .i64 0,.int .i64 0,.int .i64 0,.string ⟨#[]⟩,.int .i64 0]):=B3.out.below (by simp) hb4;have C4:Hid (BX X4 b1 [.int .i64 3,.int .i64 0,.int .i64 0,.string y,.int .i64 0]):=C3.out.below (by simp) hb4;have K4:=hd (Qc K3.out hb4);have c3:=(C4.out 3 _ rfl).1
  have g3:=(C4.out 3 _ rfl).2;have c4:=(C4.out 4 _ rfl).1;have g4:=(C4.out 4 _ rfl).2;have hl4:w.heap.size≤X4.heap.size:=K4.out.size;have D4:Hid (BX ((X4.setCell ⟨b1,4,none⟩ (.int .i64 o)).setCell ⟨b1,3,none⟩ (.string q)) b1 [.int .i64 3,.int .i64 0,.int .i64 0,.string q,.int .i64 o]):=(C4.out.set 4 _ (by simp)).set 3 _ (by simp);have E4:Hid (BX ((X4.setCell ⟨b1,4,none⟩ (.int .i64 o)).setCell ⟨b1,3,none⟩ (.string q)) w.heap.size [.int .i64 0,.int .i64 0,.int .i64 0,.string ⟨#[]⟩,.int .i64 0]):=B4.out.at ((Below.heap_setCell _ _ _ _ hne2).trans (Below.heap_setCell _ _ _ _ hne2));have K5:Hid (Below w.heap.size w ((X4.setCell ⟨b1,4,none⟩ (.int .i64 o)).setCell ⟨b1,3,none⟩ (.string q))):=(K4.out.setCell (p:=⟨b1,4,none⟩) (by show w.heap.size≤b1;omega) _).setCell (p:=⟨b1,3,none⟩) (by show w.heap.size≤b1;omega) _
  clear hb4 c0
  go_wp2_with (first
   | (refine loaB D4.out [.int .i64 3,.int .i64 0,.int .i64 0,.string q,.int .i64 o] (fun j hj=>by rw [Nat.zero_add]) rfl 69 _ rfl rfl _ Tryz.underlying69 rfl infoSt5 ?_)
   | (refine stoB E4.out (srC ⟨3,0,0,q,o⟩) (by simp [srC]) rfl 69 _ _ rfl rfl rfl infoSt5 rfl ?_;intro Y hBY hbY hzY hkY;have d0:=(hBY 0 _ rfl).1;have d1:=(hBY 1 _ rfl).1;have d2:=(hBY 2 _ rfl).1;have d3:=(hBY 3 _ rfl).1;have d4:=(hBY 4 _ rfl).1;have KY:Hid (Below w.heap.size w Y):=K5.out.trans hbY))
  refine bodyPost_ret (v:=srV ⟨3,0,0,q,o⟩) ?_ rfl ⟨by rw [HE.out],KY.out⟩;simp (maxDischargeDepth:=9) [results,Tryz.results47,go_sem,srV, *]
 ·obtain⟨o,HO⟩: ∃o,Hid ((Yh p.data.toList).getD 0=o):=⟨_,rfl⟩;have HE:Hid (rdI l=⟨4,0,0,q,o⟩):=by show _=_;rw [HR.out,if_neg (by decide),if_pos (by decide),HO.out]
  clear HR;go_wp2_with fail
  refine(XE p X3 (by omega) HG3.out.gi.vs).mono ?_;rintro e X4 ⟨rfl,hb4⟩;rw [HO.out];have B4:Hid (BX X4 w.heap.size [.int .i64 0,.int .i64 0,.int .i64 0,.string ⟨#[]⟩,.int .i64 0]):=B3.out.below (by simp) hb4;have C4:Hid (BX X4 b1 [.int .i64 4,.int .i64 0,.int .i64 0,.string y,.int .i64 0]):=C3.out.below (by simp) hb4;have K4:=hd (Qc K3.out hb4);have c3:=(C4.out 3 _ rfl).1
  have g3:=(C4.out 3 _ rfl).2;have c4:=(C4.out 4 _ rfl).1;have g4:=(C4.out 4 _ rfl).2;have hl4:w.heap.size≤X4.heap.size:=K4.out.size;have D4:Hid (BX ((X4.setCell ⟨b1,4,none⟩ (.int .i64 o)).setCell ⟨b1,3,none⟩ (.string q)) b1 [.int .i64 4,.int .i64 0,.int .i64 0,.string q,.int .i64 o]):=(C4.out.set 4 _ (by simp)).set 3 _ (by simp);have E4:Hid (BX ((X4.setCell ⟨b1,4,none⟩ (.int .i64 o)).setCell ⟨b1,3,none⟩ (.string q)) w.heap.size [.int .i64 0,.int .i64 0,.int .i64 0,.string ⟨#[]⟩,.int .i64 0]):=B4.out.at ((Below.heap_setCell _ _ _ _ hne2).trans (Below.heap_setCell _ _ _ _ hne2));have K5:Hid (Below w.heap.size w ((X4.setCell ⟨b1,4,none⟩ (.int .i64 o)).setCell ⟨b1,3,none⟩ (.string q))):=(K4.out.setCell (p:=⟨b1,4,none⟩) (by show w.heap.size≤b1;omega) _).setCell (p:=⟨b1,3,none⟩) (by show w.heap.size≤b1;omega) _
  clear hb4 c0
  go_wp2_with (first
   | (refine loaB D4.out [.int .i64 4,.int .i64 0,.int .i64 0,.string q,.int .i64 o] (fun j hj=>by rw [Nat.zero_add]) rfl 69 _ rfl rfl _ Tryz.underlying69 rfl infoSt5 ?_)
   | (refine stoB E4.out (srC ⟨4,0,0,q,o⟩) (by simp [srC]) rfl 69 _ _ rfl rfl rfl infoSt5 rfl ?_;intro Y hBY hbY hzY hkY;have d0:=(hBY 0 _ rfl).1;have d1:=(hBY 1 _ rfl).1;have d2:=(hBY 2 _ rfl).1;have d3:=(hBY 3 _ rfl).1;have d4:=(hBY 4 _ rfl).1;have KY:Hid (Below w.heap.size w Y):=K5.out.trans hbY))
  refine bodyPost_ret (v:=srV ⟨4,0,0,q,o⟩) ?_ rfl ⟨by rw [HE.out],KY.out⟩;simp (maxDischargeDepth:=9) [results,Tryz.results47,go_sem,srV, *]
 ·have HE:Hid (rdI l=⟨5,0,0,y,0⟩):=by show _=_;rw [HR.out,if_neg (by decide),if_neg (by decide)]
  clear HR
  go_wp2_with (first
   | (refine loaB C3.out [.int .i64 5,.int .i64 0,.int .i64 0,.string y,.int .i64 0] (fun j hj=>by rw [Nat.zero_add]) rfl 69 _ rfl rfl _ Tryz.underlying69 rfl infoSt5 ?_)
   | (refine stoB B3.out (srC ⟨5,0,0,y,0⟩) (by simp [srC]) rfl 69 _ _ rfl rfl rfl infoSt5 rfl ?_;intro Y hBY hbY hzY hkY;have d0:=(hBY 0 _ rfl).1;have d1:=(hBY 1 _ rfl).1;have d2:=(hBY 2 _ rfl).1;have d3:=(hBY 3 _ rfl).1;have d4:=(hBY 4 _ rfl).1;have KY:Hid (Below w.heap.size w Y):=K3.out.trans hbY))
  refine bodyPost_ret (v:=srV ⟨5,0,0,y,0⟩) ?_ rfl ⟨by rw [HE.out],KY.out⟩;simp (maxDischargeDepth:=9) [results,Tryz.results47,go_sem,srV, *]
end Go.Proofs.YtejbnnacghbhoaaGreatDoor
