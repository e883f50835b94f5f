import Derived.Test.YtbdhinckiccniaaGreatDoorGaa
import Derived.Laws.IdiomStrings
import Derived.Laws.Cover4
import Derived.Test.YtbdhinckiccniaaGreatDoorGag
import Derived.Deep.QuietTactic
set_option linter.unusedSimpArgs false
set_option linter.unusedVariables false
set_option maxHeartbeats 4000000
namespace Go.Proofs.YtbdhinckiccniaaGreatDoor
open Go.RowKit
def inB (n l h:Int):Bool:=decide (l≤n∧n≤h)
theorem Jq (n l h:Int) (w:World):Calls Tryz.prog 121 #[.int .i64 n,.int .i64 l,.int .i64 h] w fun e w'=>
  e= .returned (.bool (inB n l h))∧w'=w:=by
 go_enter Tryz.func121,Tryz.ntmps121;go_wp2
 all_goals
  go_ret;refine⟨Qb ?_,rfl⟩;unfold inB;rw [Bool.eq_iff_iff];simp;try omega
def ZM (n:Int):ByteArray:=if 1≤n∧n≤26 then⟨#[UInt8.ofNat (65+(n-1)).toNat]⟩else if 27≤n∧n≤52 then⟨#[65,UInt8.ofNat (65+(n-27)).toNat]⟩else⟨#[]⟩
theorem Vj {n:Int} (h:1≤n) (h':n≤26):ZM n=⟨#[UInt8.ofNat (65+(n-1)).toNat]⟩:=by unfold ZM;rw [if_pos ⟨h,h'⟩]
theorem Vi {n:Int} (h:27≤n) (h':n≤52):ZM n=⟨#[65,UInt8.ofNat (65+(n-27)).toNat]⟩:=by unfold ZM;rw [if_neg (by omega),if_pos ⟨h,h'⟩]
theorem MT {n:Int} (h:n<1∨52<n):ZM n=⟨#[]⟩:=by unfold ZM;rw [if_neg (by omega),if_neg (by omega)]
theorem Jn (r:Int) (h0:0≤r) (h1:r<128):Utf8.encode r=⟨#[UInt8.ofNat r.toNat]⟩:=by
 unfold Utf8.encode;have hv:Utf8.valid r=true:=by unfold Utf8.valid;simp;omega
 simp only [hv,if_true];rw [if_pos (by omega)]
theorem Xr (x:ByteArray):x++(⟨#[]⟩:ByteArray)=x:=by apply ByteArray.ext;simp
theorem Nz (x y:UInt8):(⟨#[x]⟩:ByteArray)++(⟨#[y]⟩:ByteArray)=⟨#[x,y]⟩:=by apply ByteArray.ext;simp
theorem Qm9 (W:World) (b:Nat) (v:Int) (hv:W.cell? ⟨b,0,none⟩=some (.int .u8 v)):
  (convert 22 9 (.slice (some ⟨b,0,none⟩) 1 1)).run Tryz.prog W= .ok (.string ⟨#[UInt8.ofNat v.toNat]⟩) W:=by
 rw [run_convert_bytes_string W 22 9 5 (some ⟨b,0,none⟩) 1 1 Tryz.underlying22 Tryz.underlying5 Tryz.underlying9]
 have hl:=run_loadCells_list (P:=Tryz.prog) W ⟨b,0,none⟩ [.int .u8 v] (fun j x hj=>by
  match j,hj with
  | 0,hj=>simp at hj;simpa [Addr.add,←hj]using hv)
 rw [run_bytesToString W ⟨b,0,none⟩ 1 1 [v] (by simpa using hl)];rfl
theorem Qm8 (W:World) (v:Int):(convert 22 9 (.slice (some ⟨W.heap.size,0,none⟩) 1 1)).run Tryz.prog (W.alloc (.cells #[.int .u8 v] 5))=
  .ok (.string ⟨#[UInt8.ofNat v.toNat]⟩) (W.alloc (.cells #[.int .u8 v] 5)):=Qm9 _ _ v (by simp)
theorem Qrp (W:World) (o:Obj) (v:Int):(convert 22 9 (.slice (some ⟨W.heap.size+1,0,none⟩) 1 1)).run Tryz.prog ((W.alloc o).alloc (.cells #[.int .u8 v] 5))=
  .ok (.string ⟨#[UInt8.ofNat v.toNat]⟩) ((W.alloc o).alloc (.cells #[.int .u8 v] 5)):=Qm9 _ _ v (by simp [go_sem])
theorem BD (n:Int) (w:World):Calls Tryz.prog 142 #[.int .i64 n] w fun e w'=>
  e= .returned (.string (ZM n))∧Below w.heap.size w w':=by
 by_cases h1:n<1
 ·go_enter Tryz.func142,Tryz.ntmps142;go_wp2
  go_ret;exact⟨Qr (MT (by omega)).symm,by go_grown⟩
 by_cases h2:52<n
 ·go_enter Tryz.func142,Tryz.ntmps142;go_wp2
  go_ret;exact⟨Qr (MT (by omega)).symm,by go_grown⟩
 by_cases h3:n≤26
 ·have hm:(n-1)%26=n-1:=by omega
  have hd:(n-1)/26=0:=by omega
  have he:=Jn (65+(n-1)) (by omega) (by omega);go_enter Tryz.func142,Tryz.ntmps142;go_wp2
  refine wp_loop_rounds 3 ?_;rw [rounds_succ];go_wp2
  rw [rounds_succ];go_wp2
  go_ret;exact⟨Qr (by rw [Vj (by omega) h3,Xr]),by go_grown⟩
 ·have hm:(n-1)%26=n-27:=by omega
  have hd:(n-1)/26=1:=by omega
  have he:=Jn (65+(n-27)) (by omega) (by omega);have he':Utf8.encode 65=⟨#[65]⟩:=Jn 65 (by omega) (by omega);go_enter Tryz.func142,Tryz.ntmps142;go_wp2
  refine wp_loop_rounds 3 ?_;rw [rounds_succ];go_wp2
  rw [rounds_succ];go_wp2
  rw [rounds_succ];go_wp2
  go_ret;exact⟨Qr (by rw [Vi (by omega) (by omega),Xr,Nz]),by go_grown⟩
theorem Jj (n:Int) (w:World):Calls Tryz.prog 128 #[.int .i64 n] w fun e w'=>
  e= .returned (.string (ZM n))∧Below w.heap.size w w':=by
 by_cases h1:n<1
 ·have hin:inB n 1 52=false:=by unfold inB;simp;omega
  go_enter Tryz.func128,Tryz.ntmps128
  go_wp2_with (first
   | (go_at_call 121;refine(Jq _ _ _ _).mono ?_;rintro e w1 ⟨rfl,rfl⟩))
  go_ret;exact⟨Qr (MT (by omega)).symm,by go_grown⟩
 by_cases h2:52<n
 ·have hin:inB n 1 52=false:=by unfold inB;simp;omega
  go_enter Tryz.func128,Tryz.ntmps128
  go_wp2_with (first
   | (go_at_call 121;refine(Jq _ _ _ _).mono ?_;rintro e w1 ⟨rfl,rfl⟩))
  go_ret;exact⟨Qr (MT (by omega)).symm,by go_grown⟩
 have hin:inB n 1 52=true:=by unfold inB;simp;omega
 have cv1:=Qm8;have cv2:=Qrp;by_cases h3:n≤26
 ·have hm:(n-1)%26=n-1:=by omega
  have hd:(n-1)/26=0:=by omega
  go_enter Tryz.func128,Tryz.ntmps128
  go_wp2_with (first
   | (go_at_call 121;refine(Jq _ _ _ _).mono ?_;rintro e w1 ⟨rfl,rfl⟩))
  refine wp_loop_rounds 3 ?_;rw [rounds_succ];go_wp2
  rw [rounds_succ];go_wp2
  go_ret;exact⟨Qr (by rw [Vj (by omega) h3,Xr]),by go_grown⟩
 ·have hm:(n-1)%26=n-27:=by omega
  have hd:(n-1)/26=1:=by omega
  go_enter Tryz.func128,Tryz.ntmps128
  go_wp2_with (first
   | (go_at_call 121;refine(Jq _ _ _ _).mono ?_;rintro e w1 ⟨rfl,rfl⟩))
  refine wp_loop_rounds 3 ?_;rw [rounds_succ];go_wp2
  rw [rounds_succ];go_wp2
  rw [rounds_succ];go_wp2
  go_ret;exact⟨Qr (by rw [Vi (by omega) (by omega),Xr,Nz]),by go_grown⟩
def rdc:List UInt8→Int→Int
 | [],m=>m
 | b::t,m=>if 65≤b.toNat∧b.toNat≤90 then(if 52<m*26+((b.toNat:Int)-65)+1 then 0 else rdc t (m*26+((b.toNat:Int)-65)+1))else 0
theorem Qfp (n:Int) (h1:1≤n) (h2:n≤52):rdc (ZM n).data.toList 0=n:=by
 by_cases h:n≤26
 ·rw [Vj h1 h];have e:(UInt8.ofNat (65+(n-1)).toNat).toNat=(65+(n-1)).toNat:=by simp;omega
  simp only [rdc,e];rw [if_pos (by omega),if_neg (by omega)];omega
 ·rw [Vi (by omega) h2];have e:(UInt8.ofNat (65+(n-27)).toNat).toNat=(65+(n-27)).toNat:=by simp;omega
  have e':(65:UInt8).toNat=65:=rfl;simp only [rdc,e,e'];rw [if_pos (by omega),if_neg (by omega),if_pos (by omega),if_neg (by omega)];omega
theorem ofNat_toNat (b:UInt8) (x:Nat) (h:x=b.toNat):UInt8.ofNat x=b:=by subst h;simp
theorem Qj5 (l:List UInt8) (h:rdc l 0≠0):1≤rdc l 0∧rdc l 0≤52∧ZM (rdc l 0)=⟨l.toArray⟩:=by
 match l,h with
 | [],h=>exact absurd rfl h
 | [b],h=>
  simp only [rdc]at h ⊢;split at h<;>rename_i hb
  ·rw [if_neg (by omega)]at h;rw [if_pos hb,if_neg (by omega)];refine⟨by omega,by omega,?_⟩;rw [Vj (by omega) (by omega),ofNat_toNat b _ (by omega)]
  ·exact absurd rfl h
 | [b,c],h=>
  simp only [rdc]at h ⊢;split at h<;>rename_i hb
  ·rw [if_neg (by omega)]at h;rw [if_pos hb,if_neg (by omega)];split at h<;>rename_i hc
   ·split at h<;>rename_i hd
    ·exact absurd rfl h
    ·rw [if_pos hc,if_neg hd];refine⟨by omega,by omega,?_⟩;rw [Vi (by omega) (by omega),ofNat_toNat c _ (by omega)];have:b=65:=by apply UInt8.toNat_inj.1;show b.toNat=65;omega
     rw [this]
   ·exact absurd rfl h
  ·exact absurd rfl h
 | b::c::d::t,h=>
  simp only [rdc]at h;split at h<;>rename_i hb
  ·rw [if_neg (by omega)]at h;split at h<;>rename_i hc
   ·split at h<;>rename_i hd
    ·exact absurd rfl h
    ·split at h<;>rename_i he
     ·rw [if_pos (by omega)]at h;exact absurd rfl h
     ·exact absurd rfl h
   ·exact absurd rfl h
  ·exact absurd rfl h
theorem Qj4 (s:ByteArray) (h: ∀j:Int,1≤j→j≤52→ZM j≠s):rdc s.data.toList 0=0:=by
 by_cases h0:rdc s.data.toList 0=0
 ·exact h0
 ·obtain⟨a,b,c⟩:=Qj5 _ h0;exact absurd c (h _ a b)
theorem YG (b:Int) (w:World):Calls Tryz.prog 237 #[.int .u8 b] w fun e w'=>
  e= .returned (.bool (decide (65≤b∧b≤90)))∧w'=w:=by
 go_enter Tryz.func237,Tryz.ntmps237;go_wp2
 all_goals
  go_ret;refine⟨Qb ?_,rfl⟩;rw [Bool.eq_iff_iff];simp;try omega
theorem Bl (s:ByteArray) (w:World):Calls Tryz.prog 65 #[.string s] w fun e w'=>
  e= .returned (.int .i64 (rdc s.data.toList 0))∧Below w.heap.size w w':=by
 go_enter Tryz.func65,Tryz.ntmps65;go_wp2_with fail
 go_loopw [3] (fun v3 wr=> ∃k:Nat,1≤k∧k≤53∧v3= .int .i64 k∧(∀j:Int,1≤j→j<k→ZM j≠s)∧Below w.heap.size w wr) (fun v3 _=>53-(intOf v3).toNat)
 case atStart=>exact⟨1,by omega,by omega,rfl,fun j h1 h2=>by omega,by go_grown⟩
 case round=>
  obtain⟨k,hk1,hk2,rfl,hno,hb⟩:=hrel;have HN:Hid (∀j:Int,1≤j→j<k→ZM j≠s):=hno;clear hno;by_cases hlt:k≤52
  ·have hlt':(k:Int)≤52:=by omega
   by_cases he:ZM k=s
   ·have HE:Hid (rdc s.data.toList 0=k):=by rw [←he];exact Qfp k (by omega) hlt'
    subst he
    go_wp2_with (first
     | (go_at_call 128;refine(Jj _ _).mono ?_;rintro e w1 ⟨rfl,hb1⟩;have hk:=Qc (w:=w) (by go_grown) hb1;clear hb1))
    all_goals
     go_ret;exact⟨QY HE.out.symm,by go_grown⟩
   ·have he':=QD he;have HE:Hid (ZM k≠s):=he;clear he
    go_wp2_with (first
     | (go_at_call 128;refine(Jj _ _).mono ?_;rintro e w1 ⟨rfl,hb1⟩;have hk:=Qc (w:=w) (by go_grown) hb1;clear hb1))
    all_goals
     go_roundw
     case rel=>exact⟨k+1,by omega,by omega,by go_num,fun j h1 h2=>by
      by_cases e:j=k
      ·rw [e];exact HE.out
      ·exact HN.out j h1 (by omega),by go_grown⟩
     case measure=>simp [intOf];omega
  ·have hlt':(52:Int)<(k:Int):=by omega
   have HE:Hid (rdc s.data.toList 0=0):=Qj4 s (fun j h1 h2=>HN.out j h1 (by omega));go_wp2_with fail
   all_goals
    go_ret;exact⟨QY HE.out.symm,by go_grown⟩
theorem Qih (l:List UInt8) (k:Nat) (h:k<l.length):l.drop k=l[k]::l.drop (k+1):=List.drop_eq_getElem_cons h
theorem By (s:ByteArray) (w:World) (hs:s.size≤maxLen):Calls Tryz.prog 187 #[.string s] w fun e w'=>
  e= .returned (.int .i64 (rdc s.data.toList 0))∧w'=w:=by
 unfold maxLen at hs;go_enter Tryz.func187,Tryz.ntmps187;go_wp2_with fail
 go_loop [3,7] (fun v3 v7=> ∃(k:Nat) (m:Int),k≤s.size∧0≤m∧m≤52∧v3= .int .i64 m∧v7= .int .i64 k∧rdc (s.data.toList.drop k) m=rdc s.data.toList 0) (fun _ v7=>s.size-(intOf v7).toNat)
 case atStart=>exact⟨0,0,by omega,by omega,by omega,rfl,rfl,rfl⟩
 case round=>
  obtain⟨k,m,hk,hm0,hm1,rfl,rfl,hr⟩:=hrel;have HR:Hid (rdc (s.data.toList.drop k) m=rdc s.data.toList 0):=hr;clear hr;by_cases hlt:k<s.size
  ·have HD:Hid (s.data.toList.drop k=s[k]::s.data.toList.drop (k+1)):=Qih s.data.toList k (by simpa using hlt)
   go_wp2_with (first
    | (go_at_call 237;refine(YG _ _).mono ?_;rintro e w1 ⟨rfl,rfl⟩))
   ·go_ret;rename_i hh
    exact⟨QY (by rw [←HR.out,HD.out,rdc,if_neg (by simp at hh;omega)]),rfl⟩
   ·rename_i hh h52
    simp at hh;go_ret;exact⟨QY (by rw [←HR.out,HD.out,rdc,if_pos (by omega),if_pos (by omega)]),rfl⟩
   ·rename_i hh h52
    simp at hh;go_round
    case rel=>exact⟨k+1,_,by omega,by omega,by omega,rfl,by go_num,by rw [←HR.out,HD.out,rdc,if_pos (by omega),if_neg (by omega)];congr 1;omega⟩
    case measure=>simp [intOf];omega
  ·go_wp2_with fail
   go_ret;exact⟨QY (by rw [←HR.out,List.drop_of_length_le (by simp;omega)];rfl),rfl⟩
def QB (s:ByteArray):Bool:=if h:0<s.size then s[0]==36 else false
def ZL (s:ByteArray):ByteArray:=if QB s then s.extract 1 s.size else s
theorem Vt (s:ByteArray):(ZL s).size≤s.size:=by
 unfold ZL;split
 ·rw [ByteArray.size_extract];omega
 ·exact Nat.le_refl _
theorem Qig {s:ByteArray} (h:QB s=true):0<s.size:=by
 unfold QB at h;split at h
 ·assumption
 ·cases h
theorem ext1 (s:ByteArray) (h:0<s.size):(s.extract 0 1).toList= [s[0]]:=by
 rw [ByteArray.toList_eq];have e:(s.extract 0 1).data.toList=(s.data.toList).take 1:=by simp
 rw [e];obtain⟨⟨l⟩⟩:=s;match l,h with
 | a::l',_=>rfl
theorem VL (s:ByteArray) (w:World) (hs:s.size≤281474976710656):Calls Tryz.prog 281 #[.string s,.string ⟨#[36]⟩] w fun e w'=>
  e= .returned (.bool (QB s))∧w'=w:=by
 by_cases h:0<s.size
 ·have h0:(1:Int)≤(s.size:Int):=by omega
  have e1:=ext1 s h;have HE:Hid (QB s=(s[0]==36)):=by show QB s=_;rw [QB,dif_pos h]
  go_enter Tryz.func281,Tryz.ntmps281;go_wp2
  all_goals go_ret
  exact⟨Qb HE.out.symm,rfl⟩
 ·have h0: ¬(1:Int)≤(s.size:Int):=by omega
  have HE:Hid (QB s=false):=by show QB s=_;rw [QB,dif_neg h]
  go_enter Tryz.func281,Tryz.ntmps281;go_wp2
  go_ret;exact⟨Qb HE.out.symm,rfl⟩
theorem UN (s:ByteArray) (w:World) (hs:s.size≤281474976710656):Calls Tryz.prog 236 #[.string s,.string ⟨#[36]⟩] w fun e w'=>
  e= .returned (.tuple #[.string (ZL s),.bool (QB s)])∧w'=w:=by
 cases h:QB s
 ·have HE:Hid (QB s=false):=h;have HC:Hid (ZL s=s):=by show ZL s=s;rw [ZL,h];rfl
  clear h;go_enter Tryz.func236,Tryz.ntmps236
  go_wp2_with (first
   | (go_at_call 281;refine(VL s _ hs).mono ?_;rintro e w1 ⟨rfl,rfl⟩;rw [HE.out]))
  refine bodyPost_ret (v:= .tuple #[.string s,.bool false]) ?_ rfl ⟨by rw [HC.out],rfl⟩;simp (maxDischargeDepth:=9) [results,Tryz.results236,go_sem, *]
 ·have HE:Hid (QB s=true):=h;have h0:(1:Int)≤(s.size:Int):=by have:=Qig h;omega
  have HC:Hid (ZL s=s.extract 1 s.size):=by show ZL s=_;rw [ZL,h];rfl
  clear h;go_enter Tryz.func236,Tryz.ntmps236
  go_wp2_with (first
   | (go_at_call 281;refine(VL s _ hs).mono ?_;rintro e w1 ⟨rfl,rfl⟩;rw [HE.out]))
  refine bodyPost_ret (v:= .tuple #[.string (s.extract 1 s.size),.bool true]) ?_ rfl ⟨by rw [HC.out],rfl⟩;simp (maxDischargeDepth:=9) [results,Tryz.results236,go_sem, *]
theorem VM (s:ByteArray) (w:World) (hs:s.size≤281474976710656):Calls Tryz.prog 185 #[.string s,.string ⟨#[36]⟩] w fun e w'=>
  e= .returned (.tuple #[.string (ZL s),.bool (QB s)])∧w'=w:=by
 go_enter Tryz.func185,Tryz.ntmps185
 go_wp2_with (first
  | (go_at_call 236;refine(UN s _ hs).mono ?_;rintro e w1 ⟨rfl,rfl⟩))
 refine bodyPost_ret (v:= .tuple #[.string (ZL s),.bool (QB s)]) ?_ rfl ⟨rfl,rfl⟩;simp (maxDischargeDepth:=9) [results,Tryz.results185,go_sem, *]
def isL (b:UInt8):Bool:=decide (65≤b.toNat∧b.toNat≤90)
def Gj (s:ByteArray):Nat:=(s.data.toList.takeWhile isL).length
theorem Vz (p:UInt8→Bool): ∀(l:List UInt8) (k:Nat),(hk:k≤l.length)→(∀j,(hj:j<k)→p (l[j]'(by omega))=true)→(∀h:k<l.length,p l[k]=false)→(l.takeWhile p).length=k
 | [],k,hk,_,_=>by simp at hk;simp [hk]
 | a::l,0,_,_,h2=>by
  have:=h2 (by simp);simp at this;simp [List.takeWhile,this]
 | a::l,k+1,hk,h1,h2=>by
  have h0:=h1 0 (by omega);simp at h0;simp only [List.takeWhile,h0,List.length_cons];rw [Vz p l k (by simp at hk;omega) (fun j hj=>by simpa using h1 (j+1) (by omega)) (fun h=>by have h3:=h2 (by simp only [List.length_cons];omega);rwa [List.getElem_cons_succ]at h3)]
theorem Eo {s:ByteArray} {k:Nat} (hk:k≤s.size) (h1: ∀j,(hj:j<k)→isL (s[j]'(by omega))=true) (h2: ∀h:k<s.size,isL s[k]=false):Gj s=k:=
 Vz isL s.data.toList k hk h1 h2
theorem Qge (s:ByteArray):Gj s≤s.size:=(List.takeWhile_sublist _).length_le
theorem KH (s:ByteArray) (w:World) (hs:s.size≤281474976710656):Calls Tryz.prog 186 #[.string s] w fun e w'=>
  e= .returned (.int .i64 (Gj s))∧w'=w:=by
 go_enter Tryz.func186,Tryz.ntmps186;go_wp2_with fail
 go_loop [3] (fun v=> ∃k:Nat,∃hk:k≤s.size,v= .int .i64 k∧ ∀j,(hj:j<k)→isL (s[j]'(by omega))=true) (fun v=>s.size-(intOf v).toNat)
 case atStart=>exact⟨0,Nat.zero_le _,rfl,fun j hj=>by omega⟩
 case round=>
  obtain⟨k,hk,rfl,hr⟩:=hrel;have HR:Hid (∀j,(hj:j<k)→isL (s[j]'(by omega))=true):=hr;clear hr;have hk0:(0:Int)≤(k:Int):=by omega
  by_cases hlt:k<s.size
  ·have hlt':(k:Int)<(s.size:Int):=by omega
   cases hl:isL s[k]
   ·have HL:Hid (Gj s=k):=Eo hk HR.out (fun _=>hl)
    have HB:Hid (decide ((65:Int)≤(s[k].toNat:Int)∧(s[k].toNat:Int)≤90)=false):=by
     show decide _=false;unfold isL at hl;simp at hl ⊢;omega
    clear hl
    go_wp2_with (first
     | (go_at_call 237;refine(YG _ _).mono ?_;rintro e w1 ⟨rfl,rfl⟩;rw [HB.out]))
    go_ret;exact⟨by rw [HL.out];rfl,rfl⟩
   ·have HL:Hid (∀j,(hj:j<k+1)→isL (s[j]'(by omega))=true):=fun j hj=>by
     by_cases e:j=k
     ·subst e;exact hl
     ·exact HR.out j (by omega)
    have HB:Hid (decide ((65:Int)≤(s[k].toNat:Int)∧(s[k].toNat:Int)≤90)=true):=by
     show decide _=true;unfold isL at hl;simp at hl ⊢;omega
    clear hl
    go_wp2_with (first
     | (go_at_call 237;refine(YG _ _).mono ?_;rintro e w1 ⟨rfl,rfl⟩;rw [HB.out]))
    go_round
    case rel=>exact⟨k+1,by omega,by go_num,HL.out⟩
    case measure=>simp [intOf];omega
  ·have hlt': ¬(k:Int)<(s.size:Int):=by omega
   have HL:Hid (Gj s=k):=Eo hk HR.out (fun h=>absurd h hlt);go_wp2_with fail
   go_ret;exact⟨by rw [HL.out];rfl,rfl⟩
def l1I (s:ByteArray):Option Int:=match s.data.toList with
 | [a]=>if 48≤a.toNat∧a.toNat≤57 then some ((a.toNat:Int)-48)else none
 | [a,b]=>if a.toNat=48 then none else if(48≤a.toNat∧a.toNat≤57)∧(48≤b.toNat∧b.toNat≤57)then some (((a.toNat:Int)-48)*10+((b.toNat:Int)-48))else none
 | _=>none
theorem Qp6 {s:ByteArray} (h:s.size=0):l1I s=none:=by
 obtain⟨⟨l⟩⟩:=s;match l,h with
 | [],_=>rfl
theorem Qp5 {s:ByteArray} (h:s.size=1):l1I s=if 48≤(s[0]'(by omega)).toNat∧(s[0]'(by omega)).toNat≤57 then some (((s[0]'(by omega)).toNat:Int)-48)else none:=by
 obtain⟨⟨l⟩⟩:=s;match l,h with
 | [a],_=>rfl
theorem Qp4 {s:ByteArray} (h:s.size=2):l1I s=if(s[0]'(by omega)).toNat=48 then none else if(48≤(s[0]'(by omega)).toNat∧(s[0]'(by omega)).toNat≤57)∧(48≤(s[1]'(by omega)).toNat∧(s[1]'(by omega)).toNat≤57)then some ((((s[0]'(by omega)).toNat:Int)-48)*10+(((s[1]'(by omega)).toNat:Int)-48))else none:=by
 obtain⟨⟨l⟩⟩:=s;match l,h with
 | [a,b],_=>rfl
theorem YC (s:ByteArray) (w:World) (hs:s.size≤281474976710656):Calls Tryz.prog 29 #[.string s,.int .i64 2] w fun e w'=>
  e= .returned (.tuple #[.int .i64 ((l1I s).getD 0),.bool (l1I s).isSome])∧w'=w:=by
 by_cases h3:2<s.size
 ·have h3':(2:Int)<(s.size:Int):=by omega
  have h1: ¬(s.size:Int)<1:=by omega
  have HE:Hid (l1I s=none):=by
   show l1I s=none;obtain⟨⟨l⟩⟩:=s;match l,h3 with
   | _::_::_::_,_=>rfl
  go_enter Tryz.func29,Tryz.ntmps29;go_wp2
  refine bodyPost_ret (v:= .tuple #[.int .i64 0,.bool false]) ?_ rfl ⟨by rw [HE.out];rfl,rfl⟩;simp (maxDischargeDepth:=9) [results,Tryz.results29,go_sem, *]
 by_cases hz0:s.size=0
 ·have h1:(s.size:Int)<1:=by omega
  have HE:Hid (l1I s=none):=Qp6 hz0;clear hz0;go_enter Tryz.func29,Tryz.ntmps29;go_wp2
  refine bodyPost_ret (v:= .tuple #[.int .i64 0,.bool false]) ?_ rfl ⟨by rw [HE.out];rfl,rfl⟩;simp (maxDischargeDepth:=9) [results,Tryz.results29,go_sem, *]
 have hp:0<s.size:=by omega
 have k1: ¬(s.size:Int)<1:=by omega
 have k2: ¬(2:Int)<(s.size:Int):=by omega
 have k3:(0:Int)<(s.size:Int):=by omega
 by_cases hz1:s.size=1
 ·have k4: ¬(1:Int)<(s.size:Int):=by omega
  have HL:Hid (l1I s=if 48≤(s[0]'hp).toNat∧(s[0]'hp).toNat≤57 then some (((s[0]'hp).toNat:Int)-48)else none):=Qp5 hz1;clear hz1 hz0 h3;by_cases h0:(s[0]'hp).toNat=48
  ·have h0':((s[0]'hp).toNat:Int)=48:=by omega
   have HE:Hid (l1I s=some 0):=by show l1I s=some 0;rw [HL.out,if_pos (by omega),h0];rfl
   go_enter Tryz.func29,Tryz.ntmps29;go_wp2
   refine wp_loop_rounds 4 ?_;rw [rounds_succ];go_wp2
   rw [rounds_succ];go_wp2
   refine bodyPost_ret (v:= .tuple #[.int .i64 0,.bool true]) ?_ rfl ⟨by rw [HE.out];rfl,rfl⟩;simp (maxDischargeDepth:=9) [results,Tryz.results29,go_sem, *]
  have n0: ¬((s[0]'hp).toNat:Int)=48:=by omega
  have m0:(((s[0]'hp).toNat:Int)==48)=false:=by simpa using n0
  by_cases h1:(s[0]'hp).toNat<48
  ·have h1':((s[0]'hp).toNat:Int)<48:=by omega
   have HE:Hid (l1I s=none):=by show l1I s=none;rw [HL.out,if_neg (by omega)]
   go_enter Tryz.func29,Tryz.ntmps29;go_wp2
   refine wp_loop_rounds 4 ?_;rw [rounds_succ];go_wp2
   refine bodyPost_ret (v:= .tuple #[.int .i64 0,.bool false]) ?_ rfl ⟨by rw [HE.out];rfl,rfl⟩;simp (maxDischargeDepth:=9) [results,Tryz.results29,go_sem, *]
  have n1: ¬((s[0]'hp).toNat:Int)<48:=by omega
  by_cases h2:57<(s[0]'hp).toNat
  ·have h2':(57:Int)<((s[0]'hp).toNat:Int):=by omega
   have HE:Hid (l1I s=none):=by show l1I s=none;rw [HL.out,if_neg (by omega)]
   go_enter Tryz.func29,Tryz.ntmps29;go_wp2
   refine wp_loop_rounds 4 ?_;rw [rounds_succ];go_wp2
   refine bodyPost_ret (v:= .tuple #[.int .i64 0,.bool false]) ?_ rfl ⟨by rw [HE.out];rfl,rfl⟩;simp (maxDischargeDepth:=9) [results,Tryz.results29,go_sem, *]
  have n2: ¬(57:Int)<((s[0]'hp).toNat:Int):=by omega
  have HE:Hid (l1I s=some (((s[0]'hp).toNat:Int)-48)):=by show l1I s=_;rw [HL.out,if_pos (by omega)]
  go_enter Tryz.func29,Tryz.ntmps29;go_wp2
  refine wp_loop_rounds 4 ?_;rw [rounds_succ];go_wp2
  rw [rounds_succ];go_wp2
  refine bodyPost_ret (v:= .tuple #[.int .i64 (((s[0]'hp).toNat:Int)-48),.bool true]) ?_ rfl ⟨by rw [HE.out];rfl,rfl⟩;simp (maxDischargeDepth:=9) [results,Tryz.results29,go_sem, *]
 have hz2:s.size=2:=by omega
 have hp1:1<s.size:=by omega
 have k4:(1:Int)<(s.size:Int):=by omega
 have k5: ¬(2:Int)<(s.size:Int):=by omega
 have HL:Hid (l1I s=if(s[0]'hp).toNat=48 then none else if(48≤(s[0]'hp).toNat∧(s[0]'hp).toNat≤57)∧(48≤(s[1]'hp1).toNat∧(s[1]'hp1).toNat≤57)then some ((((s[0]'hp).toNat:Int)-48)*10+(((s[1]'hp1).toNat:Int)-48))else none):=Qp4 hz2;clear hz2 hz1 hz0 h3;by_cases h0:(s[0]'hp).toNat=48
 ·have h0':((s[0]'hp).toNat:Int)=48:=by omega
  have HE:Hid (l1I s=none):=by show l1I s=none;rw [HL.out,if_pos h0]
  go_enter Tryz.func29,Tryz.ntmps29;go_wp2
  refine bodyPost_ret (v:= .tuple #[.int .i64 0,.bool false]) ?_ rfl ⟨by rw [HE.out];rfl,rfl⟩;simp (maxDischargeDepth:=9) [results,Tryz.results29,go_sem, *]
 have n0: ¬((s[0]'hp).toNat:Int)=48:=by omega
 have m0:(((s[0]'hp).toNat:Int)==48)=false:=by simpa using n0
 by_cases hpa:(s[0]'hp).toNat<48
 ·have gpa:((s[0]'hp).toNat:Int)<48:=by omega
  have HE:Hid (l1I s=none):=by show l1I s=none;rw [HL.out,if_neg h0,if_neg (by omega)]
  go_enter Tryz.func29,Tryz.ntmps29;go_wp2
  refine wp_loop_rounds 4 ?_;rw [rounds_succ];go_wp2
  refine bodyPost_ret (v:= .tuple #[.int .i64 0,.bool false]) ?_ rfl ⟨by rw [HE.out];rfl,rfl⟩;simp (maxDischargeDepth:=9) [results,Tryz.results29,go_sem, *]
 have np: ¬((s[0]'hp).toNat:Int)<48:=by omega
 by_cases hq:57<(s[0]'hp).toNat
 ·have gq:(57:Int)<((s[0]'hp).toNat:Int):=by omega
  have HE:Hid (l1I s=none):=by show l1I s=none;rw [HL.out,if_neg h0,if_neg (by omega)]
  go_enter Tryz.func29,Tryz.ntmps29;go_wp2
  refine wp_loop_rounds 4 ?_;rw [rounds_succ];go_wp2
  refine bodyPost_ret (v:= .tuple #[.int .i64 0,.bool false]) ?_ rfl ⟨by rw [HE.out];rfl,rfl⟩;simp (maxDischargeDepth:=9) [results,Tryz.results29,go_sem, *]
 have nq: ¬(57:Int)<((s[0]'hp).toNat:Int):=by omega
 by_cases hu:(s[1]'hp1).toNat<48
 ·have gu:((s[1]'hp1).toNat:Int)<48:=by omega
  have HE:Hid (l1I s=none):=by show l1I s=none;rw [HL.out,if_neg h0,if_neg (by omega)]
  go_enter Tryz.func29,Tryz.ntmps29;go_wp2
  refine wp_loop_rounds 4 ?_;rw [rounds_succ];go_wp2
  rw [rounds_succ];go_wp2
  refine bodyPost_ret (v:= .tuple #[.int .i64 0,.bool false]) ?_ rfl ⟨by rw [HE.out];rfl,rfl⟩;simp (maxDischargeDepth:=9) [results,Tryz.results29,go_sem, *]
 have nu: ¬((s[1]'hp1).toNat:Int)<48:=by omega
 by_cases hv:57<(s[1]'hp1).toNat
 ·have gv:(57:Int)<((s[1]'hp1).toNat:Int):=by omega
  have HE:Hid (l1I s=none):=by show l1I s=none;rw [HL.out,if_neg h0,if_neg (by omega)]
  go_enter Tryz.func29,Tryz.ntmps29;go_wp2
  refine wp_loop_rounds 4 ?_;rw [rounds_succ];go_wp2
  rw [rounds_succ];go_wp2
  refine bodyPost_ret (v:= .tuple #[.int .i64 0,.bool false]) ?_ rfl ⟨by rw [HE.out];rfl,rfl⟩;simp (maxDischargeDepth:=9) [results,Tryz.results29,go_sem, *]
 have nv: ¬(57:Int)<((s[1]'hp1).toNat:Int):=by omega
 have HE:Hid (l1I s=some ((((s[0]'hp).toNat:Int)-48)*10+(((s[1]'hp1).toNat:Int)-48))):=by show l1I s=_;rw [HL.out,if_neg h0,if_pos (by omega)]
 go_enter Tryz.func29,Tryz.ntmps29;go_wp2
 refine wp_loop_rounds 4 ?_;rw [rounds_succ];go_wp2
 rw [rounds_succ];go_wp2
 rw [rounds_succ];go_wp2
 refine bodyPost_ret (v:= .tuple #[.int .i64 ((((s[0]'hp).toNat:Int)-48)*10+(((s[1]'hp1).toNat:Int)-48)),.bool true]) ?_ rfl ⟨by rw [HE.out];rfl,rfl⟩;simp (maxDischargeDepth:=9) [results,Tryz.results29,go_sem, *]
end Go.Proofs.YtbdhinckiccniaaGreatDoor
