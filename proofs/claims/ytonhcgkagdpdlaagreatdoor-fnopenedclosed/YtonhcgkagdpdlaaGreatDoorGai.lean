import Derived.Test.YtonhcgkagdpdlaaGreatDoorGaa
import Derived.Laws.IdiomStrings
import Derived.Laws.Cover4
import Derived.Test.YtonhcgkagdpdlaaGreatDoorGag
import Derived.Deep.QuietTactic
set_option linter.unusedSimpArgs false
set_option linter.unusedVariables false
set_option maxHeartbeats 400000
namespace Go.Proofs.YtonhcgkagdpdlaaGreatDoor
open Go.RowKit
def inB (n l h:Int):Bool:=decide (l≤n∧n≤h)
theorem spec_l1InP (n l h:Int) (w:World):Calls Tryz.prog 40 #[.int .i64 n,.int .i64 l,.int .i64 h] w fun e w'=>
  e= .returned (.bool (inB n l h))∧w'=w:=by
 go_enter Tryz.func40,Tryz.ntmps40
 go_wp2
 all_goals
  go_ret
  refine⟨ret_bool ?_,rfl⟩
  unfold inB
  rw [Bool.eq_iff_iff]
  simp
  try omega
def colT (n:Int):ByteArray:=if 1≤n∧n≤26 then⟨#[UInt8.ofNat (65+(n-1)).toNat]⟩else if 27≤n∧n≤52 then⟨#[65,UInt8.ofNat (65+(n-27)).toNat]⟩else⟨#[]⟩
theorem colT_one {n:Int} (h:1≤n) (h':n≤26):colT n=⟨#[UInt8.ofNat (65+(n-1)).toNat]⟩:=by unfold colT;rw [if_pos ⟨h,h'⟩]
theorem colT_two {n:Int} (h:27≤n) (h':n≤52):colT n=⟨#[65,UInt8.ofNat (65+(n-27)).toNat]⟩:=by unfold colT;rw [if_neg (by omega),if_pos ⟨h,h'⟩]
theorem colT_no {n:Int} (h:n<1∨52<n):colT n=⟨#[]⟩:=by unfold colT;rw [if_neg (by omega),if_neg (by omega)]
theorem cat_nilP (x:ByteArray):x++(⟨#[]⟩:ByteArray)=x:=by apply ByteArray.ext;simp
theorem cat_oneP (x y:UInt8):(⟨#[x]⟩:ByteArray)++(⟨#[y]⟩:ByteArray)=⟨#[x,y]⟩:=by apply ByteArray.ext;simp
theorem conv0P (W:World) (b:Nat) (v:Int) (hv:W.cell? ⟨b,0,none⟩=some (.int .u8 v)):
  (convert 22 9 (.slice (some ⟨b,0,none⟩) 1 1)).run Tryz.prog W= .ok (.string ⟨#[UInt8.ofNat v.toNat]⟩) W:=by
 rw [run_convert_bytes_string W 22 9 5 (some ⟨b,0,none⟩) 1 1 Tryz.underlying22 Tryz.underlying5 Tryz.underlying9]
 have hl:=run_loadCells_list (P:=Tryz.prog) W ⟨b,0,none⟩ [.int .u8 v] (fun j x hj=>by
  match j,hj with
  | 0,hj=>simp at hj;simpa [Addr.add,←hj]using hv)
 rw [run_bytesToString W ⟨b,0,none⟩ 1 1 [v] (by simpa using hl)]
 rfl
theorem conv1P (W:World) (v:Int):(convert 22 9 (.slice (some ⟨W.heap.size,0,none⟩) 1 1)).run Tryz.prog (W.alloc (.cells #[.int .u8 v] 5))=
  .ok (.string ⟨#[UInt8.ofNat v.toNat]⟩) (W.alloc (.cells #[.int .u8 v] 5)):=conv0P _ _ v (by simp)
theorem conv2 (W:World) (o:Obj) (v:Int):(convert 22 9 (.slice (some ⟨W.heap.size+1,0,none⟩) 1 1)).run Tryz.prog ((W.alloc o).alloc (.cells #[.int .u8 v] 5))=
  .ok (.string ⟨#[UInt8.ofNat v.toNat]⟩) ((W.alloc o).alloc (.cells #[.int .u8 v] 5)):=conv0P _ _ v (by simp [go_sem])
theorem spec_ColText (n:Int) (w:World):Calls Tryz.prog 69 #[.int .i64 n] w fun e w'=>
  e= .returned (.string (colT n))∧Below w.heap.size w w':=by
 by_cases h1:n<1
 ·have hin:inB n 1 52=false:=by unfold inB;simp;omega
  go_enter Tryz.func69,Tryz.ntmps69
  go_wp2_with (first
   | (go_at_call 40;refine(spec_l1InP _ _ _ _).mono ?_;rintro e w1 ⟨rfl,rfl⟩))
  go_ret
  exact⟨ret_str (colT_no (by omega)).symm,by go_grown⟩
 by_cases h2:52<n
 ·have hin:inB n 1 52=false:=by unfold inB;simp;omega
  go_enter Tryz.func69,Tryz.ntmps69
  go_wp2_with (first
   | (go_at_call 40;refine(spec_l1InP _ _ _ _).mono ?_;rintro e w1 ⟨rfl,rfl⟩))
  go_ret
  exact⟨ret_str (colT_no (by omega)).symm,by go_grown⟩
 have hin:inB n 1 52=true:=by unfold inB;simp;omega
 have cv1:=conv1P
 have cv2:=conv2
 by_cases h3:n≤26
 ·have hm:(n-1)%26=n-1:=by omega
  have hd:(n-1)/26=0:=by omega
  go_enter Tryz.func69,Tryz.ntmps69
  go_wp2_with (first
   | (go_at_call 40;refine(spec_l1InP _ _ _ _).mono ?_;rintro e w1 ⟨rfl,rfl⟩))
  refine wp_loop_rounds 3 ?_
  rw [rounds_succ]
  go_wp2
  rw [rounds_succ]
  go_wp2
  go_ret
  exact⟨ret_str (by rw [colT_one (by omega) h3,cat_nilP]),by go_grown⟩
 ·have hm:(n-1)%26=n-27:=by omega
  have hd:(n-1)/26=1:=by omega
  go_enter Tryz.func69,Tryz.ntmps69
  go_wp2_with (first
   | (go_at_call 40;refine(spec_l1InP _ _ _ _).mono ?_;rintro e w1 ⟨rfl,rfl⟩))
  refine wp_loop_rounds 3 ?_
  rw [rounds_succ]
  go_wp2
  rw [rounds_succ]
  go_wp2
  rw [rounds_succ]
  go_wp2
  go_ret
  exact⟨ret_str (by rw [colT_two (by omega) (by omega),cat_nilP,cat_oneP]),by go_grown⟩
def rdc:List UInt8→Int→Int
 | [],m=>m
 | b::t,m=>if 65≤b.toNat∧b.toNat≤90 then(if 52<m*26+((b.toNat:Int)-65)+1 then 0 else rdc t (m*26+((b.toNat:Int)-65)+1))else 0
theorem rdc_col (n:Int) (h1:1≤n) (h2:n≤52):rdc (colT n).data.toList 0=n:=by
 by_cases h:n≤26
 ·rw [colT_one h1 h]
  have e:(UInt8.ofNat (65+(n-1)).toNat).toNat=(65+(n-1)).toNat:=by simp;omega
  simp only [rdc,e]
  rw [if_pos (by omega),if_neg (by omega)];omega
 ·rw [colT_two (by omega) h2]
  have e:(UInt8.ofNat (65+(n-27)).toNat).toNat=(65+(n-27)).toNat:=by simp;omega
  have e':(65:UInt8).toNat=65:=rfl
  simp only [rdc,e,e']
  rw [if_pos (by omega),if_neg (by omega),if_pos (by omega),if_neg (by omega)];omega
theorem ofNat_toNat (b:UInt8) (x:Nat) (h:x=b.toNat):UInt8.ofNat x=b:=by subst h;simp
theorem rdc_back (l:List UInt8) (h:rdc l 0≠0):1≤rdc l 0∧rdc l 0≤52∧colT (rdc l 0)=⟨l.toArray⟩:=by
 match l,h with
 | [],h=>exact absurd rfl h
 | [b],h=>
  simp only [rdc]at h ⊢
  split at h<;>rename_i hb
  ·rw [if_neg (by omega)]at h
   rw [if_pos hb,if_neg (by omega)]
   refine⟨by omega,by omega,?_⟩
   rw [colT_one (by omega) (by omega),ofNat_toNat b _ (by omega)]
  ·exact absurd rfl h
 | [b,c],h=>
  simp only [rdc]at h ⊢
  split at h<;>rename_i hb
  ·rw [if_neg (by omega)]at h
   rw [if_pos hb,if_neg (by omega)]
   split at h<;>rename_i hc
   ·split at h<;>rename_i hd
    ·exact absurd rfl h
    ·rw [if_pos hc,if_neg hd]
     refine⟨by omega,by omega,?_⟩
     rw [colT_two (by omega) (by omega),ofNat_toNat c _ (by omega)]
     have:b=65:=by apply UInt8.toNat_inj.1;show b.toNat=65;omega
     rw [this]
   ·exact absurd rfl h
  ·exact absurd rfl h
 | b::c::d::t,h=>
  simp only [rdc]at h
  split at h<;>rename_i hb
  ·rw [if_neg (by omega)]at h
   split at h<;>rename_i hc
   ·split at h<;>rename_i hd
    ·exact absurd rfl h
    ·split at h<;>rename_i he
     ·rw [if_pos (by omega)]at h
      exact absurd rfl h
     ·exact absurd rfl h
   ·exact absurd rfl h
  ·exact absurd rfl h
theorem rdc_none (s:ByteArray) (h: ∀j:Int,1≤j→j≤52→colT j≠s):rdc s.data.toList 0=0:=by
 by_cases h0:rdc s.data.toList 0=0
 ·exact h0
 ·obtain⟨a,b,c⟩:=rdc_back _ h0
  exact absurd c (h _ a b)
theorem spec_ReadCol (s:ByteArray) (w:World):Calls Tryz.prog 84 #[.string s] w fun e w'=>
  e= .returned (.int .i64 (rdc s.data.toList 0))∧Below w.heap.size w w':=by
 go_enter Tryz.func84,Tryz.ntmps84
 go_wp2_with fail
 go_loopw [3] (fun v3 wr=> ∃k:Nat,1≤k∧k≤53∧v3= .int .i64 k∧(∀j:Int,1≤j→j<k→colT j≠s)∧Below w.heap.size w wr) (fun v3 _=>53-(intOf v3).toNat)
 case atStart=>exact⟨1,by omega,by omega,rfl,fun j h1 h2=>by omega,by go_grown⟩
 case round=>
  obtain⟨k,hk1,hk2,rfl,hno,hb⟩:=hrel
  have HN:Hid (∀j:Int,1≤j→j<k→colT j≠s):=hno
  clear hno
  by_cases hlt:k≤52
  ·have hlt':(k:Int)≤52:=by omega
   by_cases he:colT k=s
   ·have HE:Hid (rdc s.data.toList 0=k):=by rw [←he];exact rdc_col k (by omega) hlt'
    subst he
    go_wp2_with (first
     | (go_at_call 69;refine(spec_ColText _ _).mono ?_;rintro e w1 ⟨rfl,hb1⟩;have hk:=bchain (w:=w) (by go_grown) hb1;clear hb1))
    all_goals
     go_ret
     exact⟨ret_int HE.out.symm,by go_grown⟩
   ·have he':=str_ne he
    have HE:Hid (colT k≠s):=he
    clear he
    go_wp2_with (first
     | (go_at_call 69;refine(spec_ColText _ _).mono ?_;rintro e w1 ⟨rfl,hb1⟩;have hk:=bchain (w:=w) (by go_grown) hb1;clear hb1))
    all_goals
     go_roundw
     case rel=>exact⟨k+1,by omega,by omega,by go_num,fun j h1 h2=>by
      by_cases e:j=k
      ·rw [e];exact HE.out
      ·exact HN.out j h1 (by omega),by go_grown⟩
     case measure=>simp [intOf];omega
  ·have hlt':(52:Int)<(k:Int):=by omega
   have HE:Hid (rdc s.data.toList 0=0):=rdc_none s (fun j h1 h2=>HN.out j h1 (by omega))
   go_wp2_with fail
   all_goals
    go_ret
    exact⟨ret_int HE.out.symm,by go_grown⟩
def hasD (s:ByteArray):Bool:=if h:0<s.size then s[0]==36 else false
def cutD (s:ByteArray):ByteArray:=if hasD s then s.extract 1 s.size else s
theorem cutD_size (s:ByteArray):(cutD s).size≤s.size:=by
 unfold cutD
 split
 ·rw [ByteArray.size_extract];omega
 ·exact Nat.le_refl _
def isL (b:UInt8):Bool:=decide (65≤b.toNat∧b.toNat≤90)
def lets (s:ByteArray):Nat:=(s.data.toList.takeWhile isL).length
theorem takeWhile_len (p:UInt8→Bool): ∀(l:List UInt8) (k:Nat),(hk:k≤l.length)→(∀j,(hj:j<k)→p (l[j]'(by omega))=true)→(∀h:k<l.length,p l[k]=false)→(l.takeWhile p).length=k
 | [],k,hk,_,_=>by simp at hk;simp [hk]
 | a::l,0,_,_,h2=>by
  have:=h2 (by simp)
  simp at this
  simp [List.takeWhile,this]
 | a::l,k+1,hk,h1,h2=>by
  have h0:=h1 0 (by omega)
  simp at h0
  simp only [List.takeWhile,h0,List.length_cons]
  rw [takeWhile_len p l k (by simp at hk;omega) (fun j hj=>by simpa using h1 (j+1) (by omega)) (fun h=>by have h3:=h2 (by simp only [List.length_cons];omega);rwa [List.getElem_cons_succ]at h3)]
theorem lets_eq {s:ByteArray} {k:Nat} (hk:k≤s.size) (h1: ∀j,(hj:j<k)→isL (s[j]'(by omega))=true) (h2: ∀h:k<s.size,isL s[k]=false):lets s=k:=
 takeWhile_len isL s.data.toList k hk h1 h2
theorem lets_le (s:ByteArray):lets s≤s.size:=(List.takeWhile_sublist _).length_le
def l1I (s:ByteArray):Option Int:=match s.data.toList with
 | [a]=>if 48≤a.toNat∧a.toNat≤57 then some ((a.toNat:Int)-48)else none
 | [a,b]=>if a.toNat=48 then none else if(48≤a.toNat∧a.toNat≤57)∧(48≤b.toNat∧b.toNat≤57)then some (((a.toNat:Int)-48)*10+((b.toNat:Int)-48))else none
 | _=>none
end Go.Proofs.YtonhcgkagdpdlaaGreatDoor
