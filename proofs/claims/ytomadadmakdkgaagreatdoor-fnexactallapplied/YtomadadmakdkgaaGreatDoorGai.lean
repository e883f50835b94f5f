import Derived.Test.YtomadadmakdkgaaGreatDoorGaa
import Derived.Laws.IdiomStrings
import Derived.Laws.Cover4
import Derived.Test.YtomadadmakdkgaaGreatDoorGag
import Derived.Deep.QuietTactic
open Go.Proofs.Tryz
open Go renaming rounds_succ → f, wp_loop_rounds → g, bodyPost_ret → i, results → B, World → F, Calls → G
open Go.Value renaming int → u, string → A, tuple → C, bool → E, slice → K
open Go.IntKind renaming i64 → z
open Go.Ending renaming returned → D
open Bool renaming eq_iff_iff → H
open ByteArray renaming ext → I
open Go.Obj renaming cells → J
set_option linter.unusedSimpArgs false
set_option linter.unusedVariables false
set_option maxHeartbeats 4000000
namespace Go.Proofs.YtomadadmakdkgaaGreatDoor
open Go.RowKit
variable {n:Int} {s:ByteArray}
def inB(n l h:Int):Bool:=decide (l<=n/\n<=h)
theorem Vm(n l h:Int)(w:F):G prog 102 #[u z n,u z l,u z h] w fun e w'=>
  e= D (E (inB n l h))/\w'=w:=by
 go_enter func102,ntmps102;go_wp2
 all_goals
  go_ret;refine⟨Qc ?_,rfl⟩;unfold inB;rw[H];simp;try omega
def Yo(n:Int):ByteArray:=if 1<=n/\n<=26 then⟨#[UInt8.ofNat (65+(n-1)).toNat]⟩else if 27<=n/\n<=52 then⟨#[65,UInt8.ofNat (65+(n-27)).toNat]⟩else⟨#[]⟩
theorem KJ(h:1<=n)(h':n<=26):Yo n=⟨#[UInt8.ofNat (65+(n-1)).toNat]⟩:=by unfold Yo;rw[pS ⟨h,h'⟩]
theorem KI(h:27<=n)(h':n<=52):Yo n=⟨#[65,UInt8.ofNat (65+(n-27)).toNat]⟩:=by unfold Yo;rw[nG (by omega),pS ⟨h,h'⟩]
theorem Oj(h:n<1\/52<n):Yo n=⟨#[]⟩:=by unfold Yo;rw[nG (by omega),nG (by omega)]
theorem Vl(r:Int)(h0:0<=r)(h1:r<128):Utf8.encode r=⟨#[UInt8.ofNat r.toNat]⟩:=by
 unfold Utf8.encode;have hv:Utf8.valid r=true:=by unfold Utf8.valid;simp;omega
 simp only[hv,if_true];rw[pS (by omega)]
theorem Jk(x:ByteArray):x++(⟨#[]⟩:ByteArray)=x:=by apply I;simp
theorem Di(x y:UInt8):(⟨#[x]⟩:ByteArray)++(⟨#[y]⟩:ByteArray)=⟨#[x,y]⟩:=by apply I;simp
theorem Qoe(W:F)(b:Nat)(v:Int)(hv:W.cell? ⟨b,0,none⟩=some (.int .u8 v)):
  (convert 22 9 (K (some ⟨b,0,none⟩) 1 1)).run prog W= .ok (A ⟨#[UInt8.ofNat v.toNat]⟩) W:=by
 rw[run_convert_bytes_string W 22 9 5 (some ⟨b,0,none⟩) 1 1 underlying22 underlying5 underlying9]
 have hl:=run_loadCells_list (P:=prog) W ⟨b,0,none⟩ [.int .u8 v] (fun j x hj=>by
  match j,hj with
  | 0,hj=>simp at hj;simpa[Addr.add,<-hj]using hv)
 rw[run_bytesToString W ⟨b,0,none⟩ 1 1 [v] (by simpa using hl)];rfl
theorem Qod(W:F)(v:Int):(convert 22 9 (K (some ⟨W.heap.size,0,none⟩) 1 1)).run prog (W.alloc (J #[.int .u8 v] 5))=
  .ok (A ⟨#[UInt8.ofNat v.toNat]⟩) (W.alloc (J #[.int .u8 v] 5)):=Qoe _ _ v (by simp)
theorem Qs2(W:F)(o:Obj)(v:Int):(convert 22 9 (K (some ⟨W.heap.size+1,0,none⟩) 1 1)).run prog ((W.alloc o).alloc (J #[.int .u8 v] 5))=
  .ok (A ⟨#[UInt8.ofNat v.toNat]⟩) ((W.alloc o).alloc (J #[.int .u8 v] 5)):=Qoe _ _ v (by simp[go_sem])
theorem EI(n:Int)(w:F):G prog 222 #[u z n] w fun e w'=>
  e= D (A (Yo n))/\Below w.heap.size w w':=by
 by_cases h1:n<1
 ·go_enter func222,ntmps222;go_wp2
  go_ret;exact⟨QC (Oj (by omega)).symm,by go_grown⟩
 by_cases h2:52<n
 ·go_enter func222,ntmps222;go_wp2
  go_ret;exact⟨QC (Oj (by omega)).symm,by go_grown⟩
 by_cases h3:n<=26
 ·have hm:(n-1)%26=n-1:=by omega
  have hd:(n-1)/26=0:=by omega
  have he:=Vl (65+(n-1)) (by omega) (by omega);go_enter func222,ntmps222;go_wp2
  refine g 3 ?_;rw[f];go_wp2
  rw[f];go_wp2
  go_ret;exact⟨QC (by rw[KJ (by omega) h3,Jk]),by go_grown⟩
 ·have hm:(n-1)%26=n-27:=by omega
  have hd:(n-1)/26=1:=by omega
  have he:=Vl (65+(n-27)) (by omega) (by omega);have he':Utf8.encode 65=⟨#[65]⟩:=Vl 65 (by omega) (by omega);go_enter func222,ntmps222;go_wp2
  refine g 3 ?_;rw[f];go_wp2
  rw[f];go_wp2
  rw[f];go_wp2
  go_ret;exact⟨QC (by rw[KI (by omega) (by omega),Jk,Di]),by go_grown⟩
theorem Vf(n:Int)(w:F):G prog 180 #[u z n] w fun e w'=>
  e= D (A (Yo n))/\Below w.heap.size w w':=by
 by_cases h1:n<1
 ·have h0:inB n 1 52=false:=by unfold inB;simp;omega
  go_enter func180,ntmps180
  go_wp2_with (first
   | (go_at_call 102;refine(Vm _ _ _ _).mono ?_;rintro e w1 ⟨rfl,rfl⟩))
  go_ret;exact⟨QC (Oj (by omega)).symm,by go_grown⟩
 by_cases h2:52<n
 ·have h0:inB n 1 52=false:=by unfold inB;simp;omega
  go_enter func180,ntmps180
  go_wp2_with (first
   | (go_at_call 102;refine(Vm _ _ _ _).mono ?_;rintro e w1 ⟨rfl,rfl⟩))
  go_ret;exact⟨QC (Oj (by omega)).symm,by go_grown⟩
 have h0:inB n 1 52=true:=by unfold inB;simp;omega
 have cv1:=Qod;have cv2:=Qs2;by_cases h3:n<=26
 ·have hm:(n-1)%26=n-1:=by omega
  have hd:(n-1)/26=0:=by omega
  go_enter func180,ntmps180
  go_wp2_with (first
   | (go_at_call 102;refine(Vm _ _ _ _).mono ?_;rintro e w1 ⟨rfl,rfl⟩))
  refine g 3 ?_;rw[f];go_wp2
  rw[f];go_wp2
  go_ret;exact⟨QC (by rw[KJ (by omega) h3,Jk]),by go_grown⟩
 ·have hm:(n-1)%26=n-27:=by omega
  have hd:(n-1)/26=1:=by omega
  go_enter func180,ntmps180
  go_wp2_with (first
   | (go_at_call 102;refine(Vm _ _ _ _).mono ?_;rintro e w1 ⟨rfl,rfl⟩))
  refine g 3 ?_;rw[f];go_wp2
  rw[f];go_wp2
  rw[f];go_wp2
  go_ret;exact⟨QC (by rw[KI (by omega) (by omega),Jk,Di]),by go_grown⟩
def rdc:List UInt8->Int->Int
 | [],m=>m
 | b::t,m=>if 65<=b.toNat/\b.toNat<=90 then(if 52<m*26+((b.toNat:Int)-65)+1 then 0 else rdc t (m*26+((b.toNat:Int)-65)+1))else 0
theorem Qgb(n:Int)(h1:1<=n)(h2:n<=52):rdc (Yo n).data.toList 0=n:=by
 by_cases h:n<=26
 ·rw[KJ h1 h];have e:(UInt8.ofNat (65+(n-1)).toNat).toNat=(65+(n-1)).toNat:=by simp;omega
  simp only[rdc,e];rw[pS (by omega),nG (by omega)];omega
 ·rw[KI (by omega) h2];have e:(UInt8.ofNat (65+(n-27)).toNat).toNat=(65+(n-27)).toNat:=by simp;omega
  have e':(65:UInt8).toNat=65:=rfl;simp only[rdc,e,e'];rw[pS (by omega),nG (by omega),pS (by omega),nG (by omega)];omega
theorem ofNat_toNat(b:UInt8)(x:Nat)(h:x=b.toNat):UInt8.ofNat x=b:=by subst h;simp
theorem Qk4(l:List UInt8)(h:rdc l 0≠0):1<=rdc l 0/\rdc l 0<=52/\Yo (rdc l 0)=⟨l.toArray⟩:=by
 match l,h with
 | [],h=>exact absurd rfl h
 | [b],h=>
  simp only[rdc]at h ⊢;split at h<;>rename_i hb
  ·rw[nG (by omega)]at h;rw[pS hb,nG (by omega)];refine⟨by omega,by omega,?_⟩;rw[KJ (by omega) (by omega),ofNat_toNat b _ (by omega)]
  ·exact absurd rfl h
 | [b,c],h=>
  simp only[rdc]at h ⊢;split at h<;>rename_i hb
  ·rw[nG (by omega)]at h;rw[pS hb,nG (by omega)];split at h<;>rename_i hc
   ·split at h<;>rename_i hd
    ·exact absurd rfl h
    ·rw[pS hc,nG hd];refine⟨by omega,by omega,?_⟩;rw[KI (by omega) (by omega),ofNat_toNat c _ (by omega)];have:b=65:=by apply UInt8.toNat_inj.1;show b.toNat=65;omega
     rw[this]
   ·exact absurd rfl h
  ·exact absurd rfl h
 | b::c::d::t,h=>
  simp only[rdc]at h;split at h<;>rename_i hb
  ·rw[nG (by omega)]at h;split at h<;>rename_i hc
   ·split at h<;>rename_i hd
    ·exact absurd rfl h
    ·split at h<;>rename_i he
     ·rw[pS (by omega)]at h;exact absurd rfl h
     ·exact absurd rfl h
   ·exact absurd rfl h
  ·exact absurd rfl h
theorem Qk3(s:ByteArray)(h: ∀j:Int,1<=j->j<=52->Yo j≠s):rdc s.data.toList 0=0:=by
 by_cases h0:rdc s.data.toList 0=0
 ·exact h0
 ·obtain⟨a,b,c⟩:=Qk4 _ h0;exact absurd c (h _ a b)
theorem Xt(b:Int)(w:F):G prog 278 #[.int .u8 b] w fun e w'=>
  e= D (E (decide (65<=b/\b<=90)))/\w'=w:=by
 go_enter func278,ntmps278;go_wp2
 all_goals
  go_ret;refine⟨Qc ?_,rfl⟩;rw[H];simp;try omega
theorem Ev(s:ByteArray)(w:F):G prog 234 #[A s] w fun e w'=>
  e= D (u z (rdc s.data.toList 0))/\Below w.heap.size w w':=by
 go_enter func234,ntmps234;go_wp2_with fail
 go_loopw [3] (fun v3 wr=> ∃k:Nat,1<=k/\k<=53/\v3= u z k/\(∀j:Int,1<=j->j<k->Yo j≠s)/\Below w.heap.size w wr) (fun v3 _=>53-(intOf v3).toNat)
 case atStart=>exact⟨1,by omega,by omega,rfl,fun j h1 h2=>by omega,by go_grown⟩
 case round=>
  obtain⟨k,hk1,hk2,rfl,h3,hb⟩:=hrel;have HN:Hid (∀j:Int,1<=j->j<k->Yo j≠s):=h3;clear h3;by_cases hlt:k<=52
  ·have h0:(k:Int)<=52:=by omega
   by_cases he:Yo k=s
   ·have HE:Hid (rdc s.data.toList 0=k):=by rw[<-he];exact Qgb k (by omega) h0
    subst he
    go_wp2_with (first
     | (go_at_call 180;refine(Vf _ _).mono ?_;rintro e w1 ⟨rfl,hb1⟩;have hk:=Qb (w:=w) (by go_grown) hb1;clear hb1))
    all_goals
     go_ret;exact⟨Zn HE.out.symm,by go_grown⟩
   ·have he':=QQ he;have HE:Hid (Yo k≠s):=he;clear he
    go_wp2_with (first
     | (go_at_call 180;refine(Vf _ _).mono ?_;rintro e w1 ⟨rfl,hb1⟩;have hk:=Qb (w:=w) (by go_grown) hb1;clear hb1))
    all_goals
     go_roundw
     case rel=>exact⟨k+1,by omega,by omega,by go_num,fun j h1 h2=>by
      by_cases e:j=k
      ·rw[e];exact HE.out
      ·exact HN.out j h1 (by omega),by go_grown⟩
     case measure=>simp[intOf];omega
  ·have h0:(52:Int)<(k:Int):=by omega
   have HE:Hid (rdc s.data.toList 0=0):=Qk3 s (fun j h1 h2=>HN.out j h1 (by omega));go_wp2_with fail
   all_goals
    go_ret;exact⟨Zn HE.out.symm,by go_grown⟩
theorem Qjc(l:List UInt8)(k:Nat)(h:k<l.length):l.drop k=l[k]::l.drop (k+1):=List.drop_eq_getElem_cons h
theorem EH(s:ByteArray)(w:F)(hs:s.size<=maxLen):G prog 307 #[A s] w fun e w'=>
  e= D (u z (rdc s.data.toList 0))/\w'=w:=by
 unfold maxLen at hs;go_enter func307,ntmps307;go_wp2_with fail
 go_loop [3,7] (fun v3 v7=> ∃(k:Nat) (m:Int),k<=s.size/\0<=m/\m<=52/\v3= u z m/\v7= u z k/\rdc (s.data.toList.drop k) m=rdc s.data.toList 0) (fun _ v7=>s.size-(intOf v7).toNat)
 case atStart=>exact⟨0,0,by omega,by omega,by omega,rfl,rfl,rfl⟩
 case round=>
  obtain⟨k,m,hk,hm0,hm1,rfl,rfl,hr⟩:=hrel;have HR:Hid (rdc (s.data.toList.drop k) m=rdc s.data.toList 0):=hr;clear hr;by_cases h0:k<s.size
  ·have HD:Hid (s.data.toList.drop k=s[k]::s.data.toList.drop (k+1)):=Qjc s.data.toList k (by simpa using h0)
   go_wp2_with (first
    | (go_at_call 278;refine(Xt _ _).mono ?_;rintro e w1 ⟨rfl,rfl⟩))
   ·go_ret;rename_i hh
    exact⟨Zn (by rw[<-HR.out,HD.out,rdc,nG (by simp at hh;omega)]),rfl⟩
   ·rename_i hh h52
    simp at hh;go_ret;exact⟨Zn (by rw[<-HR.out,HD.out,rdc,pS (by omega),pS (by omega)]),rfl⟩
   ·rename_i hh h52
    simp at hh;go_round
    case rel=>exact⟨k+1,_,by omega,by omega,by omega,rfl,by go_num,by rw[<-HR.out,HD.out,rdc,pS (by omega),nG (by omega)];congr 1;omega⟩
    case measure=>simp[intOf];omega
  ·go_wp2_with fail
   go_ret;exact⟨Zn (by rw[<-HR.out,List.drop_of_length_le (by simp;omega)];rfl),rfl⟩
def QP(s:ByteArray):Bool:=if h:0<s.size then s[0]==36 else false
def Yu(s:ByteArray):ByteArray:=if QP s then s.extract 1 s.size else s
theorem Hf(s:ByteArray):(Yu s).size<=s.size:=by
 unfold Yu;split
 ·rw[ByteArray.size_extract];omega
 ·exact Nat.le_refl _
theorem Qja(h:QP s=true):0<s.size:=by
 unfold QP at h;split at h
 ·assumption
 ·cases h
theorem ext1(s:ByteArray)(h:0<s.size):(s.extract 0 1).toList= [s[0]]:=by
 rw[ByteArray.toList_eq];have e:(s.extract 0 1).data.toList=(s.data.toList).take 1:=by simp
 rw[e];obtain⟨⟨l⟩⟩:=s;match l,h with
 | a::l',_=>rfl
theorem Hv(s:ByteArray)(w:F)(hs:s.size<=281474976710656):G prog 208 #[A s,A ⟨#[36]⟩] w fun e w'=>
  e= D (E (QP s))/\w'=w:=by
 by_cases h:0<s.size
 ·have h0:(1:Int)<=(s.size:Int):=by omega
  have e1:=ext1 s h;have HE:Hid (QP s=(s[0]==36)):=by show QP s=_;rw[QP,dif_pos h]
  go_enter func208,ntmps208;go_wp2
  all_goals go_ret
  exact⟨Qc HE.out.symm,rfl⟩
 ·have h0: ¬(1:Int)<=(s.size:Int):=by omega
  have HE:Hid (QP s=false):=by show QP s=_;rw[QP,dif_neg h]
  go_enter func208,ntmps208;go_wp2
  go_ret;exact⟨Qc HE.out.symm,rfl⟩
theorem Nh(s:ByteArray)(w:F)(hs:s.size<=281474976710656):G prog 174 #[A s,A ⟨#[36]⟩] w fun e w'=>
  e= D (C #[A (Yu s),E (QP s)])/\w'=w:=by
 cases h:QP s
 ·have HE:Hid (QP s=false):=h;have HC:Hid (Yu s=s):=by show Yu s=s;rw[Yu,h];rfl
  clear h;go_enter func174,ntmps174
  go_wp2_with (first
   | (go_at_call 208;refine(Hv s _ hs).mono ?_;rintro e w1 ⟨rfl,rfl⟩;rw[HE.out]))
  refine i (v:= C #[A s,E false]) ?_ rfl ⟨by rw[HC.out],rfl⟩;simp (maxDischargeDepth:=9) [B,results174,go_sem, *]
 ·have HE:Hid (QP s=true):=h;have h0:(1:Int)<=(s.size:Int):=by have:=Qja h;omega
  have HC:Hid (Yu s=s.extract 1 s.size):=by show Yu s=_;rw[Yu,h];rfl
  clear h;go_enter func174,ntmps174
  go_wp2_with (first
   | (go_at_call 208;refine(Hv s _ hs).mono ?_;rintro e w1 ⟨rfl,rfl⟩;rw[HE.out]))
  refine i (v:= C #[A (s.extract 1 s.size),E true]) ?_ rfl ⟨by rw[HC.out],rfl⟩;simp (maxDischargeDepth:=9) [B,results174,go_sem, *]
theorem Hw(s:ByteArray)(w:F)(hs:s.size<=281474976710656):G prog 145 #[A s,A ⟨#[36]⟩] w fun e w'=>
  e= D (C #[A (Yu s),E (QP s)])/\w'=w:=by
 go_enter func145,ntmps145
 go_wp2_with (first
  | (go_at_call 174;refine(Nh s _ hs).mono ?_;rintro e w1 ⟨rfl,rfl⟩))
 refine i (v:= C #[A (Yu s),E (QP s)]) ?_ rfl ⟨rfl,rfl⟩;simp (maxDischargeDepth:=9) [B,results145,go_sem, *]
def isL(b:UInt8):Bool:=decide (65<=b.toNat/\b.toNat<=90)
def UI(s:ByteArray):Nat:=(s.data.toList.takeWhile isL).length
theorem Hk(p:UInt8->Bool): ∀(l:List UInt8) (k:Nat),(hk:k<=l.length)->(∀j,(hj:j<k)->p (l[j]'(by omega))=true)->(∀h:k<l.length,p l[k]=false)->(l.takeWhile p).length=k
 | [],k,hk,_,_=>by simp at hk;simp[hk]
 | a::l,0,_,_,h2=>by
  have:=h2 (by simp);simp at this;simp[List.takeWhile,this]
 | a::l,k+1,hk,h1,h2=>by
  have h0:=h1 0 (by omega);simp at h0;simp only[List.takeWhile,h0,List.length_cons];rw[Hk p l k (by simp at hk;omega) (fun j hj=>by simpa using h1 (j+1) (by omega)) (fun h=>by have h3:=h2 (by simp only[List.length_cons];omega);rwa[List.getElem_cons_succ]at h3)]
theorem Qaf{k:Nat}(hk:k<=s.size)(h1: ∀j,(hj:j<k)->isL (s[j]'(by omega))=true)(h2: ∀h:k<s.size,isL s[k]=false):UI s=k:=
 Hk isL s.data.toList k hk h1 h2
theorem Qgz(s:ByteArray):UI s<=s.size:=(List.takeWhile_sublist _).length_le
theorem GL(s:ByteArray)(w:F)(hs:s.size<=281474976710656):G prog 306 #[A s] w fun e w'=>
  e= D (u z (UI s))/\w'=w:=by
 go_enter func306,ntmps306;go_wp2_with fail
 go_loop [3] (fun v=> ∃k:Nat,∃hk:k<=s.size,v= u z k/\ ∀j,(hj:j<k)->isL (s[j]'(by omega))=true) (fun v=>s.size-(intOf v).toNat)
 case atStart=>exact⟨0,Nat.zero_le _,rfl,fun j hj=>by omega⟩
 case round=>
  obtain⟨k,hk,rfl,hr⟩:=hrel;have HR:Hid (∀j,(hj:j<k)->isL (s[j]'(by omega))=true):=hr;clear hr;have hk0:(0:Int)<=(k:Int):=by omega
  by_cases h1:k<s.size
  ·have h0:(k:Int)<(s.size:Int):=by omega
   cases hl:isL s[k]
   ·have HL:Hid (UI s=k):=Qaf hk HR.out (fun _=>hl)
    have HB:Hid (decide ((65:Int)<=(s[k].toNat:Int)/\(s[k].toNat:Int)<=90)=false):=by
     show decide _=false;unfold isL at hl;simp at hl ⊢;omega
    clear hl
    go_wp2_with (first
     | (go_at_call 278;refine(Xt _ _).mono ?_;rintro e w1 ⟨rfl,rfl⟩;rw[HB.out]))
    go_ret;exact⟨by rw[HL.out];rfl,rfl⟩
   ·have HL:Hid (∀j,(hj:j<k+1)->isL (s[j]'(by omega))=true):=fun j hj=>by
     by_cases e:j=k
     ·subst e;exact hl
     ·exact HR.out j (by omega)
    have HB:Hid (decide ((65:Int)<=(s[k].toNat:Int)/\(s[k].toNat:Int)<=90)=true):=by
     show decide _=true;unfold isL at hl;simp at hl ⊢;omega
    clear hl
    go_wp2_with (first
     | (go_at_call 278;refine(Xt _ _).mono ?_;rintro e w1 ⟨rfl,rfl⟩;rw[HB.out]))
    go_round
    case rel=>exact⟨k+1,by omega,by go_num,HL.out⟩
    case measure=>simp[intOf];omega
  ·have h0: ¬(k:Int)<(s.size:Int):=by omega
   have HL:Hid (UI s=k):=Qaf hk HR.out (fun h=>absurd h h1);go_wp2_with fail
   go_ret;exact⟨by rw[HL.out];rfl,rfl⟩
def l1I(s:ByteArray):Option Int:=match s.data.toList with
 | [a]=>if 48<=a.toNat/\a.toNat<=57 then some ((a.toNat:Int)-48)else none
 | [a,b]=>if a.toNat=48 then none else if(48<=a.toNat/\a.toNat<=57)/\(48<=b.toNat/\b.toNat<=57)then some (((a.toNat:Int)-48)*10+((b.toNat:Int)-48))else none
 | _=>none
theorem Qra(h:s.size=0):l1I s=none:=by
 obtain⟨⟨l⟩⟩:=s;match l,h with
 | [],_=>rfl
theorem Qq9(h:s.size=1):l1I s=if 48<=(s[0]'(by omega)).toNat/\(s[0]'(by omega)).toNat<=57 then some (((s[0]'(by omega)).toNat:Int)-48)else none:=by
 obtain⟨⟨l⟩⟩:=s;match l,h with
 | [a],_=>rfl
theorem Qq8(h:s.size=2):l1I s=if(s[0]'(by omega)).toNat=48 then none else if(48<=(s[0]'(by omega)).toNat/\(s[0]'(by omega)).toNat<=57)/\(48<=(s[1]'(by omega)).toNat/\(s[1]'(by omega)).toNat<=57)then some ((((s[0]'(by omega)).toNat:Int)-48)*10+(((s[1]'(by omega)).toNat:Int)-48))else none:=by
 obtain⟨⟨l⟩⟩:=s;match l,h with
 | [a,b],_=>rfl
theorem Xq(s:ByteArray)(w:F)(hs:s.size<=281474976710656):G prog 135 #[A s,u z 2] w fun e w'=>
  e= D (C #[u z ((l1I s).getD 0),E (l1I s).isSome])/\w'=w:=by
 by_cases h3:2<s.size
 ·have h3':(2:Int)<(s.size:Int):=by omega
  have h1: ¬(s.size:Int)<1:=by omega
  have HE:Hid (l1I s=none):=by
   show l1I s=none;obtain⟨⟨l⟩⟩:=s;match l,h3 with
   | _::_::_::_,_=>rfl
  go_enter func135,ntmps135;go_wp2
  refine i (v:= C #[u z 0,E false]) ?_ rfl ⟨by rw[HE.out];rfl,rfl⟩;simp (maxDischargeDepth:=9) [B,results135,go_sem, *]
 by_cases h4:s.size=0
 ·have h1:(s.size:Int)<1:=by omega
  have HE:Hid (l1I s=none):=Qra h4;clear h4;go_enter func135,ntmps135;go_wp2
  refine i (v:= C #[u z 0,E false]) ?_ rfl ⟨by rw[HE.out];rfl,rfl⟩;simp (maxDischargeDepth:=9) [B,results135,go_sem, *]
 have hp:0<s.size:=by omega
 have k1: ¬(s.size:Int)<1:=by omega
 have k2: ¬(2:Int)<(s.size:Int):=by omega
 have k3:(0:Int)<(s.size:Int):=by omega
 by_cases h5:s.size=1
 ·have k4: ¬(1:Int)<(s.size:Int):=by omega
  have HL:Hid (l1I s=if 48<=(s[0]'hp).toNat/\(s[0]'hp).toNat<=57 then some (((s[0]'hp).toNat:Int)-48)else none):=Qq9 h5;clear h5 h4 h3;by_cases h0:(s[0]'hp).toNat=48
  ·have h7:((s[0]'hp).toNat:Int)=48:=by omega
   have HE:Hid (l1I s=some 0):=by show l1I s=some 0;rw[HL.out,pS (by omega),h0];rfl
   go_enter func135,ntmps135;go_wp2
   refine g 4 ?_;rw[f];go_wp2
   rw[f];go_wp2
   refine i (v:= C #[u z 0,E true]) ?_ rfl ⟨by rw[HE.out];rfl,rfl⟩;simp (maxDischargeDepth:=9) [B,results135,go_sem, *]
  have n0: ¬((s[0]'hp).toNat:Int)=48:=by omega
  have m0:(((s[0]'hp).toNat:Int)==48)=false:=by simpa using n0
  by_cases h1:(s[0]'hp).toNat<48
  ·have h1':((s[0]'hp).toNat:Int)<48:=by omega
   have HE:Hid (l1I s=none):=by show l1I s=none;rw[HL.out,nG (by omega)]
   go_enter func135,ntmps135;go_wp2
   refine g 4 ?_;rw[f];go_wp2
   refine i (v:= C #[u z 0,E false]) ?_ rfl ⟨by rw[HE.out];rfl,rfl⟩;simp (maxDischargeDepth:=9) [B,results135,go_sem, *]
  have n1: ¬((s[0]'hp).toNat:Int)<48:=by omega
  by_cases h2:57<(s[0]'hp).toNat
  ·have h2':(57:Int)<((s[0]'hp).toNat:Int):=by omega
   have HE:Hid (l1I s=none):=by show l1I s=none;rw[HL.out,nG (by omega)]
   go_enter func135,ntmps135;go_wp2
   refine g 4 ?_;rw[f];go_wp2
   refine i (v:= C #[u z 0,E false]) ?_ rfl ⟨by rw[HE.out];rfl,rfl⟩;simp (maxDischargeDepth:=9) [B,results135,go_sem, *]
  have n2: ¬(57:Int)<((s[0]'hp).toNat:Int):=by omega
  have HE:Hid (l1I s=some (((s[0]'hp).toNat:Int)-48)):=by show l1I s=_;rw[HL.out,pS (by omega)]
  go_enter func135,ntmps135;go_wp2
  refine g 4 ?_;rw[f];go_wp2
  rw[f];go_wp2
  refine i (v:= C #[u z (((s[0]'hp).toNat:Int)-48),E true]) ?_ rfl ⟨by rw[HE.out];rfl,rfl⟩;simp (maxDischargeDepth:=9) [B,results135,go_sem, *]
 have h6:s.size=2:=by omega
 have hp1:1<s.size:=by omega
 have k4:(1:Int)<(s.size:Int):=by omega
 have k5: ¬(2:Int)<(s.size:Int):=by omega
 have HL:Hid (l1I s=if(s[0]'hp).toNat=48 then none else if(48<=(s[0]'hp).toNat/\(s[0]'hp).toNat<=57)/\(48<=(s[1]'hp1).toNat/\(s[1]'hp1).toNat<=57)then some ((((s[0]'hp).toNat:Int)-48)*10+(((s[1]'hp1).toNat:Int)-48))else none):=Qq8 h6;clear h6 h5 h4 h3;by_cases h0:(s[0]'hp).toNat=48
 ·have h7:((s[0]'hp).toNat:Int)=48:=by omega
  have HE:Hid (l1I s=none):=by show l1I s=none;rw[HL.out,pS h0]
  go_enter func135,ntmps135;go_wp2
  refine i (v:= C #[u z 0,E false]) ?_ rfl ⟨by rw[HE.out];rfl,rfl⟩;simp (maxDischargeDepth:=9) [B,results135,go_sem, *]
 have n0: ¬((s[0]'hp).toNat:Int)=48:=by omega
 have m0:(((s[0]'hp).toNat:Int)==48)=false:=by simpa using n0
 by_cases hpa:(s[0]'hp).toNat<48
 ·have gpa:((s[0]'hp).toNat:Int)<48:=by omega
  have HE:Hid (l1I s=none):=by show l1I s=none;rw[HL.out,nG h0,nG (by omega)]
  go_enter func135,ntmps135;go_wp2
  refine g 4 ?_;rw[f];go_wp2
  refine i (v:= C #[u z 0,E false]) ?_ rfl ⟨by rw[HE.out];rfl,rfl⟩;simp (maxDischargeDepth:=9) [B,results135,go_sem, *]
 have np: ¬((s[0]'hp).toNat:Int)<48:=by omega
 by_cases hq:57<(s[0]'hp).toNat
 ·have gq:(57:Int)<((s[0]'hp).toNat:Int):=by omega
  have HE:Hid (l1I s=none):=by show l1I s=none;rw[HL.out,nG h0,nG (by omega)]
  go_enter func135,ntmps135;go_wp2
  refine g 4 ?_;rw[f];go_wp2
  refine i (v:= C #[u z 0,E false]) ?_ rfl ⟨by rw[HE.out];rfl,rfl⟩;simp (maxDischargeDepth:=9) [B,results135,go_sem, *]
 have nq: ¬(57:Int)<((s[0]'hp).toNat:Int):=by omega
 by_cases hu:(s[1]'hp1).toNat<48
 ·have gu:((s[1]'hp1).toNat:Int)<48:=by omega
  have HE:Hid (l1I s=none):=by show l1I s=none;rw[HL.out,nG h0,nG (by omega)]
  go_enter func135,ntmps135;go_wp2
  refine g 4 ?_;rw[f];go_wp2
  rw[f];go_wp2
  refine i (v:= C #[u z 0,E false]) ?_ rfl ⟨by rw[HE.out];rfl,rfl⟩;simp (maxDischargeDepth:=9) [B,results135,go_sem, *]
 have nu: ¬((s[1]'hp1).toNat:Int)<48:=by omega
 by_cases hv:57<(s[1]'hp1).toNat
 ·have gv:(57:Int)<((s[1]'hp1).toNat:Int):=by omega
  have HE:Hid (l1I s=none):=by show l1I s=none;rw[HL.out,nG h0,nG (by omega)]
  go_enter func135,ntmps135;go_wp2
  refine g 4 ?_;rw[f];go_wp2
  rw[f];go_wp2
  refine i (v:= C #[u z 0,E false]) ?_ rfl ⟨by rw[HE.out];rfl,rfl⟩;simp (maxDischargeDepth:=9) [B,results135,go_sem, *]
 have nv: ¬(57:Int)<((s[1]'hp1).toNat:Int):=by omega
 have HE:Hid (l1I s=some ((((s[0]'hp).toNat:Int)-48)*10+(((s[1]'hp1).toNat:Int)-48))):=by show l1I s=_;rw[HL.out,nG h0,pS (by omega)]
 go_enter func135,ntmps135;go_wp2
 refine g 4 ?_;rw[f];go_wp2
 rw[f];go_wp2
 rw[f];go_wp2
 refine i (v:= C #[u z ((((s[0]'hp).toNat:Int)-48)*10+(((s[1]'hp1).toNat:Int)-48)),E true]) ?_ rfl ⟨by rw[HE.out];rfl,rfl⟩;simp (maxDischargeDepth:=9) [B,results135,go_sem, *]
end Go.Proofs.YtomadadmakdkgaaGreatDoor
