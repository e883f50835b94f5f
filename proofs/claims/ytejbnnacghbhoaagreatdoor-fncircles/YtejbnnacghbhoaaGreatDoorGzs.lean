import Derived.Test.YtejbnnacghbhoaaGreatDoorGzeA
import Derived.Maps.Own
import Derived.Maps.OwnOps
import Derived.Maps.OwnSet
import Derived.DeepKeys4
import Derived.Test.YtejbnnacghbhoaaGreatDoorGze
import Derived.Deep.QuietTactic
import Derived.BigQuiet
set_option linter.unusedSimpArgs false
set_option linter.unusedVariables false
set_option maxHeartbeats 4000000
set_option maxRecDepth 100000
namespace Go.Proofs.YtejbnnacghbhoaaGreatDoor
open Go.RowKit Go.Maps
theorem Qb2:26<Tryz.prog.types.size:=by decide+kernel
theorem Qcc:(match Tryz.prog.underlying 26 with | some (.array _ _) | some (.struct _)=>true | _=>false)=true:=by kernel_rfl
theorem Qoj:Tryz.prog.keyTypeAt 2 26=true:=by kernel_rfl
theorem keyedRef:Keyed Tryz.prog 26:=Keyed.of_law (deep_law_laid Qde (m:=2) (by omega) Qb2 Qoj Qcc)
theorem NX:Tryz.prog.cellsOf 26=2:=by kernel_rfl
theorem Qfs:Tryz.prog.cellsOf 2=1:=by kernel_rfl
theorem Qmz:Tryz.prog.keyType 26=true:=by kernel_rfl
theorem UT (c r:Int) (hc:(Lit.int .i64 c).wf=true) (hr:(Lit.int .i64 r).wf=true): ∃l,keyOf Tryz.prog 26 (.agg #[.int .i64 c,.int .i64 r])=some l:=by
 have hF:Value.formed Tryz.prog 26 (Value.agg #[Value.int IntKind.i64 c,Value.int IntKind.i64 r])=true:=by
  simp [Value.formed,Tryz.underlying26,NX]
 obtain⟨d,hd⟩: ∃d,Tryz.prog.types.size=d+1:=⟨Tryz.prog.types.size-1,by have:=Qb2;omega⟩;unfold keyOf;simp only [Tryz.underlying26,Qmz,hF,Bool.and_true,if_true,Value.cells];rw [hd];simp [Program.keyLits,Tryz.underlying26,Tryz.underlying2,NX,Qfs,hc,hr]
def Gs (v:Value):Option (DataW Value × List MemPlace):=some (.held v,[])
theorem BO {n:Int} (h1:0≤n) (h2:n≤1000):(Lit.int .i64 n).wf=true:=WalkArith.wf_i64 (by omega)
theorem Qll {C R:Nat→Int} {n:Nat} (h: ∀i,i<n→Qg (C i) (R i)=true): ∃kl:Nat→Lit,∀i,i<n→keyOf Tryz.prog 26 (.agg #[.int .i64 (C i),.int .i64 (R i)])=some (kl i):=by
 have key: ∀i,∃l,i<n→keyOf Tryz.prog 26 (.agg #[.int .i64 (C i),.int .i64 (R i)])=some l:=fun i=>by
  by_cases hi:i<n
  ·have h1:=h i hi;simp only [Qg,decide_eq_true_eq]at h1;obtain⟨l,hl⟩:=UT (C i) (R i) (BO (by omega) (by omega)) (BO (by omega) (by omega));exact⟨l,fun _=>hl⟩
  ·exact⟨.bool true,fun h=>absurd h hi⟩
 exact⟨fun i=>Classical.choose (key i),fun i hi=>Classical.choose_spec (key i) hi⟩
def Yy (C R:Nat→Int) (S:Nat→ByteArray) (p q:Int):Nat→ByteArray
 | 0=>⟨#[]⟩
 | n+1=>if C n=p∧R n=q then S n else Yy C R S p q n
theorem YO {C R:Nat→Int} {S:Nat→ByteArray} {n:Nat} (h:QD C R S n=true):n≤120∧Yv C R n=true:=by
 unfold QD at h;simp only [Bool.and_eq_true,decide_eq_true_eq]at h;exact h.1
theorem Em {C R:Nat→Int} {n:Nat} (h:Yv C R n=true): ∀i,i<n→QY C R i=true:=by
 unfold Yv at h;rw [List.all_eq_true]at h;exact fun i hi=>h i (List.mem_range.2 hi)
theorem El {C R:Nat→Int} {n:Nat} (h:Yv C R n=true): ∀i,i<n→Qg (C i) (R i)=true:=fun i hi=>by
 have:=Em h i hi;unfold QY at this;simp only [Bool.and_eq_true]at this;exact this.1
theorem Qny {n:Nat} {w W:World} (h:Below n w W) (k:Nat):Below n w (W.drewN k):=by
 induction k with
 | zero=>exact h
 | succ k ih=>first | exact ih.drew | (rw [World.drewN_succ];exact ih.drew)
theorem BN {a b c d e f:Int} (h1:Zy a b c d=true) (h2:Zy c d e f=true):Zy a b e f=true:=by
 simp only [Zy,decide_eq_true_eq]at*;omega
theorem Qcl {C R:Nat→Int} {n:Nat} (h:Yv C R n=true): ∀j,j<n→ ∀i,i<j→Zy (C i) (R i) (C j) (R j)=true:=by
 intro j;induction j with
 | zero=>intro _ i hi;omega
 | succ j ih=>
  intro hj i hi;have h1:=Em h (j+1) hj;unfold QY at h1;simp only [Bool.and_eq_true,Bool.or_eq_true,decide_eq_true_eq]at h1
  have h2:Zy (C j) (R j) (C (j+1)) (R (j+1))=true:=by
   rcases h1.2 with h3 | h3
   ·omega
   ·simpa using h3
  by_cases e:i=j
  ·subst e;exact h2
  ·exact BN (ih (by omega) i (by omega)) h2
theorem Nr {C R:Nat→Int} {S:Nat→ByteArray} {p q:Int}: ∀n:Nat,(∀i,i<n→ ¬(C i=p∧R i=q))→Yy C R S p q n=⟨#[]⟩
 | 0,_=>rfl
 | n+1,h=>by rw [Yy,if_neg (h n (by omega)),Nr n (fun i hi=>h i (by omega))]
theorem Qk0 {C R:Nat→Int} {S:Nat→ByteArray} {n k:Nat} (h:Yv C R n=true) (hk:k<n): ∀m,k<m→m≤n→Yy C R S (C k) (R k) m=S k:=by
 intro m;induction m with
 | zero=>intro h1;omega
 | succ m ih=>
  intro h1 h2;by_cases e:k=m
  ·subst e;rw [Yy,if_pos ⟨rfl,rfl⟩]
  ·have h3:=Qcl h m (by omega) k (by omega);simp only [Zy,decide_eq_true_eq]at h3;rw [Yy,if_neg (by omega)];exact ih (by omega) (by omega)
theorem Qee {A:Option Addr} {n cap:Nat} {C R:Nat→Int} {S:Nat→ByteArray} (p q:Int) (w:World) (h:ClRow w A n C R S) (hrs:Yv C R n=true):
  Calls Tryz.prog 80 #[.slice A n cap,.agg #[.int .i64 p,.int .i64 q]] w fun e w'=>e= .returned (.string (Yy C R S p q n))∧Below w.heap.size w w':=by
 have HR:Hid (ClRow w A n C R S):=h;have HRS:Hid (Yv C R n=true):=hrs;have hn:=h.1;unfold maxLen at hn;clear h hrs;go_enter Tryz.func80,Tryz.ntmps80;go_wp2_with fail
 go_loopw [5] (fun i wr=> ∃k:Nat,k≤n∧i= .int .i64 k∧(∀j,j<k→ ¬(C j=p∧R j=q))∧Below w.heap.size w wr∧Below (w.heap.size+1) (w.alloc (.cells #[.int .i64 p,.int .i64 q] 26)) wr) (fun i _=>n-(intOf i).toNat)
 case atStart=>exact⟨0,Nat.zero_le _,rfl,fun i hi=>by omega,by go_grown,Below.refl _ _⟩
 case round=>
  obtain⟨k,hk,rfl,hr,hbel,hbx⟩:=hrel;have HI:Hid (∀j,j<k→ ¬(C j=p∧R j=q)):=hr;clear hr;have hs:=hbel.size;have hsx:w.heap.size+1≤wr.heap.size:=Nat.le_trans (by go_size) hbx.size;have e0:wr.cell? ⟨w.heap.size,0,none⟩=some (.int .i64 p):=(hbx.cell (p:=⟨_,_,none⟩) (by simp)).trans (by simp);have e1:wr.cell? ⟨w.heap.size,1,none⟩=some (.int .i64 q):=(hbx.cell (p:=⟨_,_,none⟩) (by simp)).trans (by simp)
  have l0:w.heap.size<wr.heap.size:=by omega
  have HB:Hid (Below w.heap.size w wr):=hbel;have HX:Hid (Below (w.heap.size+1) (w.alloc (.cells #[.int .i64 p,.int .i64 q] 26)) wr):=hbx;by_cases hlt:k<n
  ·obtain⟨b,o,rfl,hl,c0,c1,c2,_⟩:=HR.out.2 k hlt;rw [←hbel.cell (p:=⟨_,_,none⟩) hl]at c0 c1 c2;clear hbel hbx;have hl2:b<wr.heap.size:=Nat.lt_of_lt_of_le hl hs;have h0:(0:Int)≤(k:Int):=by omega
   have h1:(k:Int)<(n:Int):=by omega
   by_cases hc:C k=p
   ·by_cases hd:R k=q
    ·have HF:Hid (Yy C R S p q n=S k):=by show _=_;rw [←hc,←hd];exact Qk0 HRS.out hlt n hlt (Nat.le_refl _)
     have t1:(C k==p)=true:=by simpa using hc
     have t2:(R k==q)=true:=by simpa using hd
     clear hc hd;go_wp2_with fail
     go_quiet (fail)
     all_goals go_wp2_with fail
     all_goals go_ret
     all_goals exact⟨Qv HF.out.symm,Qny HB.out _⟩
    ·have HI':Hid (∀j,j<k+1→ ¬(C j=p∧R j=q)):=fun j hj=>by
      by_cases e:j=k
      ·subst e;exact fun h=>hd h.2
      ·exact HI.out j (by omega)
     have t1:(C k==p)=true:=by simpa using hc
     have t2:(R k==q)=false:=by simpa using hd
     clear hc hd;go_wp2_with fail
     go_quiet (fail)
     all_goals go_wp2_with fail
     all_goals
      go_roundw
      case rel=>exact⟨k+1,by omega,by go_num,HI'.out,Qny HB.out _,Qny HX.out _⟩
      case measure=>simp [intOf];omega
   ·have HI':Hid (∀j,j<k+1→ ¬(C j=p∧R j=q)):=fun j hj=>by
     by_cases e:j=k
     ·subst e;exact fun h=>hc h.1
     ·exact HI.out j (by omega)
    have t1:(C k==p)=false:=by simpa using hc
    go_wp2_with fail
    go_quiet (fail)
    all_goals go_wp2_with fail
    all_goals
     go_roundw
     case rel=>exact⟨k+1,by omega,by go_num,HI'.out,Qny HB.out _,Qny HX.out _⟩
     case measure=>simp [intOf];omega
  ·have h1: ¬(k:Int)<(n:Int):=by omega
   obtain rfl:k=n:=by omega
   go_wp2_with fail
   go_ret;exact⟨Qv (Nr k HI.out).symm,HB.out⟩
end Go.Proofs.YtejbnnacghbhoaaGreatDoor
namespace Go.Proofs.YtejbnnacghbhoaaGreatDoor
open Go.RowKit
end Go.Proofs.YtejbnnacghbhoaaGreatDoor
