import Derived.Test.YtkdhmdllnaogcaaGreatDoorGze
import Derived.Maps.Own
import Derived.Maps.OwnOps
import Derived.Maps.OwnSet
import Derived.DeepKeys4
set_option linter.unusedSimpArgs false
set_option linter.unusedVariables false
set_option maxHeartbeats 4000000
set_option maxRecDepth 100000
namespace Go.Proofs.YtkdhmdllnaogcaaGreatDoor
open Go.RowKit Go.Maps
theorem Qb6:45<Tryz.prog.types.size:=by decide+kernel
theorem Qde:(match Tryz.prog.underlying 45 with | some (.array _ _) | some (.struct _)=>true | _=>false)=true:=by kernel_rfl
theorem Qi2:Tryz.prog.keyTypeAt 2 45=true:=by kernel_rfl
theorem keyedRef:Keyed Tryz.prog 45:=Keyed.of_law (deep_law_laid Qe6 (m:=2) (by omega) Qb6 Qi2 Qde)
theorem Ui:Tryz.prog.cellsOf 45=2:=by kernel_rfl
theorem Eu:Tryz.prog.cellsOf 2=1:=by kernel_rfl
theorem Qfb:Tryz.prog.keyType 45=true:=by kernel_rfl
theorem Qfc (c r:Int) (hc:(Lit.int .i64 c).wf=true) (hr:(Lit.int .i64 r).wf=true): ∃l,keyOf Tryz.prog 45 (.agg #[.int .i64 c,.int .i64 r])=some l:=by
 have hF:Value.formed Tryz.prog 45 (Value.agg #[Value.int IntKind.i64 c,Value.int IntKind.i64 r])=true:=by
  simp [Value.formed,Tryz.underlying45,Ui]
 obtain⟨d,hd⟩: ∃d,Tryz.prog.types.size=d+1:=⟨Tryz.prog.types.size-1,by have:=Qb6;omega⟩;unfold keyOf;simp only [Tryz.underlying45,Qfb,hF,Bool.and_true,if_true,Value.cells];rw [hd];simp [Program.keyLits,Tryz.underlying45,Tryz.underlying2,Ui,Eu,hc,hr]
def Qgc (v:Value):Option (DataW Value × List MemPlace):=some (.held v,[])
def clD (kl:Nat→Lit) (C R:Nat→Int) (S:Nat→ByteArray):Nat→DataW Value
 | 0=> .map []
 | n+1=>(clD kl C R S n).put (kl n) (.held (.agg #[.int .i64 (C n),.int .i64 (R n),.string (S n)]))
theorem Uh (kl:Nat→Lit) (C R:Nat→Int) (S:Nat→ByteArray): ∀n,IsMap (clD kl C R S n)
 | 0=>⟨_,rfl⟩
 | n+1=>by
  obtain⟨es,he⟩:=Uh kl C R S n;unfold clD;rw [he];exact⟨_,rfl⟩
theorem EJ {A:Option Addr} {n cap:Nat} {C R:Nat→Int} {S:Nat→ByteArray} {kl:Nat→Lit} (w:World) (h:ClRow w A n C R S) (hn:n≤120) (hkl: ∀i,i<n→keyOf Tryz.prog 45 (.agg #[.int .i64 (C i),.int .i64 (R i)])=some (kl i)):
  Calls Tryz.prog 41 #[.slice A n cap] w fun e w'=>e= .returned (.map (some w.heap.size))∧w'.ownsMap Tryz.prog 45 Qgc w.heap.size n (clD kl C R S n)∧Below w.heap.size w w':=by
 have HR:Hid (ClRow w A n C R S):=h;have HK:Hid (∀i,i<n→keyOf Tryz.prog 45 (.agg #[.int .i64 (C i),.int .i64 (R i)])=some (kl i)):=hkl;clear h hkl;have hmm:= @run_makeMap Tryz.prog;go_enter Tryz.func41,Tryz.ntmps41;go_wp2_with fail
 go_loopw [9] (fun i wr=> ∃k:Nat,k≤n∧i= .int .i64 k∧wr.ownsMap Tryz.prog 45 Qgc w.heap.size k (clD kl C R S k)∧Below w.heap.size w wr) (fun i _=>n-(intOf i).toNat)
 case atStart=>exact⟨0,Nat.zero_le _,rfl,World.ownsMap_made _ _ _ _,by go_grown⟩
 case round=>
  obtain⟨k,hk,rfl,hown,hbel⟩:=hrel;have HW:Hid (wr.ownsMap Tryz.prog 45 Qgc w.heap.size k (clD kl C R S k)):=hown;clear hown;by_cases hlt:k<n
  ·obtain⟨b,o,rfl,hl,c0,c1,c2,_⟩:=HR.out.2 k hlt;have hs:=hbel.size;rw [←hbel.cell (p:=⟨_,_,none⟩) hl]at c0 c1 c2;have hl2:b<wr.heap.size:=Nat.lt_of_lt_of_le hl hs;have h0:(0:Int)≤(k:Int):=by omega
   have h1:(k:Int)<(n:Int):=by omega
   go_wp2_with (first
    | (at_mapUpdate;refine wpList_mapUpdate_own _ rfl _ _ _ 73 rfl 45 50 keyedRef Tryz.underlying73 Qgc w.heap.size k _ rfl (HW.out.alloc _) (by unfold maxLen;omega) _ _ (kl k) rfl rfl (HK.out k hlt) _ [] rfl ?_;intro w1 hown1 hgrow1)
    | go_in)
   have R2:Below w.heap.size w w1:=Below.grown (hbel.alloc hs _) hgrow1 (by simp;omega) (fun j hj=>by cases hj;exact Nat.le_refl _);go_roundw
   case rel=>exact⟨k+1,by omega,by go_num,hown1,R2⟩
   case measure=>simp [intOf];omega
  ·have h1: ¬(k:Int)<(n:Int):=by omega
   obtain rfl:k=n:=by omega
   go_wp2_with fail
   go_ret;exact⟨rfl,HW.out,hbel⟩
theorem MO {n:Int} (h1:0≤n) (h2:n≤1000):(Lit.int .i64 n).wf=true:=WalkArith.wf_i64 (by omega)
theorem Qjy {C R:Nat→Int} {n:Nat} (h: ∀i,i<n→Qj (C i) (R i)=true): ∃kl:Nat→Lit,∀i,i<n→keyOf Tryz.prog 45 (.agg #[.int .i64 (C i),.int .i64 (R i)])=some (kl i):=by
 have key: ∀i,∃l,i<n→keyOf Tryz.prog 45 (.agg #[.int .i64 (C i),.int .i64 (R i)])=some l:=fun i=>by
  by_cases hi:i<n
  ·have h1:=h i hi;simp only [Qj,decide_eq_true_eq]at h1;obtain⟨l,hl⟩:=Qfc (C i) (R i) (MO (by omega) (by omega)) (MO (by omega) (by omega));exact⟨l,fun _=>hl⟩
  ·exact⟨.bool true,fun h=>absurd h hi⟩
 exact⟨fun i=>Classical.choose (key i),fun i hi=>Classical.choose_spec (key i) hi⟩
def Qf8 (C R:Nat→Int) (S:Nat→ByteArray) (p q:Int):Nat→ByteArray
 | 0=>⟨#[]⟩
 | n+1=>if C n=p∧R n=q then S n else Qf8 C R S p q n
theorem Qh7 {C R:Nat→Int} {S:Nat→ByteArray} {kl:Nat→Lit} {p q:Int} {l:Lit} (hl:keyOf Tryz.prog 45 (.agg #[.int .i64 p,.int .i64 q])=some l): ∀n:Nat,(∀i,i<n→keyOf Tryz.prog 45 (.agg #[.int .i64 (C i),.int .i64 (R i)])=some (kl i))→
  ∃c r,(clD kl C R S n).atKey l (.held (.agg #[.int .i64 0,.int .i64 0,.string ⟨#[]⟩]))= .held (.agg #[.int .i64 c,.int .i64 r,.string (Qf8 C R S p q n)])
 | 0,_=>⟨0,0,rfl⟩
 | n+1,h=>by
  unfold clD;by_cases e:C n=p∧R n=q
  ·have hk:=h n (by omega);rw [e.1,e.2,hl]at hk;rw [←Option.some.inj hk,atKey_put_same (Uh kl C R S n) (keyedRef.key hl)];exact⟨C n,R n,by rw [Qf8,if_pos e]⟩
  ·have hne:l≠kl n:=fun e2=>by
    have hk:=h n (by omega);rw [←e2]at hk;have:=keyedRef.inj hk hl;simp at this;exact e this
   rw [atKey_put_other hne];obtain⟨c,r,hcr⟩:=Qh7 hl n (fun i hi=>h i (by omega));exact⟨c,r,by rw [hcr,Qf8,if_neg e]⟩
end Go.Proofs.YtkdhmdllnaogcaaGreatDoor
