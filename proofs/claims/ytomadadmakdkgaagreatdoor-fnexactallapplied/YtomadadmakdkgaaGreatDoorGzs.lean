import Derived.Test.YtomadadmakdkgaaGreatDoorGzeA
import Derived.Maps.Own
import Derived.Maps.OwnOps
import Derived.Maps.OwnSet
import Derived.DeepKeys4
import Derived.Test.YtomadadmakdkgaaGreatDoorGze
open Go.Proofs.Tryz
open Go.Value renaming int → a, agg → s, string → u, slice → x
open Go.IntKind renaming i64 → f, i64 → g
open Go.Ending renaming returned → t
set_option linter.unusedSimpArgs false
set_option linter.unusedVariables false
set_option maxHeartbeats 4000000
set_option maxRecDepth 100000
namespace Go.Proofs.YtomadadmakdkgaaGreatDoor
open Go.RowKit Go.Maps
theorem Qni:26<prog.types.size:=by decide+kernel
theorem Qo3:(match prog.underlying 26 with | some (.array _ _) | some (.struct _)=>true | _=>false)=true:=by kernel_rfl
theorem Qwj:prog.keyTypeAt 2 26=true:=by kernel_rfl
theorem keyedRef:Keyed prog 26:=Keyed.of_law (deep_law_laid Qq7 (m:=2) (by omega) Qni Qwj Qo3)
theorem Eh:prog.cellsOf 26=2:=by kernel_rfl
theorem Qjl:prog.cellsOf 2=1:=by kernel_rfl
theorem Qrc:prog.keyType 26=true:=by kernel_rfl
theorem Qg0(c r:Int)(hc:(Lit.int .i64 c).wf=true)(hr:(Lit.int .i64 r).wf=true): ∃l,keyOf prog 26 (s #[a f c,a f r])=some l:=by
 have hF:Value.formed prog 26 (Value.agg #[Value.int g c,Value.int g r])=true:=by
  simp[Value.formed,underlying26,Eh]
 obtain⟨d,hd⟩: ∃d,prog.types.size=d+1:=⟨prog.types.size-1,by have:=Qni;omega⟩;unfold keyOf;simp only[underlying26,Qrc,hF,Bool.and_true,if_true,Value.cells];rw[hd];simp[Program.keyLits,underlying26,underlying2,Eh,Qjl,hc,hr]
def YM(v:Value):Option (DataW Value × List MemPlace):=some (.held v,[])
def clD(kl:Nat->Lit)(C R:Nat->Int)(S:Nat->ByteArray):Nat->DataW Value
 | 0=> .map []
 | n+1=>(clD kl C R S n).put (kl n) (.held (s #[a f (C n),a f (R n),u (S n)]))
theorem Mj(kl:Nat->Lit)(C R:Nat->Int)(S:Nat->ByteArray): ∀n,IsMap (clD kl C R S n)
 | 0=>⟨_,rfl⟩
 | n+1=>by
  obtain⟨es,he⟩:=Mj kl C R S n;unfold clD;rw[he];exact⟨_,rfl⟩
theorem Nm{A:Option Addr}{n cap:Nat}{C R:Nat->Int}{S:Nat->ByteArray}{kl:Nat->Lit}(w:World)(h:ClRow w A n C R S)(hn:n<=120)(hkl: ∀i,i<n->keyOf prog 26 (s #[a f (C i),a f (R i)])=some (kl i)):
  Calls prog 78 #[x A n cap] w fun e w'=>e= t (.map (some w.heap.size))/\w'.ownsMap prog 26 YM w.heap.size n (clD kl C R S n)/\Below w.heap.size w w':=by
 have HR:Hid (ClRow w A n C R S):=h;have HK:Hid (∀i,i<n->keyOf prog 26 (s #[a f (C i),a f (R i)])=some (kl i)):=hkl;clear h hkl;have hmm:= @run_makeMap prog;go_enter func78,ntmps78;go_wp2_with fail
 go_loopw [9] (fun i wr=> ∃k:Nat,k<=n/\i= a f k/\wr.ownsMap prog 26 YM w.heap.size k (clD kl C R S k)/\Below w.heap.size w wr) (fun i _=>n-(intOf i).toNat)
 case atStart=>exact⟨0,Nat.zero_le _,rfl,World.ownsMap_made _ _ _ _,by go_grown⟩
 case round=>
  obtain⟨k,hk,rfl,h3,h2⟩:=hrel;have HW:Hid (wr.ownsMap prog 26 YM w.heap.size k (clD kl C R S k)):=h3;clear h3;by_cases h4:k<n
  ·obtain⟨b,o,rfl,hl,c0,c1,c2,_⟩:=HR.out.2 k h4;have hs:=h2.size;rw[<-h2.cell (p:=⟨_,_,none⟩) hl]at c0 c1 c2;have hl2:b<wr.heap.size:=Nat.lt_of_lt_of_le hl hs;have h0:(0:Int)<=(k:Int):=by omega
   have h1:(k:Int)<(n:Int):=by omega
   go_wp2_with (first
    | (at_mapUpdate;refine wpList_mapUpdate_own _ rfl _ _ _ 90 rfl 26 70 keyedRef underlying90 YM w.heap.size k _ rfl (HW.out.alloc _) (by unfold maxLen;omega) _ _ (kl k) rfl rfl (HK.out k h4) _ [] rfl ?_;intro w1 hown1 hgrow1)
    | go_in)
   have R2:Below w.heap.size w w1:=Below.grown (h2.alloc hs _) hgrow1 (by simp;omega) (fun j hj=>by cases hj;exact Nat.le_refl _);go_roundw
   case rel=>exact⟨k+1,by omega,by go_num,hown1,R2⟩
   case measure=>simp[intOf];omega
  ·have h1: ¬(k:Int)<(n:Int):=by omega
   obtain rfl:k=n:=by omega
   go_wp2_with fail
   go_ret;exact⟨rfl,HW.out,h2⟩
theorem Ub{n:Int}(h1:0<=n)(h2:n<=1000):(Lit.int .i64 n).wf=true:=WalkArith.wf_i64 (by omega)
theorem EU{C R:Nat->Int}{n:Nat}(h: ∀i,i<n->Qf (C i) (R i)=true): ∃kl:Nat->Lit,∀i,i<n->keyOf prog 26 (s #[a f (C i),a f (R i)])=some (kl i):=by
 have key: ∀i,∃l,i<n->keyOf prog 26 (s #[a f (C i),a f (R i)])=some l:=fun i=>by
  by_cases hi:i<n
  ·have h1:=h i hi;simp only[Qf,decide_eq_true_eq]at h1;obtain⟨l,hl⟩:=Qg0 (C i) (R i) (Ub (by omega) (by omega)) (Ub (by omega) (by omega));exact⟨l,fun _=>hl⟩
  ·exact⟨.bool true,fun h=>absurd h hi⟩
 exact⟨fun i=>Classical.choose (key i),fun i hi=>Classical.choose_spec (key i) hi⟩
def Qfy(C R:Nat->Int)(S:Nat->ByteArray)(p q:Int):Nat->ByteArray
 | 0=>⟨#[]⟩
 | n+1=>if C n=p/\R n=q then S n else Qfy C R S p q n
def Qxn(C R:Nat->Int)(S:Nat->ByteArray)(n:Nat)(p q:Int):ByteArray:=if QA C R S n then Qfy C R S p q n else⟨#[]⟩
end Go.Proofs.YtomadadmakdkgaaGreatDoor
namespace Go.Proofs.YtomadadmakdkgaaGreatDoor
open Go.RowKit
end Go.Proofs.YtomadadmakdkgaaGreatDoor
