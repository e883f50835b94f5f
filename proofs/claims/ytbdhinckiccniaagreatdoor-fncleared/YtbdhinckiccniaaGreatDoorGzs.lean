import Derived.Test.YtbdhinckiccniaaGreatDoorGzeA
import Derived.Maps.Own
import Derived.Maps.OwnOps
import Derived.Maps.OwnSet
import Derived.DeepKeys4
import Derived.Test.YtbdhinckiccniaaGreatDoorMn
import Derived.Test.YtbdhinckiccniaaGreatDoorGze
set_option linter.unusedSimpArgs false
set_option linter.unusedVariables false
set_option maxHeartbeats 4000000
set_option maxRecDepth 100000
namespace Go.Proofs.YtbdhinckiccniaaGreatDoor
open Go.RowKit Go.Maps
theorem Qme:27<Tryz.prog.types.size:=by decide+kernel
theorem Qnx:(match Tryz.prog.underlying 27 with | some (.array _ _) | some (.struct _)=>true | _=>false)=true:=by kernel_rfl
theorem Qun:Tryz.prog.keyTypeAt 2 27=true:=by kernel_rfl
theorem keyedRef:Keyed Tryz.prog 27:=Keyed.of_law (deep_law_laid Qp3 (m:=2) (by omega) Qme Qun Qnx)
theorem DU:Tryz.prog.cellsOf 27=2:=by kernel_rfl
theorem Qis:Tryz.prog.cellsOf 2=1:=by kernel_rfl
theorem Qp8:Tryz.prog.keyType 27=true:=by kernel_rfl
theorem Qgf (c r:Int) (hc:(Lit.int .i64 c).wf=true) (hr:(Lit.int .i64 r).wf=true): ∃l,keyOf Tryz.prog 27 (.agg #[.int .i64 c,.int .i64 r])=some l:=by
 have hF:Value.formed Tryz.prog 27 (Value.agg #[Value.int IntKind.i64 c,Value.int IntKind.i64 r])=true:=by
  simp [Value.formed,Tryz.underlying27,DU]
 obtain⟨d,hd⟩: ∃d,Tryz.prog.types.size=d+1:=⟨Tryz.prog.types.size-1,by have:=Qme;omega⟩;unfold keyOf;simp only [Tryz.underlying27,Qp8,hF,Bool.and_true,if_true,Value.cells];rw [hd];simp [Program.keyLits,Tryz.underlying27,Tryz.underlying2,DU,Qis,hc,hr]
def XG (v:Value):Option (DataW Value × List MemPlace):=some (.held v,[])
def clD (kl:Nat→Lit) (C R:Nat→Int) (S:Nat→ByteArray):Nat→DataW Value
 | 0=> .map []
 | n+1=>(clD kl C R S n).put (kl n) (.held (.agg #[.int .i64 (C n),.int .i64 (R n),.string (S n)]))
theorem DT (kl:Nat→Lit) (C R:Nat→Int) (S:Nat→ByteArray): ∀n,IsMap (clD kl C R S n)
 | 0=>⟨_,rfl⟩
 | n+1=>by
  obtain⟨es,he⟩:=DT kl C R S n;unfold clD;rw [he];exact⟨_,rfl⟩
theorem UZ {A:Option Addr} {n cap:Nat} {C R:Nat→Int} {S:Nat→ByteArray} {kl:Nat→Lit} (w:World) (h:ClRow w A n C R S) (hn:n≤120) (hkl: ∀i,i<n→keyOf Tryz.prog 27 (.agg #[.int .i64 (C i),.int .i64 (R i)])=some (kl i)):
  Calls Tryz.prog 26 #[.slice A n cap] w fun e w'=>e= .returned (.map (some w.heap.size))∧w'.ownsMap Tryz.prog 27 XG w.heap.size n (clD kl C R S n)∧Below w.heap.size w w':=by
 have HR:Hid (ClRow w A n C R S):=h;have HK:Hid (∀i,i<n→keyOf Tryz.prog 27 (.agg #[.int .i64 (C i),.int .i64 (R i)])=some (kl i)):=hkl;clear h hkl;have hmm:= @run_makeMap Tryz.prog;go_enter Tryz.func26,Tryz.ntmps26;go_wp2_with fail
 go_loopw [9] (fun i wr=> ∃k:Nat,k≤n∧i= .int .i64 k∧wr.ownsMap Tryz.prog 27 XG w.heap.size k (clD kl C R S k)∧Below w.heap.size w wr) (fun i _=>n-(intOf i).toNat)
 case atStart=>exact⟨0,Nat.zero_le _,rfl,World.ownsMap_made _ _ _ _,by go_grown⟩
 case round=>
  obtain⟨k,hk,rfl,hown,hbel⟩:=hrel;have HW:Hid (wr.ownsMap Tryz.prog 27 XG w.heap.size k (clD kl C R S k)):=hown;clear hown;by_cases hlt:k<n
  ·obtain⟨b,o,rfl,hl,c0,c1,c2,_⟩:=HR.out.2 k hlt;have hs:=hbel.size;rw [←hbel.cell (p:=⟨_,_,none⟩) hl]at c0 c1 c2;have hl2:b<wr.heap.size:=Nat.lt_of_lt_of_le hl hs;have h0:(0:Int)≤(k:Int):=by omega
   have h1:(k:Int)<(n:Int):=by omega
   go_wp2_with (first
    | (at_mapUpdate;refine wpList_mapUpdate_own _ rfl _ _ _ 59 rfl 27 37 keyedRef Tryz.underlying59 XG w.heap.size k _ rfl (HW.out.alloc _) (by unfold maxLen;omega) _ _ (kl k) rfl rfl (HK.out k hlt) _ [] rfl ?_;intro w1 hown1 hgrow1)
    | go_in)
   have R2:Below w.heap.size w w1:=Below.grown (hbel.alloc hs _) hgrow1 (by simp;omega) (fun j hj=>by cases hj;exact Nat.le_refl _);go_roundw
   case rel=>exact⟨k+1,by omega,by go_num,hown1,R2⟩
   case measure=>simp [intOf];omega
  ·have h1: ¬(k:Int)<(n:Int):=by omega
   obtain rfl:k=n:=by omega
   go_wp2_with fail
   go_ret;exact⟨rfl,HW.out,hbel⟩
theorem Qa4 {n:Int} (h1:0≤n) (h2:n≤1000):(Lit.int .i64 n).wf=true:=WalkArith.wf_i64 (by omega)
theorem Qfo {C R:Nat→Int} {n:Nat} (h: ∀i,i<n→Qh (C i) (R i)=true): ∃kl:Nat→Lit,∀i,i<n→keyOf Tryz.prog 27 (.agg #[.int .i64 (C i),.int .i64 (R i)])=some (kl i):=by
 have key: ∀i,∃l,i<n→keyOf Tryz.prog 27 (.agg #[.int .i64 (C i),.int .i64 (R i)])=some l:=fun i=>by
  by_cases hi:i<n
  ·have h1:=h i hi;simp only [Qh,decide_eq_true_eq]at h1;obtain⟨l,hl⟩:=Qgf (C i) (R i) (Qa4 (by omega) (by omega)) (Qa4 (by omega) (by omega));exact⟨l,fun _=>hl⟩
  ·exact⟨.bool true,fun h=>absurd h hi⟩
 exact⟨fun i=>Classical.choose (key i),fun i hi=>Classical.choose_spec (key i) hi⟩
def NP (C R:Nat→Int) (S:Nat→ByteArray) (p q:Int):Nat→ByteArray
 | 0=>⟨#[]⟩
 | n+1=>if C n=p∧R n=q then S n else NP C R S p q n
theorem Qnf {C R:Nat→Int} {S:Nat→ByteArray} {kl:Nat→Lit} {p q:Int} {l:Lit} (hl:keyOf Tryz.prog 27 (.agg #[.int .i64 p,.int .i64 q])=some l): ∀n:Nat,(∀i,i<n→keyOf Tryz.prog 27 (.agg #[.int .i64 (C i),.int .i64 (R i)])=some (kl i))→
  ∃c r,(clD kl C R S n).atKey l (.held (.agg #[.int .i64 0,.int .i64 0,.string ⟨#[]⟩]))= .held (.agg #[.int .i64 c,.int .i64 r,.string (NP C R S p q n)])
 | 0,_=>⟨0,0,rfl⟩
 | n+1,h=>by
  unfold clD;by_cases e:C n=p∧R n=q
  ·have hk:=h n (by omega);rw [e.1,e.2,hl]at hk;rw [←Option.some.inj hk,atKey_put_same (DT kl C R S n) (keyedRef.key hl)];exact⟨C n,R n,by rw [NP,if_pos e]⟩
  ·have hne:l≠kl n:=fun e2=>by
    have hk:=h n (by omega);rw [←e2]at hk;have:=keyedRef.inj hk hl;simp at this;exact e this
   rw [atKey_put_other hne];obtain⟨c,r,hcr⟩:=Qnf hl n (fun i hi=>h i (by omega));exact⟨c,r,by rw [hcr,NP,if_neg e]⟩
theorem Qjb (w:World):(zeroValue 37).run Tryz.prog w= .ok (.agg #[.int .i64 0,.int .i64 0,.string ⟨#[]⟩]) w:=by kernel_rfl
theorem Qlx (c r:Int) (s:ByteArray) (w:World):(Instr.field 37 (.agg #[.int .i64 c,.int .i64 r,.string s]) 1).run Tryz.prog w= .ok (.string s) w:=by kernel_rfl
theorem Qef {C R:Nat→Int} {S:Nat→ByteArray} {n:Nat} (h:Qx C R S n=true):n≤120∧XN C R n=true:=by
 unfold Qx at h;simp only [Bool.and_eq_true,decide_eq_true_eq]at h;exact h.1
theorem Qj3 {C R:Nat→Int} {n:Nat} (h:XN C R n=true): ∀i,i<n→QS C R i=true:=by
 unfold XN at h;rw [List.all_eq_true]at h;exact fun i hi=>h i (List.mem_range.2 hi)
theorem Qj2 {C R:Nat→Int} {n:Nat} (h:XN C R n=true): ∀i,i<n→Qh (C i) (R i)=true:=fun i hi=>by
 have:=Qj3 h i hi;unfold QS at this;simp only [Bool.and_eq_true]at this;exact this.1
def Qbk (C R:Nat→Int) (S:Nat→ByteArray) (n:Nat) (p q:Int):ByteArray:=if Qx C R S n then NP C R S p q n else⟨#[]⟩
theorem Qh5 {W:World} {b n:Nat} {D:DataW Value} {p q:Int} {l:Lit} {v:Value} (hown:W.ownsMap Tryz.prog 27 XG b n D) (hl:keyOf Tryz.prog 27 (.agg #[.int .i64 p,.int .i64 q])=some l)
  (hv:D.atKey l (.held (.agg #[.int .i64 0,.int .i64 0,.string ⟨#[]⟩]))= .held v):(Instr.lookup 59 (.map (some b)) (.agg #[.int .i64 p,.int .i64 q]) false).run Tryz.prog W= .ok v W:=by
 obtain⟨u,ps,h1,h2⟩:=hown.lookup keyedRef Tryz.underlying59 (Qjb W) (rfl:XG _=some (.held _,[])) hl;rw [hv]at h2;unfold XG at h2;simp at h2;rw [h1,h2.1]
theorem VO {A:Option Addr} {n cap:Nat} {C R:Nat→Int} {S:Nat→ByteArray} (p q:Int) (w:World) (h:ClRow w A n C R S) (hg:GI w) (hp:(Lit.int .i64 p).wf=true) (hq:(Lit.int .i64 q).wf=true):
  Calls Tryz.prog 12 #[.slice A n cap,.agg #[.int .i64 p,.int .i64 q]] w fun e w'=>e= .returned (.string (Qbk C R S n p q))∧Below w.heap.size w w':=by
 have HR:Hid (ClRow w A n C R S):=h;have HG:Hid (GI w):=hg;clear h hg;cases hok:Qx C R S n
 ·have HOK:Hid (Qx C R S n=false):=hok;have HF:Hid (Qbk C R S n p q=⟨#[]⟩):=by show _=_;unfold Qbk;rw [hok];exact(rfl:_=_)
  clear hok;go_enter Tryz.func12,Tryz.ntmps12;go_wp2_with (go_at_call 21;refine(Ys _ (HR.out.below (by go_grown)) (HG.out.below (by go_grown))).mono ?_;rintro e w1 ⟨rfl,hb⟩;rw [HOK.out];obtain⟨hc,hf,hC,hF,hz,hk,l0⟩:=bk1 (w:=w) (by go_grown) (by go_size) hb;clear hb)
  go_ret;exact⟨Qr HF.out.symm,by go_grown⟩
 have HOK:Hid (Qx C R S n=true):=hok;have HF:Hid (Qbk C R S n p q=NP C R S p q n):=by show _=_;unfold Qbk;rw [hok,if_pos rfl]
 obtain⟨h120,hrs⟩:=Qef hok;obtain⟨kl,hkl⟩:=Qfo (Qj2 hrs);obtain⟨l,hl⟩:=Qgf p q hp hq;obtain⟨c,r,hcr⟩:=Qnf (S:=S) hl n hkl;have HKL:Hid (∀i,i<n→keyOf Tryz.prog 27 (.agg #[.int .i64 (C i),.int .i64 (R i)])=some (kl i)):=hkl;have HL:Hid (keyOf Tryz.prog 27 (.agg #[.int .i64 p,.int .i64 q])=some l):=hl;have HCR:Hid (_=_):=hcr
 clear hok hrs hkl hl hcr;obtain⟨s,HS⟩: ∃s:ByteArray,Hid (s=NP C R S p q n):=⟨_,rfl⟩;rw [←HS.out]at HCR HF;go_enter Tryz.func12,Tryz.ntmps12;go_wp2_with (go_at_call 21;refine(Ys _ (HR.out.below (by go_grown)) (HG.out.below (by go_grown))).mono ?_;rintro e w1 ⟨rfl,hb⟩;rw [HOK.out];have HR1:Hid (ClRow w1 A n C R S):=(HR.out.below (by go_grown)).below hb;obtain⟨hc,hf,hC,hF,hz,hk,l0⟩:=bk1 (w:=w) (by go_grown) (by go_size) hb;clear hb)
 have d0:w1.cell? ⟨w.heap.size,0,none⟩=some (.int .i64 p):=by rw [hc _ _ (by omega)];simp
 have d1:w1.cell? ⟨w.heap.size,1,none⟩=some (.int .i64 q):=by rw [hc _ _ (by omega)];simp
 refine wp_region_held_drew (S:=(fun w'=>(∀bq oq,bq<w1.heap.size→w'.cell? ⟨bq,oq,none⟩=w1.cell? ⟨bq,oq,none⟩)∧w1.heap.size≤w'.heap.size∧Below w1.heap.size w1 w')) (by kernel_rfl) (Qp (by go_size) (by go_grown)) (fun hHeld=> ?_);refine tkA 0 ?_;refine tkB 2 ?_;refine rqA 1 (fun Kq hKq=> ?_);go_simp;refine(UZ _ (HR1.out.below (by go_grown)) h120 HKL.out).mono ?_;rintro e w2 ⟨rfl,hown,hb⟩
 have hrun:(Instr.lookup 59 (.map (some w1.heap.size)) (.agg #[.int .i64 p,.int .i64 q]) false).run Tryz.prog w2= .ok (.agg #[.int .i64 c,.int .i64 r,.string s]) w2:=Qh5 hown HL.out HCR.out;obtain⟨hk1,hz1⟩:=Qg (B:=w1.heap.size) (X:=w1) (by go_grown) (by go_size) hb;clear hb hown;refine hKq.out _ _ (Qp (by go_size) (by go_grown)) (fun hHeld=> ?_);clear hKq Kq;try simp only [Act.put,List.getElem_toArray,List.getElem_cons_zero,List.getElem_cons_succ,List.setIfInBounds_toArray,List.set_cons_zero,List.set_cons_succ]
 refine rqA 3 (fun Kq hKq=> ?_);go_simp;refine hKq.out _ _ (Qp (by go_size) (by go_grown)) (fun hHeld=> ?_);clear hKq Kq;try simp only [Act.put,List.getElem_toArray,List.getElem_cons_zero,List.getElem_cons_succ,List.setIfInBounds_toArray,List.set_cons_zero,List.set_cons_succ]
 have hfl:=Qlx c r s;refine tkA 4 ?_;refine tkB 5 ?_;refine wpAnyH_done (by kernel_rfl) ?_ _;go_wp2_with fail
 go_ret;exact⟨Qr HF.out.symm,Qc hk (by go_grown)⟩
end Go.Proofs.YtbdhinckiccniaaGreatDoor
namespace Go.Proofs.YtbdhinckiccniaaGreatDoor
open Go.RowKit
theorem Yo {A A':Option Addr} {n cap cap':Nat} {C R:Nat→Int} {S:Nat→ByteArray} (w:World) (h:ClRow w A n C R S) (h':ClRow w A' n C R S):
  Calls Tryz.prog 10 #[.slice A n cap,.slice A' n cap'] w fun e w'=>e= .returned (.bool true)∧Below w.heap.size w w':=by
 have HR:Hid (ClRow w A n C R S):=h;have HR':Hid (ClRow w A' n C R S):=h';have hn:=h.1;unfold maxLen at hn;clear h h';go_enter Tryz.func10,Tryz.ntmps10;go_wp2_with fail
 go_loopw [5] (fun i wr=> ∃k:Nat,k≤n∧i= .int .i64 k∧Below w.heap.size w wr) (fun i _=>n-(intOf i).toNat)
 case atStart=>exact⟨0,Nat.zero_le _,rfl,Below.refl _ _⟩
 case round=>
  obtain⟨k,hk,rfl,hbel⟩:=hrel;by_cases hlt:k<n
  ·obtain⟨b,o,rfl,hl,c0,c1,c2,_⟩:=HR.out.2 k hlt;obtain⟨b',o',rfl,hl',c0',c1',c2',_⟩:=HR'.out.2 k hlt;rw [←hbel.cell (p:=⟨_,_,none⟩) hl]at c0 c1 c2;rw [←hbel.cell (p:=⟨_,_,none⟩) hl']at c0' c1' c2';have h0:(0:Int)≤(k:Int):=by omega
   have h1:(k:Int)<(n:Int):=by omega
   obtain⟨s,HS⟩: ∃s,Hid (S k=s):=⟨_,rfl⟩;rw [HS.out]at c2 c2';have hss:(s.toList==s.toList)=true:=by simp
   go_wp2_with fail
   go_region
   all_goals go_wp2_with fail
   all_goals
    go_roundw
    case rel=>exact⟨k+1,by omega,by go_num,by go_grown⟩
    case measure=>simp [intOf];omega
  ·have h1: ¬(k:Int)<(n:Int):=by omega
   go_wp2_with fail
   go_ret;exact⟨rfl,hbel⟩
end Go.Proofs.YtbdhinckiccniaaGreatDoor
