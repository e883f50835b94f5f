import Derived.Test.YtekcnhfkmimodaaGreatDoorJe
import Derived.WideKeyEntry
import Derived.Test.YtekcnhfkmimodaaGreatDoorMn
set_option linter.unusedSimpArgs false
set_option linter.unusedVariables false
set_option maxHeartbeats 8000000
set_option maxRecDepth 100000
namespace Go.Proofs.YtekcnhfkmimodaaGreatDoor
open Go.RowKit
abbrev PL:=Int × Int
def Rc (G:PL→List PL) (a x:PL):Prop:= ∀T:PL→Prop,(∀y∈G a,T y)→(∀y,T y→ ∀z∈G y,T z)→T x
theorem Rc.base {G:PL→List PL} {a y:PL} (h:y∈G a):Rc G a y:=fun T h1 _=>h1 y h
theorem Rc.step {G:PL→List PL} {a y z:PL} (h:Rc G a y) (hz:z∈G y):Rc G a z:=fun T h1 h2=>h2 y (h T h1 h2) z hz
theorem Rc.trans {G:PL→List PL} {a y x:PL} (hy:y∈G a) (h:Rc G y x):Rc G a x:=fun T h1 h2=>h T (fun z hz=>h2 y (h1 y hy) z hz) h2
def lfP (U l:List PL):Nat:=U.countP (fun x=> !decide (x∈l))
theorem lfP_mono {U l:List PL} (x:PL):lfP U (l++ [x])≤lfP U l:=by
 unfold lfP;refine List.countP_mono_left (fun y _ hy=> ?_);simp only [Bool.not_eq_true',decide_eq_false_iff_not]at hy ⊢;exact fun h=>hy (List.mem_append_left _ h)
theorem lfP_add {U l:List PL} {x:PL} (hx:x∉l):x∈U→lfP U (l++ [x])+1≤lfP U l:=by
 induction U with
 | nil=>intro h;cases h
 | cons u U ih=>
  intro h;have hm:=lfP_mono (U:=U) (l:=l) x;unfold lfP at hm ih ⊢;rw [List.countP_cons,List.countP_cons];by_cases hu:u=x
  ·subst hu;have e1:(!decide (u∈l++ [u]))=false:=by simp
   have e2:(!decide (u∈l))=true:=by simpa using hx
   rw [e1,e2];simp only [Bool.false_eq_true,if_false,if_true];omega
  ·have hU:x∈U:=by
    rcases List.mem_cons.1 h with h | h
    ·exact absurd h.symm hu
    ·exact h
   have e:(!decide (u∈l++ [x]))=(!decide (u∈l)):=by simp [hu]
   rw [e];have:=ih hU;omega
def plL (C R:Nat→Int) (k:Nat):List PL:=(List.range k).map fun i=>(C i,R i)
theorem plL_len (C R:Nat→Int) (k:Nat):(plL C R k).length=k:=by simp [plL]
structure Wc (G:PL→List PL) (U:List PL) (n:Nat) (a:PL) (T:List PL) (i:Nat):Prop where
 base: ∀y∈G a,y∈T
 all: ∀y∈T,Rc G a y∧y∈U
 done: ∀j y,j<i→T[j]? =some y→y≠a∧ ∀z∈G y,z∈T
 len:T.length+lfP U T≤n
theorem Wc.start {G:PL→List PL} {U:List PL} {n:Nat} {a:PL} (h1: ∀y∈G a,y∈U) (h2:(G a).length+lfP U (G a)≤n):Wc G U n a (G a) 0:=
 ⟨fun _ h=>h,fun y h=>⟨Rc.base h,h1 y h⟩,fun j y hj=>absurd hj (Nat.not_lt_zero _),h2⟩
theorem Wc.add {G:PL→List PL} {U T:List PL} {n i:Nat} {a x z:PL} (h:Wc G U n a T i) (hx:x∈T) (hz:z∈G x) (hU:z∈U) (hn:z∉T) (hi:i≤T.length):Wc G U n a (T++ [z]) i:=by
 refine⟨fun y hy=>List.mem_append_left _ (h.base y hy),fun y hy=> ?_,fun j y hj e=> ?_,?_⟩
 ·rcases List.mem_append.1 hy with hy | hy
  ·exact h.all y hy
  ·rw [List.mem_singleton.1 hy];exact⟨(h.all x hx).1.step hz,hU⟩
 ·rw [List.getElem?_append_left (by omega)]at e;obtain⟨h1,h2⟩:=h.done j y hj e;exact⟨h1,fun z hz=>List.mem_append_left _ (h2 z hz)⟩
 ·have h1:=lfP_add hn hU;have h2:=h.len;rw [List.length_append,List.length_singleton];omega
theorem Wc.next {G:PL→List PL} {U T:List PL} {n i:Nat} {a x:PL} (h:Wc G U n a T i) (hx:T[i]? =some x) (hne:x≠a) (hG: ∀z∈G x,z∈T):Wc G U n a T (i+1):=
 ⟨h.base,h.all,fun j y hj e=>by
  by_cases hji:j=i
  ·subst hji;rw [hx]at e;cases e
   exact⟨hne,hG⟩
  ·exact h.done j y (by omega) e,h.len⟩
structure Vst (G:PL→List PL) (a:PL) (l l' xs:List PL):Prop where
 mono: ∀y∈l,y∈l'
 row: ∀y∈xs,y∈l'∧y≠a
 shut: ∀x∈l',x∉l→ ∀y∈G x,y∈l'∧y≠a
theorem Vst.nil {G:PL→List PL} {a:PL} (l:List PL):Vst G a l l []:=⟨fun _ h=>h,fun _ h=>(List.not_mem_nil h).elim,fun x h1 h2=>absurd h1 h2⟩
theorem Vst.skip {G:PL→List PL} {a y:PL} {l l1 xs:List PL} (h:Vst G a l l1 xs) (h1:y∈l1) (h2:y≠a):Vst G a l l1 (xs++ [y]):=
 ⟨h.mono,fun z hz=>by
  rcases List.mem_append.1 hz with hz | hz
  ·exact h.row z hz
  ·rw [List.mem_singleton.1 hz];exact⟨h1,h2⟩,h.shut⟩
theorem Vst.step {G:PL→List PL} {a y:PL} {l l1 l2 xs:List PL} (h:Vst G a l l1 xs) (hy:y≠a) (h2:Vst G a (l1++ [y]) l2 (G y)):Vst G a l l2 (xs++ [y]):=by
 have m1: ∀z∈l1,z∈l2:=fun z hz=>h2.mono z (List.mem_append_left _ hz);have my:y∈l2:=h2.mono y (List.mem_append_right _ (List.mem_singleton.2 rfl));refine⟨fun z hz=>m1 z (h.mono z hz),fun z hz=> ?_,fun x hx hl z hz=> ?_⟩
 ·rcases List.mem_append.1 hz with hz | hz
  ·exact⟨m1 z (h.row z hz).1,(h.row z hz).2⟩
  ·rw [List.mem_singleton.1 hz];exact⟨my,hy⟩
 ·by_cases h9:x∈l1
  ·obtain⟨h3,h4⟩:=h.shut x h9 hl z hz;exact⟨m1 z h3,h4⟩
  ·by_cases e:x=y
   ·subst e;exact h2.row z hz
   ·exact h2.shut x hx (fun h8=>by
     rcases List.mem_append.1 h8 with h8 | h8
     ·exact h9 h8
     ·exact e (List.mem_singleton.1 h8)) z hz
theorem RfR.kept {W W':World} {A:Option Addr} {n:Nat} {P:List PL} {row:Option Nat} (h:RfR W A n P) (hg:W.grownBy W' row) (hne: ∀b o,A=some ⟨b,o,none⟩→some b≠row):RfR W' A n P:=
 ⟨h.len,h.lim,fun i hi=>by
  obtain⟨b,o,e,hl,c0,c1⟩:=h.at_ i hi
  exact⟨b,o,e,Nat.lt_of_lt_of_le hl hg.size,hg.cell c0 (hne b o e),hg.cell c1 (hne b o e)⟩⟩
theorem getD_memP {P:List PL} {k:Nat} (hk:k<P.length):P.getD k (0,0)∈P:=by
 rw [List.getD_eq_getElem?_getD,List.getElem?_eq_getElem hk];exact List.getElem_mem _
theorem getD_atP {P:List PL} {k:Nat} (hk:k<P.length):P[k]? =some (P.getD k (0,0)):=by
 rw [List.getD_eq_getElem?_getD,List.getElem?_eq_getElem hk];rfl
theorem spec_l7Has {A:Option Addr} {n cap:Nat} {P:List PL} (p q:Int) (w:World) (h:RfR w A n P):
  Calls Tryz.prog 47 #[.slice A n cap,.agg #[.int .i64 p,.int .i64 q]] w fun e w'=>e= .returned (.bool (decide ((p,q)∈P)))∧Below w.heap.size w w':=by
 have HR:Hid (RfR w A n P):=h;have hn:=h.lim;unfold maxLen at hn;clear h;go_enter Tryz.func47,Tryz.ntmps47;go_wp2_with fail
 obtain⟨X,HX⟩: ∃X,Hid (w.alloc (.cells #[.int .i64 p,.int .i64 q] 30)=X):=⟨_,rfl⟩;rw [HX.out];have x0:X.cell? ⟨w.heap.size,0,none⟩=some (.int .i64 p):=by rw [←HX.out];simp
 have x1:X.cell? ⟨w.heap.size,1,none⟩=some (.int .i64 q):=by rw [←HX.out];simp
 have xl:w.heap.size<X.heap.size:=by rw [←HX.out];simp
 have BX:Hid (Below w.heap.size w X):=by show Below _ _ _;rw [←HX.out];exact(Below.refl _ _).alloc (Nat.le_refl _) _
 have HRX:=hd (HR.out.below BX.out);clear HX;go_loopw [5] (fun i wr=> ∃k:Nat,k≤n∧i= .int .i64 k∧(∀j,j<k→P.getD j (0,0)≠(p,q))∧Below X.heap.size X wr) (fun i _=>n-(intOf i).toNat)
 case atStart=>exact⟨0,Nat.zero_le _,rfl,fun j hj=>absurd hj (Nat.not_lt_zero _),Below.refl _ _⟩
 case round=>
  obtain⟨k,hk,rfl,hall,hbel⟩:=hrel;have HAL:Hid (∀j,j<k→P.getD j (0,0)≠(p,q)):=hall;have BL:Hid (Below X.heap.size X wr):=hbel;replace x0:=(hbel.cell (p:=⟨w.heap.size,0,none⟩) xl).trans x0;replace x1:=(hbel.cell (p:=⟨w.heap.size,1,none⟩) xl).trans x1;have xlw:=Nat.lt_of_lt_of_le xl hbel.size;clear hall
  by_cases hlt:k<n
  ·obtain⟨b,o,rfl,hl,c0,c1⟩:=HRX.out.at_ k hlt;rw [←hbel.cell (p:=⟨_,_,none⟩) hl]at c0 c1;have h0:(0:Int)≤(k:Int):=by omega
   have h1:(k:Int)<(n:Int):=by omega
   have HME:Hid (P.getD k (0,0)∈P):=getD_memP (by rw [HRX.out.len];exact hlt);obtain⟨x,HX⟩: ∃x,Hid (P.getD k (0,0)=x):=⟨_,rfl⟩;rw [HX.out]at c0 c1 HME;obtain⟨a1,a2⟩:=x;simp only at c0 c1;by_cases e1:a1=p
   ·by_cases e2:a2=q
    ·subst e1 e2;have HT:Hid (decide ((a1,a2)∈P)=true):=decide_eq_true HME.out;go_wp2_with fail
     go_region
     all_goals go_wp2_with fail
     all_goals
      go_ret;exact⟨Qb HT.out.symm,Qc BX.out (Qc BL.out (by go_grown))⟩
    ·have HNX:Hid (∀j,j<k+1→P.getD j (0,0)≠(p,q)):=fun j hj=>by
      by_cases e:j=k
      ·subst e;rw [HX.out];exact fun e=>e2 (congrArg Prod.snd e)
      ·exact HAL.out j (by omega)
     subst e1;have hne:(a2==q)=false:=by simpa using e2
     go_wp2_with fail
     go_region
     all_goals go_wp2_with fail
     all_goals
      go_roundw
      case rel=>exact⟨k+1,by omega,by go_num,HNX.out,Qc BL.out (by go_grown)⟩
      case measure=>simp [intOf];omega
   ·have HNX:Hid (∀j,j<k+1→P.getD j (0,0)≠(p,q)):=fun j hj=>by
     by_cases e:j=k
     ·subst e;rw [HX.out];exact fun e=>e1 (congrArg Prod.fst e)
     ·exact HAL.out j (by omega)
    have hne:(a1==p)=false:=by simpa using e1
    go_wp2_with fail
    go_region
    all_goals go_wp2_with fail
    all_goals
     go_roundw
     case rel=>exact⟨k+1,by omega,by go_num,HNX.out,Qc BL.out (by go_grown)⟩
     case measure=>simp [intOf];omega
  ·have h1: ¬(k:Int)<(n:Int):=by omega
   have HT:Hid (decide ((p,q)∈P)=false):=decide_eq_false (fun hm=>by
    obtain⟨j,hj,e⟩:=List.mem_iff_getElem.1 hm;refine HAL.out j (by have:=HRX.out.len;omega) ?_;rw [List.getD_eq_getElem?_getD,List.getElem?_eq_getElem hj]
    exact e)
   go_wp2_with fail
   go_ret;exact⟨Qb HT.out.symm,Qc BX.out hbel⟩
end Go.Proofs.YtekcnhfkmimodaaGreatDoor
namespace Go.Proofs.YtekcnhfkmimodaaGreatDoor
open Go.RowKit Go.Maps
open Go.ChangeMaps (setBlock)
theorem lawRef:WideMaps.KeyLaw Tryz.prog 30:=deep_law_laid Qh6 (m:=2) (by omega) Qe0 Ql4 Qf7
theorem zeroN (w:World):(zeroValue 3).run Tryz.prog w= .ok (.int .i64 0) w:=by kernel_rfl
theorem entry_more {H:Type} {P:Program} {w:World} {t k e:TypeId} {R:Value→Option (DataW H × List MemPlace)} {b:Nat} {es:Array MapEntry} {clock:Nat} (K:WideMaps.KeyLaw P k) (ht:P.underlying t=some (.map k e)) {z:Value} (hz: ∀u:World,(zeroValue e).run P u= .ok z u) (hb:w.heap[b]? =some (.map es clock)) (F:WideElems.Fit P k R es clock)
  {key:Value} {kl:Lit} (hkey:keyOf P k key=some kl):
  ∃(v0:Value) (st:Value) (w1:World),(Instr.mapEntry t (.map (some b)) key).run P w= .ok (.tuple #[v0,st]) w1∧(Instr.lookup t (.map (some b)) key false).run P w= .ok v0 w∧(Instr.mapUpdate t (.map (some b)) key v0).run P w= .ok () w1∧
   ∀(val:Value),∃w3,(Instr.entryStore t (.map (some b)) st val).run P w1= .ok () w3∧(Instr.mapUpdate t (.map (some b)) key val).run P w= .ok () w3:=by
 obtain⟨v0,st,es1,clock1,h1,h2,h3⟩:=WideElems.entry_then_store K ht hz hb F hkey;have hset: ∀(o o':Obj),setBlock (setBlock w b o) b o'=setBlock w b o':=fun o o'=>by simp [setBlock]
 have hbk:(setBlock w b (.map es1 clock1)).heap[b]? =some (.map es1 clock1):=ChangeMaps.heap_setBlock_same hb _
 have hst: ∀(val:Value),∃w3,(Instr.entryStore t (.map (some b)) (goInt st) val).run P (setBlock w b (.map es1 clock1))= .ok () w3∧(Instr.mapUpdate t (.map (some b)) key val).run P w= .ok () w3:=fun val=>by
  obtain⟨es',clock',s1,s2⟩:=h3 _ val hbk;exact⟨_,s1,by rw [s2,hset]⟩
 rcases K.find w hkey es.toList F.keys with⟨f1,f2⟩ | ⟨j,e0,f1,f2,f3⟩
 ·have m1:(Instr.mapEntry t (.map (some b)) key).run P w= .ok (.tuple #[z,goInt clock]) (setBlock w b (.map (es.push ⟨key,z,clock⟩) (clock+1))):=by
   simp [Instr.mapEntry,run_underlying ht,MapKept.run_getObj_map hb,K.check w false hkey,f1,hz,MapKept.run_setObj_map _ hb,Result.andThen,setBlock]
  have m2:=h1.symm.trans m1;injection m2 with m3 m4
  obtain rfl:v0=z:=by
   rcases h2 with⟨e9,he9,hk9,_⟩ | ⟨_,h9⟩
   ·exact absurd hk9 (f2 e9 he9)
   ·exact h9
  refine⟨v0,goInt st,_,h1,?_,?_,hst⟩
  ·simp [Instr.lookup,run_underlying ht,MapKept.run_getObj_map hb,K.check w _ hkey,f1,hz,Result.andThen]
  ·rw [m4];simp [Instr.mapUpdate,run_underlying ht,MapKept.run_getObj_map hb,K.check w false hkey,f1,MapKept.run_setObj_map _ hb,Result.andThen,setBlock]
 ·have hj:es[j]? =some e0:=by simpa using f2
  have hsame:es.modify j (fun e=>{e with key:=key})=es:=by
   apply Array.ext';rw [Array.toList_modify,ChangeMaps.modify_eq_set _ _ _ _ f2];have h9:({e0 with key:=key}:MapEntry)=e0:=by rw [←f3]
   rw [h9];exact WideElems.set_self _ _ _ f2
  have hsame2:es.modify j (fun e=>{e with key:=key,val:=e0.val})=es:=by
   apply Array.ext';rw [Array.toList_modify,ChangeMaps.modify_eq_set _ _ _ _ f2];have h9:({e0 with key:=key,val:=e0.val}:MapEntry)=e0:=by rw [←f3]
   rw [h9];exact WideElems.set_self _ _ _ f2
  have m1:(Instr.mapEntry t (.map (some b)) key).run P w= .ok (.tuple #[e0.val,goInt e0.born]) (setBlock w b (.map es clock)):=by
   simp [Instr.mapEntry,run_underlying ht,MapKept.run_getObj_map hb,K.check w false hkey,f1,hj,f3,K.stays w hkey,hsame,MapKept.run_setObj_map _ hb,Result.andThen,setBlock]
  have m2:=h1.symm.trans m1;injection m2 with m3 m4
  obtain rfl:v0=e0.val:=by
   have h9:=congrArg (fun v=>match v with | Value.tuple xs=>xs.toList.head? | _=>none) m3;simpa using h9
  refine⟨e0.val,goInt st,_,h1,?_,?_,hst⟩
  ·simp [Instr.lookup,run_underlying ht,MapKept.run_getObj_map hb,K.check w _ hkey,f1,Result.andThen]
  ·rw [m4];simp [Instr.mapUpdate,run_underlying ht,MapKept.run_getObj_map hb,K.check w false hkey,f1,hj,f3,K.stays w hkey,hsame2,MapKept.run_setObj_map _ hb,Result.andThen,setBlock]
theorem entry_own {H:Type} {P:Program} {w:World} {t k e:TypeId} {b n:Nat} {D:DataW H} (K:WideMaps.KeyLaw P k) (ht:P.underlying t=some (.map k e)) (he:P.underlying e=some (.int .i64)) (hz: ∀u:World,(zeroValue e).run P u= .ok (.int .i64 0) u)
  (hown:w.ownsMap P k (plainElem P e) b n D) (hn:n<maxLen) {key:Value} {kl:Lit} (hkey:keyOf P k key=some kl):
  ∃(c:Int) (st:Value) (w1:World),D.atKey kl (.lit (.int .i64 0))= .lit (.int .i64 c)∧(Instr.lookup t (.map (some b)) key false).run P w= .ok (.int .i64 c) w∧(Instr.mapEntry t (.map (some b)) key).run P w= .ok (.tuple #[.int .i64 c,st]) w1∧w.grownBy w1 (some b)∧
   (Instr.lookup t (.map (some b)) key false).run P w1= .ok (.int .i64 c) w1∧
   ∀v:Int,(Lit.int .i64 v).wf=true→ ∃w3,(Instr.entryStore t (.map (some b)) st (.int .i64 v)).run P w1= .ok () w3∧w3.ownsMap P k (plainElem P e) b (n+1) (D.put kl (.lit (.int .i64 v)))∧w.grownBy w3 (some b):=by
 have K':=Keyed.of_law K;obtain⟨c,hc,hat,hwc⟩:=hown.lookup_int K' ht he (hz w) hkey;have hD:IsMap D:=by obtain⟨es,clock,hb,F,hs,rfl⟩:=hown;exact⟨_,rfl⟩
 obtain⟨v0,st,w1,h1,h2,h3,h4⟩: ∃(v0:Value) (st:Value) (w1:World),(Instr.mapEntry t (.map (some b)) key).run P w= .ok (.tuple #[v0,st]) w1∧(Instr.lookup t (.map (some b)) key false).run P w= .ok v0 w∧(Instr.mapUpdate t (.map (some b)) key v0).run P w= .ok () w1∧
   ∀(val:Value),∃w3,(Instr.entryStore t (.map (some b)) st val).run P w1= .ok () w3∧(Instr.mapUpdate t (.map (some b)) key val).run P w= .ok () w3:=by
  obtain⟨es,clock,hb,F,hs,_⟩:=hown;exact entry_more K ht hz hb F hkey
 have e0:=h2.symm.trans hc;injection e0 with e1 _
 subst e1;obtain⟨u,hu,ho,hg⟩:=hown.update K' ht hn hkey (plainElem_int he hwc);have e2:=h3.symm.trans hu;injection e2 with _ e3
 subst e3;obtain⟨c2,hc2,hat2,_⟩:=ho.lookup_int K' ht he (hz w1) hkey;rw [atKey_put_same hD (K'.key hkey)]at hat2
 have e4:c=c2:=by
  injection hat2 with h9
  injection h9
 subst e4;refine⟨c,st,w1,hat,hc,h1,hg,hc2,fun v hv=> ?_⟩;obtain⟨w3,s1,s2⟩:=h4 (.int .i64 v);obtain⟨u3,hu3,ho3,hg3⟩:=hown.update K' ht hn hkey (plainElem_int he hv);have e5:=s2.symm.trans hu3;injection e5 with _ e6
 subst e6;exact⟨w3,s1,ho3,hg3⟩
def VsM (w:World) (vm t:Nat) (l:List PL):Prop:= ∃D:DataW Value,w.ownsMap Tryz.prog 30 (plainElem Tryz.prog 3) vm t D∧IsMap D∧
 ∀(x y:Int) (kl:Lit),keyOf Tryz.prog 30 (.agg #[.int .i64 x,.int .i64 y])=some kl→ ∃c:Int,D.atKey kl (.lit (.int .i64 0))= .lit (.int .i64 c)∧0≤c∧c≤(t:Int)∧(c=0↔(x,y)∉l)
theorem VsM.kept {w w':World} {vm t:Nat} {l:List PL} {row:Option Nat} (h:VsM w vm t l) (hg:w.grownBy w' row) (hr:some vm≠row):VsM w' vm t l:=by
 obtain⟨D,h1,h2,h3⟩:=h;exact⟨D,h1.kept hg hr,h2,h3⟩
theorem VsM.below {w w':World} {vm t:Nat} {l:List PL} (h:VsM w vm t l) (hb:Below w.heap.size w w'):VsM w' vm t l:=h.kept (row:=none) (Yx none hb) (by simp)
def bumpL (l:List PL) (y:PL):List PL:=if y∈l then l else l++ [y]
theorem bump_mem {l:List PL} {y z:PL}:z∈bumpL l y↔z∈l∨z=y:=by
 unfold bumpL;split
 ·rename_i h
  exact⟨Or.inl,fun h9=>h9.elim id (fun e=>e▸h)⟩
 ·rw [List.mem_append,List.mem_singleton]
theorem VsM.bump {w:World} {vm t:Nat} {l:List PL} (h:VsM w vm t l) (ht:t<1000000) {x y:Int} {kl:Lit} (hk:keyOf Tryz.prog 30 (.agg #[.int .i64 x,.int .i64 y])=some kl):
  ∃(c:Int) (st:Value) (w1 w3:World),(c=0↔(x,y)∉l)∧0≤c∧c≤(t:Int)∧(Instr.lookup 61 (.map (some vm)) (.agg #[.int .i64 x,.int .i64 y]) false).run Tryz.prog w= .ok (.int .i64 c) w∧(Instr.mapEntry 61 (.map (some vm)) (.agg #[.int .i64 x,.int .i64 y])).run Tryz.prog w= .ok (.tuple #[.int .i64 c,st]) w1∧w.grownBy w1 (some vm)∧
   (Instr.lookup 61 (.map (some vm)) (.agg #[.int .i64 x,.int .i64 y]) false).run Tryz.prog w1= .ok (.int .i64 c) w1∧(Instr.entryStore 61 (.map (some vm)) st (.int .i64 (c+1))).run Tryz.prog w1= .ok () w3∧w.grownBy w3 (some vm)∧VsM w3 vm (t+1) (bumpL l (x,y))∧
   (Instr.lookup 61 (.map (some vm)) (.agg #[.int .i64 x,.int .i64 y]) false).run Tryz.prog w3= .ok (.int .i64 (c+1)) w3:=by
 obtain⟨D,h1,h2,h3⟩:=h;obtain⟨c,st,w1,e1,r1,r2,g1,r3,r4⟩:=entry_own lawRef Tryz.underlying61 Tryz.underlying3 zeroN h1 (by unfold maxLen;omega) hk;obtain⟨c',e2,hc0,hct,hcl⟩:=h3 x y kl hk
 have e3:c=c':=by
  rw [e1]at e2;injection e2 with h9
  injection h9
 subst e3;obtain⟨w3,r5,ho,g3⟩:=r4 (c+1) (WalkArith.wf_i64 (by omega));obtain⟨c2,r6,e6,_⟩:=ho.lookup_int keyedRef Tryz.underlying61 Tryz.underlying3 (zeroN w3) hk;rw [atKey_put_same h2 (keyedRef.key hk)]at e6
 have e7:c+1=c2:=by
  injection e6 with h9
  injection h9
 subst e7;refine⟨c,st,w1,w3,hcl,hc0,hct,r1,r2,g1,r3,r5,g3,⟨_,ho,?_,fun x' y' kl' hk'=> ?_⟩,r6⟩
 ·obtain⟨es,rfl⟩:=h2;exact⟨_,rfl⟩
 ·by_cases e:kl'=kl
  ·subst e;have h9:=keyedRef.inj hk' hk;simp at h9;obtain⟨rfl,rfl⟩:=h9;refine⟨c+1,by rw [atKey_put_same h2 (keyedRef.key hk)],by omega,by omega,fun h8=>absurd h8 (by omega),fun h8=>absurd (bump_mem.2 (Or.inr rfl)) h8⟩
  ·obtain⟨c8,e8,q1,q2,q3⟩:=h3 x' y' kl' hk';refine⟨c8,by rw [atKey_put_other e];exact e8,q1,by omega,?_⟩;rw [q3,bump_mem]
   have hne:(x',y')≠(x,y):=fun h9=>e (by
    injection h9 with a b
    subst a b;rw [hk]at hk'
    exact(Option.some.inj hk').symm)
   exact⟨fun h9 h8=>h8.elim h9 hne,fun h9 h8=>h9 (Or.inl h8)⟩
end Go.Proofs.YtekcnhfkmimodaaGreatDoor
namespace Go.Proofs.YtekcnhfkmimodaaGreatDoor
open Go.RowKit Go.Maps
structure CoI (W0:World) (bl bv ba bc lm vm:Nat) (p q:Int) (w:World):Prop where
 cl:w.cell? ⟨bl,0,none⟩=some (.map (some lm))
 cv:w.cell? ⟨bv,0,none⟩=some (.map (some vm))
 c0:w.cell? ⟨ba,0,none⟩=some (.int .i64 p)
 c1:w.cell? ⟨ba,1,none⟩=some (.int .i64 q)
 cn:w.cell? ⟨bc,0,none⟩=some (.func (.func 48) #[] #[.pointer (some ⟨bl,0,none⟩),.pointer (some ⟨bv,0,none⟩),.pointer (some ⟨ba,0,none⟩),.pointer (some ⟨bc,0,none⟩)])
 be:Below W0.heap.size W0 w
theorem cyC {W w':World} {b o:Nat} {x:Value} (hb:Below W.heap.size W w') (c:W.cell? ⟨b,o,none⟩=some x):w'.cell? ⟨b,o,none⟩=some x:=
 (hb.cell (p:=⟨b,o,none⟩) (World.block_lt_of_cell? W ⟨b,o,none⟩ c)).trans c
theorem CoI.below {W0:World} {bl bv ba bc lm vm:Nat} {p q:Int} {w w':World} (h:CoI W0 bl bv ba bc lm vm p q w) (hb:Below w.heap.size w w'):CoI W0 bl bv ba bc lm vm p q w':=
 ⟨cyC hb h.cl,cyC hb h.cv,cyC hb h.c0,cyC hb h.c1,cyC hb h.cn,h.be.trans (hb.mono h.be.size)⟩
theorem cell_off {W w':World} {b o vm:Nat} {x:Value} (hg:W.grownBy w' (some vm)) (hne:b≠vm) (c:W.cell? ⟨b,o,none⟩=some x):w'.cell? ⟨b,o,none⟩=some x:=hg.cell c (fun e=>hne (Option.some.inj e))
theorem CoI.grown {W0:World} {bl bv ba bc lm vm:Nat} {p q:Int} {w w':World} (h:CoI W0 bl bv ba bc lm vm p q w) (hg:w.grownBy w' (some vm)) (hl:bl≠vm) (hv:bv≠vm) (ha:ba≠vm) (hc:bc≠vm) (h0:W0.heap.size≤vm):CoI W0 bl bv ba bc lm vm p q w':=
 ⟨cell_off hg hl h.cl,cell_off hg hv h.cv,cell_off hg ha h.c0,cell_off hg ha h.c1,cell_off hg hc h.cn,h.be.grown hg h.be.size (fun j hj=>by cases hj;exact h0)⟩
theorem take_at {xs:List PL} {k:Nat} (hk:k<xs.length):xs.take (k+1)=xs.take k++ [xs.getD k (0,0)]:=by rw [List.take_add_one,getD_atP hk];rfl
theorem lfP_le (U l:List PL):lfP U l≤U.length:=List.countP_le_length
theorem ref_wfC {p q:Int} (h:Qm p q=true):(Lit.int .i64 p).wf=true∧(Lit.int .i64 q).wf=true:=by
 have hb:IntKind.i64.min= -9223372036854775808∧IntKind.i64.max=9223372036854775807:=⟨by kernel_rfl,by kernel_rfl⟩;simp only [Qm,Bool.and_eq_true,decide_eq_true_eq]at h;simp only [Lit.wf,hb.1,hb.2,Bool.and_eq_true,decide_eq_true_eq];omega
theorem pl_wf {C R:Nat→Int} {S:Nat→ByteArray} {n:Nat} (h:Zg C R S n=true): ∀u∈plL C R n,(Lit.int .i64 u.1).wf=true∧(Lit.int .i64 u.2).wf=true:=fun u hu=>by
 obtain⟨i,hi,rfl⟩:=List.mem_map.1 hu;exact ref_wfC (Qc6 (Vf h).2 i (List.mem_range.1 hi))
end Go.Proofs.YtekcnhfkmimodaaGreatDoor
namespace Go.Proofs.YtekcnhfkmimodaaGreatDoor
open Go.RowKit
def hL (C R:Nat→Int) (S:Nat→ByteArray) (x:PL):Nat→List PL
 | 0=> []
 | k+1=>hL C R S x k++if(lnA (S k)).any (YF x.1 x.2)=true then [(C k,R k)]else []
theorem hL_no {C R:Nat→Int} {S:Nat→ByteArray} {x:PL} {k:Nat} (h:(lnA (S k)).any (YF x.1 x.2)=false):hL C R S x (k+1)=hL C R S x k:=by rw [hL,if_neg (by rw [h];decide),List.append_nil]
theorem hL_yes {C R:Nat→Int} {S:Nat→ByteArray} {x:PL} {k:Nat} (h:(lnA (S k)).any (YF x.1 x.2)=true):hL C R S x (k+1)=hL C R S x k++ [(C k,R k)]:=by rw [hL,if_pos h]
theorem hL_mem {C R:Nat→Int} {S:Nat→ByteArray} {x y:PL}: ∀{k:Nat},y∈hL C R S x k↔ ∃i,i<k∧y=(C i,R i)∧(lnA (S i)).any (YF x.1 x.2)=true
 | 0=>⟨fun h=>(List.not_mem_nil h).elim,fun⟨i,h,_⟩=>absurd h (Nat.not_lt_zero _)⟩
 | k+1=>by
  rw [hL,List.mem_append,hL_mem];constructor
  ·rintro(⟨i,h1,h2,h3⟩ | h)
   ·exact⟨i,by omega,h2,h3⟩
   ·split at h
    ·rename_i h9
     exact⟨k,by omega,List.mem_singleton.1 h,h9⟩
    ·exact(List.not_mem_nil h).elim
  ·rintro⟨i,h1,h2,h3⟩;by_cases e:i=k
   ·subst e;right;rw [if_pos h3];exact List.mem_singleton.2 h2
   ·exact Or.inl ⟨i,by omega,h2,h3⟩
def Rt (H:PL→List PL) (xs:List PL) (x:PL):Prop:= ∀T:PL→Prop,(∀y∈xs,T y)→(∀y,T y→ ∀z∈H y,T z)→T x
theorem Rt.base {H:PL→List PL} {xs:List PL} {y:PL} (h:y∈xs):Rt H xs y:=fun T h1 _=>h1 y h
theorem Rt.step {H:PL→List PL} {xs:List PL} {y z:PL} (h:Rt H xs y) (hz:z∈H y):Rt H xs z:=fun T h1 h2=>h2 y (h T h1 h2) z hz
theorem Rt.mono {H:PL→List PL} {xs ys:List PL} {x:PL} (hs: ∀y∈xs,y∈ys) (h:Rt H xs x):Rt H ys x:=fun T h1 h2=>h T (fun y hy=>h1 y (hs y hy)) h2
theorem Rt.from {H:PL→List PL} {a x:PL} (h:Rt H (H a) x):Rt H [a] x:=fun T h1 h2=>h T (fun y hy=>h2 a (h1 a (List.mem_singleton.2 rfl)) y hy) h2
structure Tw (H:PL→List PL) (U:List PL) (N:Nat) (rs T:List PL):Prop where
 base: ∀r∈rs,r∈T
 all: ∀y∈T,Rt H rs y
 len:T.length+lfP U T≤N
theorem Tw.start {H:PL→List PL} {U rs:List PL}:Tw H U (rs.length+U.length) rs rs:=⟨fun _ h=>h,fun _ h=>Rt.base h,Nat.add_le_add_left List.countP_le_length _⟩
theorem Tw.add {H:PL→List PL} {U rs T:List PL} {N:Nat} {x z:PL} (h:Tw H U N rs T) (hx:x∈T) (hz:z∈H x) (hU:z∈U) (hn:z∉T):Tw H U N rs (T++ [z]):=by
 refine⟨fun r hr=>List.mem_append_left _ (h.base r hr),fun y hy=> ?_,?_⟩
 ·rcases List.mem_append.1 hy with hy | hy
  ·exact h.all y hy
  ·rw [List.mem_singleton.1 hy];exact(h.all x hx).step hz
 ·have h1:=lfP_add hn hU;have h2:=h.len;rw [List.length_append,List.length_singleton];omega
def Ps (C R:Nat→Int) (S:Nat→ByteArray) (T:List PL) (i:Nat):Prop:= ∀j,j<i→(C j,R j)∈T∨ ∀y∈T,(lnA (S j)).any (YF y.1 y.2)=false
theorem Ps.shut {C R:Nat→Int} {S:Nat→ByteArray} {T:List PL} {n:Nat} (h:Ps C R S T n): ∀y∈T,∀z∈hL C R S y n,z∈T:=fun y hy z hz=>by
 obtain⟨i,h1,rfl,h3⟩:=hL_mem.1 hz;rcases h i h1 with h4 | h4
 ·exact h4
 ·rw [h4 y hy]at h3;cases h3
theorem Tw.iff {H:PL→List PL} {U rs T:List PL} {N:Nat} (h:Tw H U N rs T) (hs: ∀y∈T,∀z∈H y,z∈T) (x:PL):x∈T↔Rt H rs x:=⟨h.all x,fun hr=>hr (fun y=>y∈T) h.base hs⟩
def tcL (C R:Nat→Int) (P:PL→Bool):Nat→List PL
 | 0=> []
 | k+1=>tcL C R P k++if P (C k,R k)=true then [(C k,R k)]else []
theorem tcL_len (C R:Nat→Int) (P:PL→Bool): ∀k,(tcL C R P k).length≤k
 | 0=>Nat.le_refl _
 | k+1=>by have:=tcL_len C R P k;rw [tcL,List.length_append];split<;>simp<;>omega
structure Ts (H:PL→List PL) (l l' xs:List PL):Prop where
 mono: ∀y∈l,y∈l'
 row: ∀y∈xs,y∈l'
 shut: ∀x∈l',x∉l→ ∀z∈H x,z∈l'
 come: ∀x∈l',x∉l→Rt H xs x
theorem Ts.nil {H:PL→List PL} (l:List PL):Ts H l l []:=⟨fun _ h=>h,fun _ h=>(List.not_mem_nil h).elim,fun x h1 h2=>absurd h1 h2,fun x h1 h2=>absurd h1 h2⟩
theorem Ts.old {H:PL→List PL} {l:List PL} {y:PL} (h:y∈l):Ts H l l [y]:=⟨fun _ h=>h,fun z hz=>by rw [List.mem_singleton.1 hz];exact h,fun x h1 h2=>absurd h1 h2,fun x h1 h2=>absurd h1 h2⟩
theorem Ts.step {H:PL→List PL} {l l1 l2 xs:List PL} {y:PL} (h:Ts H l l1 xs) (h2:Ts H l1 l2 [y]):Ts H l l2 (xs++ [y]):=by
 refine⟨fun z hz=>h2.mono z (h.mono z hz),fun z hz=> ?_,fun x hx hl z hz=> ?_,fun x hx hl=> ?_⟩
 ·rcases List.mem_append.1 hz with hz | hz
  ·exact h2.mono z (h.row z hz)
  ·exact h2.row z hz
 ·by_cases h9:x∈l1
  ·exact h2.mono z (h.shut x h9 hl z hz)
  ·exact h2.shut x hx h9 z hz
 ·by_cases h9:x∈l1
  ·exact(h.come x h9 hl).mono (fun y hy=>List.mem_append_left _ hy)
  ·exact(h2.come x hx h9).mono (fun y hy=>List.mem_append_right _ hy)
theorem Ts.new {H:PL→List PL} {l l':List PL} {a:PL} (h:Ts H (l++ [a]) l' (H a)):Ts H l l' [a]:=by
 have ha:a∈l':=h.mono a (List.mem_append_right _ (List.mem_singleton.2 rfl))
 have hno: ∀x,x∉l→x≠a→x∉l++ [a]:=fun x h1 h2 h3=>by
  rcases List.mem_append.1 h3 with h3 | h3
  ·exact h1 h3
  ·exact h2 (List.mem_singleton.1 h3)
 refine⟨fun y hy=>h.mono y (List.mem_append_left _ hy),fun y hy=>by rw [List.mem_singleton.1 hy];exact ha,fun x hx hl z hz=> ?_,fun x hx hl=> ?_⟩
 ·by_cases e:x=a
  ·subst e;exact h.row z hz
  ·exact h.shut x hx (hno x hl e) z hz
 ·by_cases e:x=a
  ·subst e;exact Rt.base (List.mem_singleton.2 rfl)
  ·exact(h.come x hx (hno x hl e)).from
theorem Ts.iff {H:PL→List PL} {l' rs:List PL} (h:Ts H [] l' rs) (x:PL):x∈l'↔Rt H rs x:=
 ⟨fun hx=>h.come x hx (fun h=>(List.not_mem_nil h).elim),fun hr=>hr (fun y=>y∈l') h.row (fun y hy z hz=>h.shut y hy (fun h=>(List.not_mem_nil h).elim) z hz)⟩
end Go.Proofs.YtekcnhfkmimodaaGreatDoor
namespace Go.Proofs.YtekcnhfkmimodaaGreatDoor
open Go.RowKit Go.Maps
def LkA (W0:World) (lm:Nat) (C R:Nat→Int) (S:Nat→ByteArray) (n:Nat):Prop:= ∀i,i<n→ ∀l:Lit,keyOf Tryz.prog 30 (.agg #[.int .i64 (C i),.int .i64 (R i)])=some l→ ∃v F z c,(∀w',Below W0.heap.size W0 w'→(Instr.lookup 55 (.map (some lm)) (.agg #[.int .i64 (C i),.int .i64 (R i)]) false).run Tryz.prog w'= .ok v w')∧
 (∀w',(Instr.field 53 v 1).run Tryz.prog w'= .ok (.slice F z c) w')∧ArR W0 F z (lnA (S i))
structure RoI (W0:World) (bl bv bs bc lm vm:Nat) (sl:Value) (w:World):Prop where
 cv:w.cell? ⟨bv,0,none⟩=some (.map (some vm))
 cs:w.cell? ⟨bs,0,none⟩=some sl
 cl:w.cell? ⟨bl,0,none⟩=some (.map (some lm))
 cn:w.cell? ⟨bc,0,none⟩=some (.func (.func 49) #[] #[.pointer (some ⟨bv,0,none⟩),.pointer (some ⟨bs,0,none⟩),.pointer (some ⟨bl,0,none⟩),.pointer (some ⟨bc,0,none⟩)])
 be:Below W0.heap.size W0 w
structure RoN (W0:World) (bl bv bs bc vm:Nat):Prop where
 l:bl≠vm
 v:bv≠vm
 s:bs≠vm
 c:bc≠vm
 z:W0.heap.size≤vm
theorem RoI.grown {W0:World} {bl bv bs bc lm vm:Nat} {sl:Value} {w w':World} (h:RoI W0 bl bv bs bc lm vm sl w) (hg:w.grownBy w' (some vm)) (hn:RoN W0 bl bv bs bc vm):RoI W0 bl bv bs bc lm vm sl w':=
 ⟨cell_off hg hn.v h.cv,cell_off hg hn.s h.cs,cell_off hg hn.l h.cl,cell_off hg hn.c h.cn,h.be.grown hg h.be.size (fun j hj=>by cases hj;exact hn.z)⟩
def RcP (H:PL→List PL) (U:List PL) (vm:Nat) (x y:Int) (l:List PL) (t:Nat) (w:World) (e:Ending) (w':World):Prop:=e= .returned (.tuple #[])∧ ∃(l':List PL) (t':Nat),w.grownBy w' (some vm)∧VsM w' vm t' l'∧lfP U l'≤lfP U l∧t'+121*lfP U l'≤t+1+121*lfP U l∧Ts H l l' [(x,y)]
def RcC (H:PL→List PL) (U:List PL) (W0:World) (bl bv bs bc lm vm:Nat) (sl:Value) (m:Nat):Prop:=
 ∀(w:World) (x y:Int) (l:List PL) (t:Nat),(Lit.int .i64 x).wf=true→(Lit.int .i64 y).wf=true→(x,y)∈U→RoI W0 bl bv bs bc lm vm sl w→VsM w vm t l→lfP U l≤m→t+1+121*lfP U l≤100000→
  Calls Tryz.prog 49 #[.agg #[.int .i64 x,.int .i64 y],.pointer (some ⟨bv,0,none⟩),.pointer (some ⟨bs,0,none⟩),.pointer (some ⟨bl,0,none⟩),.pointer (some ⟨bc,0,none⟩)] w (RcP H U vm x y l t w)
theorem reach_step {U:List PL} {W0:World} {bl bv bs bc lm vm m:Nat} {A:Option Addr} {n cap:Nat} {C R:Nat→Int} {S:Nat→ByteArray} (hR:ClRow W0 A n C R S) (hn:n≤120) (hU: ∀i,i<n→(C i,R i)∈U∧(Lit.int .i64 (C i)).wf=true∧(Lit.int .i64 (R i)).wf=true)
  (hM:LkA W0 lm C R S n) (hne:RoN W0 bl bv bs bc vm) (ih: ∀m',m'<m→RcC (fun x=>hL C R S x n) U W0 bl bv bs bc lm vm (.slice A n cap) m'):RcC (fun x=>hL C R S x n) U W0 bl bv bs bc lm vm (.slice A n cap) m:=by
 intro w x y l t hx hy hxu hI hV hm ht;obtain⟨H,HH⟩: ∃H:PL→List PL,Hid ((fun x=>hL C R S x n)=H):=⟨_,rfl⟩;rw [HH.out]at ih ⊢;have HHE:Hid (H (x,y)=hL C R S (x,y) n):=by rw [←HH.out];exact rfl
 have HR:Hid (ClRow W0 A n C R S):=hR;have HU:Hid (∀i,i<n→(C i,R i)∈U∧(Lit.int .i64 (C i)).wf=true∧(Lit.int .i64 (R i)).wf=true):=hU;have HM:Hid (LkA W0 lm C R S n):=hM;have HNE:Hid (RoN W0 bl bv bs bc vm):=hne;have IH:Hid (∀m',m'<m→RcC H U W0 bl bv bs bc lm vm (.slice A n cap) m'):=ih;have HI:Hid (RoI W0 bl bv bs bc lm vm (.slice A n cap) w):=hI;have HV:Hid (VsM w vm t l):=hV
 have HMT:Hid (lfP U l≤m∧t+1+121*lfP U l≤100000):=⟨hm,ht⟩;have HXU:Hid ((x,y)∈U):=hxu;have ht9:t<1000000:=by omega
 obtain⟨kx,hkx⟩:=ET x y hx hy;have HKX:Hid (keyOf Tryz.prog 30 (.agg #[.int .i64 x,.int .i64 y])=some kx):=hkx;clear hR hU hM hne ih hI hV hm ht hx hy hxu hkx;go_enter Tryz.func49,Tryz.ntmps49;go_upto_region 1 with fail
 obtain⟨g,HG⟩: ∃g,Hid (w.heap.size=g):=⟨_,rfl⟩;obtain⟨X,HX⟩: ∃X,Hid (w.alloc (.cells #[.int .i64 x,.int .i64 y] 30)=X):=⟨_,rfl⟩;rw [HX.out,HG.out];have s1:X.cell? ⟨g,0,none⟩=some (.int .i64 x):=by rw [←HX.out,←HG.out];simp
 have s2:X.cell? ⟨g,1,none⟩=some (.int .i64 y):=by rw [←HX.out,←HG.out];simp
 have hbX:Below w.heap.size w X:=by rw [←HX.out];exact(Below.refl _ _).alloc (Nat.le_refl _) _
 have GX:Hid (w.grownBy X (some vm)):=Yx _ hbX;have IX:=hd (HI.out.grown GX.out HNE.out)
 have HGV:Hid (g≠vm):=by
  show g≠vm;intro e;obtain⟨D,hm,_⟩:=HV.out;obtain⟨es,ck,hb,_⟩:=hm;have:=(Array.getElem?_eq_some_iff.1 hb).1;have h9:=HG.out;omega
 have hVd:VsM X.drew vm t l:=(HV.out.below hbX).below (Below.refl _ _).drew;obtain⟨cc,st,w1,w3,hcl,hc0,hct,r1,r2,g1,r3,r4,g3,hV3,r5⟩:=hVd.bump ht9 HKX.out;have s0:X.drew.cell? ⟨bv,0,none⟩=some (.map (some vm)):=IX.out.cv;have t0:=cell_off g1 HNE.out.v s0;have t1:=cell_off g1 HGV.out (show X.drew.cell? ⟨g,0,none⟩=some (.int .i64 x)from s1);have t2:=cell_off g1 HGV.out (show X.drew.cell? ⟨g,1,none⟩=some (.int .i64 y)from s2);have z0:=cell_off g3 HNE.out.v s0
 have z1:=cell_off g3 HGV.out (show X.drew.cell? ⟨g,0,none⟩=some (.int .i64 x)from s1);have z2:=cell_off g3 HGV.out (show X.drew.cell? ⟨g,1,none⟩=some (.int .i64 y)from s2);have ZG:Hid (X.grownBy w3 (some vm)):=⟨g3.os,g3.tape,g3.output,g3.size,g3.block⟩;have ZV:Hid (VsM w3 vm (t+1) (bumpL l (x,y))):=hV3;have RZ:Hid ((Instr.lookup 61 (.map (some vm)) (.agg #[.int .i64 x,.int .i64 y]) false).run Tryz.prog w3= .ok (.int .i64 (cc+1)) w3):=r5;have HCL:Hid (cc=0↔(x,y)∉l):=hcl;have hwr:IntKind.i64.wrap (cc+1)=cc+1:=by rw [IntKind.wrap_i64];omega
 have HC0:Hid (0≤cc):=hc0;clear hVd hV3 r5 hcl g1 g3 hbX;go_cut [10] (fun v wx=> ∃w9,w9=wx∧X.grownBy w9 (some vm)∧VsM w9 vm (t+1) (bumpL l (x,y))∧(Instr.lookup 61 (.map (some vm)) (.agg #[.int .i64 x,.int .i64 y]) false).run Tryz.prog w9= .ok (.int .i64 (cc+1)) w9)
 case first=>
  refine wp_region_held_drew (S:=fun w'=>w'.cell? ⟨bv,0,none⟩=some (.map (some vm))∧w'.cell? ⟨g,0,none⟩=some (.int .i64 x)∧w'.cell? ⟨g,1,none⟩=some (.int .i64 y)) (by kernel_rfl) ⟨s0,s1,s2⟩ (fun hHeld=> ?_);refine tjA 0 ?_ rfl (by kernel_rfl) (by rfl) ?_ ?_;rotate_left
  ·(intro wq hSw;obtain⟨hq0,hq1,hq2⟩:=hSw;go_simp<;>with_reducible rfl)
  try simp only [Act.put,List.getElem_toArray,List.getElem_cons_zero,List.getElem_cons_succ,List.setIfInBounds_toArray,List.set_cons_zero,List.set_cons_succ]
  refine tjA 1 ?_ rfl (by kernel_rfl) (by rfl) ?_ ?_;rotate_left
  ·(intro wq hSw;obtain⟨hq0,hq1,hq2⟩:=hSw;go_simp<;>with_reducible rfl)
  try simp only [Act.put,List.getElem_toArray,List.getElem_cons_zero,List.getElem_cons_succ,List.setIfInBounds_toArray,List.set_cons_zero,List.set_cons_succ]
  refine rqB 2 4 (fun Kq hKq=> ?_) (fun Kq hKq=> ?_)
  ·go_simp;refine hKq.out _ _ ?_ (fun hHeld=> ?_)
   ·exact⟨s0,s1,s2⟩
   clear hKq Kq;try simp only [Act.put,List.getElem_toArray,List.getElem_cons_zero,List.getElem_cons_succ,List.setIfInBounds_toArray,List.set_cons_zero,List.set_cons_succ]
   refine tjA 3 ?_ rfl (by kernel_rfl) (by rfl) ?_ ?_;rotate_left
   ·(intro wq hSw;obtain⟨hq0,hq1,hq2⟩:=hSw;go_simp<;>with_reducible rfl)
   try simp only [Act.put,List.getElem_toArray,List.getElem_cons_zero,List.getElem_cons_succ,List.setIfInBounds_toArray,List.set_cons_zero,List.set_cons_succ]
   refine rqA 4 (fun Kq hKq=> ?_);go_simp;refine hKq.out _ _ ?_ (fun hHeld=> ?_)
   ·exact⟨t0,t1,t2⟩
   clear hKq Kq;try simp only [Act.put,List.getElem_toArray,List.getElem_cons_zero,List.getElem_cons_succ,List.setIfInBounds_toArray,List.set_cons_zero,List.set_cons_succ]
   refine tjA 5 ?_ rfl (by kernel_rfl) (by rfl) ?_ ?_;rotate_left
   ·(intro wq hSw;obtain⟨hq0,hq1,hq2⟩:=hSw;go_simp<;>with_reducible rfl)
   try simp only [Act.put,List.getElem_toArray,List.getElem_cons_zero,List.getElem_cons_succ,List.setIfInBounds_toArray,List.set_cons_zero,List.set_cons_succ]
   refine rqA 6 (fun Kq hKq=> ?_);go_simp;refine hKq.out _ _ ?_ (fun hHeld=> ?_)
   ·exact⟨z0,z1,z2⟩
   clear hKq Kq;try simp only [Act.put,List.getElem_toArray,List.getElem_cons_zero,List.getElem_cons_succ,List.setIfInBounds_toArray,List.set_cons_zero,List.set_cons_succ]
   refine wpAnyH_done (by kernel_rfl) ?_ _;go_wp2_with fail
   go_meet;exact⟨w3,rfl,ZG.out,ZV.out,RZ.out⟩
  ·go_simp;refine hKq.out _ _ ?_ (fun hHeld=> ?_)
   ·exact⟨t0,t1,t2⟩
   clear hKq Kq;try simp only [Act.put,List.getElem_toArray,List.getElem_cons_zero,List.getElem_cons_succ,List.setIfInBounds_toArray,List.set_cons_zero,List.set_cons_succ]
   refine tjA 5 ?_ rfl (by kernel_rfl) (by rfl) ?_ ?_;rotate_left
   ·(intro wq hSw;obtain⟨hq0,hq1,hq2⟩:=hSw;go_simp<;>with_reducible rfl)
   try simp only [Act.put,List.getElem_toArray,List.getElem_cons_zero,List.getElem_cons_succ,List.setIfInBounds_toArray,List.set_cons_zero,List.set_cons_succ]
   refine rqA 2 (fun Kq hKq=> ?_);go_simp;refine hKq.out _ _ ?_ (fun hHeld=> ?_)
   ·exact⟨t0,t1,t2⟩
   clear hKq Kq;try simp only [Act.put,List.getElem_toArray,List.getElem_cons_zero,List.getElem_cons_succ,List.setIfInBounds_toArray,List.set_cons_zero,List.set_cons_succ]
   refine tjA 3 ?_ rfl (by kernel_rfl) (by rfl) ?_ ?_;rotate_left
   ·(intro wq hSw;obtain⟨hq0,hq1,hq2⟩:=hSw;go_simp<;>with_reducible rfl)
   try simp only [Act.put,List.getElem_toArray,List.getElem_cons_zero,List.getElem_cons_succ,List.setIfInBounds_toArray,List.set_cons_zero,List.set_cons_succ]
   refine rqA 6 (fun Kq hKq=> ?_);go_simp;refine hKq.out _ _ ?_ (fun hHeld=> ?_)
   ·exact⟨z0,z1,z2⟩
   clear hKq Kq;try simp only [Act.put,List.getElem_toArray,List.getElem_cons_zero,List.getElem_cons_succ,List.setIfInBounds_toArray,List.set_cons_zero,List.set_cons_succ]
   refine wpAnyH_done (by kernel_rfl) ?_ _;go_wp2_with fail
   go_meet;exact⟨w3,rfl,ZG.out,ZV.out,RZ.out⟩
 case rest=>
  obtain⟨w9,rfl,hG9,hV9,hlk⟩:=hcut;have G9:Hid (X.grownBy w9 (some vm)):=hG9;have V9:Hid (VsM w9 vm (t+1) (bumpL l (x,y))):=hV9;have I9:=hd (IX.out.grown hG9 HNE.out);have cv:=I9.out.cv;have f0:=cell_off hG9 HGV.out s1;have f1:=cell_off hG9 HGV.out s2
  clear hG9 hV9 s0 t0 t1 t2 z0 z1 z2 r1 r2 r3 r4 ZG ZV RZ;by_cases hin:(x,y)∈l
  ·have hcn:1<cc+1:=by
    have h9:cc≠0:=fun e=>(HCL.out.1 e) hin;omega
   have HBE:Hid (bumpL l (x,y)=l):=by show _=_;unfold bumpL;rw [if_pos hin]
   have HOL:Hid (Ts H l l [(x,y)]):=Ts.old hin;have V9':Hid (VsM w9 vm (t+1) l):=by have h9:=V9.out;rw [HBE.out]at h9;exact h9
   have GW:Hid (w.grownBy w9 (some vm)):=QV GX.out G9.out;clear hin V9;go_wp2_with fail
   go_returns
   exact⟨rfl,l,t+1,GW.out,V9'.out,Nat.le_refl _,Nat.le_refl _,HOL.out⟩
  ·have hcc:cc=0:=HCL.out.2 hin;subst hcc;have HBE:Hid (bumpL l (x,y)=l++ [(x,y)]):=by show _=_;unfold bumpL;rw [if_neg hin]
   have HLA:Hid (lfP U (l++ [(x,y)])+1≤lfP U l):=lfP_add hin HXU.out;have V9':Hid (VsM w9 vm (t+1) (l++ [(x,y)])):=by have h9:=V9.out;rw [HBE.out]at h9;exact h9
   have cs:=I9.out.cs;clear hin V9 hwr;go_wp2_with fail
   go_loopw [20] (fun i wr=> ∃(k:Nat) (l1:List PL) (t1:Nat),k≤n∧i= .int .i64 k∧w9.grownBy wr (some vm)∧VsM wr vm t1 l1∧lfP U l1≤lfP U (l++ [(x,y)])∧t1+121*lfP U l1+(n-k)≤t+1+121*lfP U (l++ [(x,y)])+n∧Ts H (l++ [(x,y)]) l1 (hL C R S (x,y) k)) (fun i _=>n-(intOf i).toNat)
   case atStart=>exact⟨0,l++ [(x,y)],t+1,Nat.zero_le _,rfl,World.grownBy.refl _ _,V9'.out,Nat.le_refl _,by omega,Ts.nil _⟩
   case round=>
    clear cv cs hlk s1 s2;obtain⟨k,l1,t1,hk,rfl,hg1,hV1,hle,ht1,hts⟩:=hrel;have G1:Hid (w9.grownBy wr (some vm)):=hg1;have I1:=hd (I9.out.grown hg1 HNE.out);have V1:Hid (VsM wr vm t1 l1):=hV1;have LT:Hid (lfP U l1≤lfP U (l++ [(x,y)])∧t1+121*lfP U l1+(n-k)≤t+1+121*lfP U (l++ [(x,y)])+n):=⟨hle,ht1⟩;have TS:Hid (Ts H (l++ [(x,y)]) l1 (hL C R S (x,y) k)):=hts
    replace f0:=cell_off hg1 HGV.out f0;replace f1:=cell_off hg1 HGV.out f1;clear hg1 hV1 hle ht1 hts;by_cases hlt:k<n
    ·obtain⟨b,o,rfl,hlb,d0,d1,d2,_⟩:=HR.out.2 k hlt;rw [←I1.out.be.cell (p:=⟨_,_,none⟩) hlb]at d0 d1 d2;have hl2:b<wr.heap.size:=Nat.lt_of_lt_of_le hlb I1.out.be.size;have j0:(0:Int)≤(k:Int):=by omega
     have j1:(k:Int)<(n:Int):=by omega
     obtain⟨huk,hw1,hw2⟩:=HU.out k hlt;have HUK:Hid ((C k,R k)∈U):=huk;have HWK:Hid ((Lit.int .i64 (C k)).wf=true∧(Lit.int .i64 (R k)).wf=true):=⟨hw1,hw2⟩;obtain⟨kk,hkk⟩:=ET (C k) (R k) hw1 hw2;obtain⟨v0,F,z,c,hrun,hfl,har⟩:=HM.out k hlt kk hkk;have HRUN:Hid (∀w',Below W0.heap.size W0 w'→(Instr.lookup 55 (.map (some lm)) (.agg #[.int .i64 (C k),.int .i64 (R k)]) false).run Tryz.prog w'= .ok v0 w'):=hrun;have HFL:Hid (∀w',(Instr.field 53 v0 1).run Tryz.prog w'= .ok (.slice F z c) w'):=hfl
     have HAR:Hid (ArR W0 F z (lnA (S k))):=har;clear hrun hfl har hkk huk hw1 hw2 hlb;go_upto_region 6 with fail
     obtain⟨h,HHH⟩: ∃h,Hid (wr.heap.size=h):=⟨_,rfl⟩;obtain⟨Y,HY⟩: ∃Y,Hid (wr.alloc (.cells #[.int .i64 (C k),.int .i64 (R k),.string (S k)] 48)=Y):=⟨_,rfl⟩;rw [HY.out,HHH.out];have e0:Y.cell? ⟨h,0,none⟩=some (.int .i64 (C k)):=by rw [←HY.out,←HHH.out];simp
     have e1:Y.cell? ⟨h,1,none⟩=some (.int .i64 (R k)):=by rw [←HY.out,←HHH.out];simp
     have hbY:Below wr.heap.size wr Y:=by rw [←HY.out];exact(Below.refl _ _).alloc (Nat.le_refl _) _
     replace f0:=cyC hbY f0;replace f1:=cyC hbY f1;have GY:Hid (wr.grownBy Y (some vm)):=Yx _ hbY;have IY:=hd (I1.out.grown GY.out HNE.out);have VY:=hd (V1.out.below hbY);have q0c:=IY.out.cl;have ARD:=hd (HAR.out.below (IY.out.be.drew))
     have lk:=HRUN.out Y.drew IY.out.be.drew;have fl:=HFL.out Y.drew;clear HY hbY d0 d1 d2 I1 V1;go_cut [30]from 21 to 35 (fun v wx=>v= .bool ((lnA (S k)).any (YF x y))∧Below Y.heap.size Y wx)
     case first=>
      refine wp_region_held_drew (S:=fun w'=>w'.cell? ⟨bl,0,none⟩=some (.map (some lm))∧w'.cell? ⟨h,0,none⟩=some (.int .i64 (C k))∧w'.cell? ⟨h,1,none⟩=some (.int .i64 (R k))∧w'.cell? ⟨g,0,none⟩=some (.int .i64 x)∧w'.cell? ⟨g,1,none⟩=some (.int .i64 y)) (by kernel_rfl) ⟨q0c,e0,e1,f0,f1⟩ (fun hHeld=> ?_);refine tjA 0 ?_ rfl (by kernel_rfl) (by rfl) ?_ ?_;rotate_left
      ·(intro wq hSw;obtain⟨hq0,hq1,hq2,hq3,hq4⟩:=hSw;go_simp<;>with_reducible rfl)
      try simp only [Act.put,List.getElem_toArray,List.getElem_cons_zero,List.getElem_cons_succ,List.setIfInBounds_toArray,List.set_cons_zero,List.set_cons_succ]
      refine tjA 1 ?_ rfl (by kernel_rfl) (by rfl) ?_ ?_;rotate_left
      ·(intro wq hSw;obtain⟨hq0,hq1,hq2,hq3,hq4⟩:=hSw;go_simp<;>with_reducible rfl)
      try simp only [Act.put,List.getElem_toArray,List.getElem_cons_zero,List.getElem_cons_succ,List.setIfInBounds_toArray,List.set_cons_zero,List.set_cons_succ]
      refine tjA 2 ?_ rfl (by kernel_rfl) (by rfl) ?_ ?_;rotate_left
      ·(intro wq hSw;obtain⟨hq0,hq1,hq2,hq3,hq4⟩:=hSw;go_simp<;>with_reducible rfl)
      try simp only [Act.put,List.getElem_toArray,List.getElem_cons_zero,List.getElem_cons_succ,List.setIfInBounds_toArray,List.set_cons_zero,List.set_cons_succ]
      refine tjA 5 ?_ rfl (by kernel_rfl) (by rfl) ?_ ?_;rotate_left
      ·(intro wq hSw;obtain⟨hq0,hq1,hq2,hq3,hq4⟩:=hSw;go_simp<;>with_reducible rfl)
      try simp only [Act.put,List.getElem_toArray,List.getElem_cons_zero,List.getElem_cons_succ,List.setIfInBounds_toArray,List.set_cons_zero,List.set_cons_succ]
      refine rqA 3 (fun Kq hKq=> ?_);go_simp;refine hKq.out _ _ ?_ (fun hHeld=> ?_)
      ·exact⟨q0c,e0,e1,f0,f1⟩
      clear hKq Kq;try simp only [Act.put,List.getElem_toArray,List.getElem_cons_zero,List.getElem_cons_succ,List.setIfInBounds_toArray,List.set_cons_zero,List.set_cons_succ]
      refine rqA 4 (fun Kq hKq=> ?_);go_simp;refine hKq.out _ _ ?_ (fun hHeld=> ?_)
      ·exact⟨q0c,e0,e1,f0,f1⟩
      clear hKq Kq;try simp only [Act.put,List.getElem_toArray,List.getElem_cons_zero,List.getElem_cons_succ,List.setIfInBounds_toArray,List.set_cons_zero,List.set_cons_succ]
      refine rqA 6 (fun Kq hKq=> ?_);go_simp;refine(Og x y Y.drew ARD.out).mono ?_;rintro e v1 ⟨rfl,hb⟩;have KV:=hd (Qc (Below.refl _ _).drew hb);refine hKq.out _ _ ?_ (fun hHeld=> ?_)
      ·exact⟨cyC KV.out q0c,cyC KV.out e0,cyC KV.out e1,cyC KV.out f0,cyC KV.out f1⟩
      clear hKq Kq hb;try simp only [Act.put,List.getElem_toArray,List.getElem_cons_zero,List.getElem_cons_succ,List.setIfInBounds_toArray,List.set_cons_zero,List.set_cons_succ]
      refine wpAnyH_done (by kernel_rfl) ?_ _;go_wp2_with fail
      go_meet;exact⟨rfl,KV.out⟩
     case rest=>
      obtain⟨rfl,hbx⟩:=hcut;have GC:Hid (w9.grownBy wc (some vm)):=QV G1.out (QV GY.out (Yx _ hbx));have IC:=hd (I9.out.grown GC.out HNE.out);have VC:=hd (VY.out.below hbx);have cs:=IC.out.cs;have cn:=IC.out.cn;have a0:=cyC hbx e0
      have a1:=cyC hbx e1;clear hbx e0 e1 f0 f1 q0c ARD lk fl IY VY;cases hb:(lnA (S k)).any (YF x y)
      ·have HTS:Hid (Ts H (l++ [(x,y)]) l1 (hL C R S (x,y) (k+1))):=by rw [hL_no hb];exact TS.out
       clear hb;go_wp2_with fail
       go_roundw
       case rel=>exact⟨k+1,l1,t1,by omega,by go_num,GC.out,VC.out,LT.out.1,by have:=LT.out.2;omega,HTS.out⟩
       case measure=>simp [intOf];omega
      ·have HTK:Hid (hL C R S (x,y) (k+1)=hL C R S (x,y) k++ [(C k,R k)]):=hL_yes hb;clear hb;go_wp2_with fail
       refine(IH.out (lfP U l1) (by have:=HLA.out;have:=LT.out.1;have:=HMT.out.1;omega) _ (C k) (R k) l1 t1 HWK.out.1 HWK.out.2 HUK.out IC.out VC.out (Nat.le_refl _) (by have:=HLA.out;have:=LT.out.2;have:=HMT.out.2;omega)).mono ?_;rintro e w8 ⟨rfl,l4,t4,g8,v8,f8,b8,c8⟩;have G8:Hid (w9.grownBy w8 (some vm)):=QV GC.out g8;have V8:Hid (VsM w8 vm t4 l4):=v8;have L8:Hid (lfP U l4≤lfP U (l++ [(x,y)])∧t4+121*lfP U l4+(n-(k+1))≤t+1+121*lfP U (l++ [(x,y)])+n):=⟨Nat.le_trans f8 LT.out.1,by have:=LT.out.2;omega⟩;have T8:Hid (Ts H (l++ [(x,y)]) l4 (hL C R S (x,y) (k+1))):=by rw [HTK.out];exact TS.out.step c8
       clear g8 v8 f8 b8 c8;go_wp2_with fail
       go_roundw
       case rel=>exact⟨k+1,l4,t4,by omega,by go_num,G8.out,V8.out,L8.out.1,L8.out.2,T8.out⟩
       case measure=>simp [intOf];omega
    ·have j1: ¬(k:Int)<(n:Int):=by omega
     obtain rfl:k=n:=by omega
     go_wp2_with fail
     go_returns
     refine⟨rfl,l1,t1,QV GX.out (QV G9.out G1.out),V1.out,?_,?_,?_⟩
     ·have:=LT.out.1;have:=HLA.out;omega
     ·have:=LT.out.2;have:=HLA.out;omega
     ·refine Ts.new ?_;rw [HHE.out];exact TS.out
theorem reach_all {U:List PL} {W0:World} {bl bv bs bc lm vm:Nat} {A:Option Addr} {n cap:Nat} {C R:Nat→Int} {S:Nat→ByteArray} (hR:ClRow W0 A n C R S) (hn:n≤120) (hU: ∀i,i<n→(C i,R i)∈U∧(Lit.int .i64 (C i)).wf=true∧(Lit.int .i64 (R i)).wf=true)
  (hM:LkA W0 lm C R S n) (hne:RoN W0 bl bv bs bc vm) (m:Nat):RcC (fun x=>hL C R S x n) U W0 bl bv bs bc lm vm (.slice A n cap) m:=by
 induction m using Nat.strongRecOn with
 | _ m ih=>exact reach_step hR hn hU hM hne ih
theorem src_at {C R:Nat→Int} {S:Nat→ByteArray} {i:Nat}: ∀n,(∀k,k<n→ ∀j,j<k→ ¬(C j=C k∧R j=R k))→i<n→Yf C R S (C i) (R i) n=S i
 | 0,_,h=>absurd h (Nat.not_lt_zero _)
 | k+1,hd,h=>by
  by_cases e:i=k
  ·subst e;rw [Yf,if_pos ⟨rfl,rfl⟩]
  ·have hik:i<k:=by omega
   rw [Yf,if_neg (fun h9=>hd k (Nat.lt_succ_self k) i hik ⟨h9.1.symm,h9.2.symm⟩)];exact src_at k (fun q hq=>hd q (by omega)) hik
theorem ln_on1 (a b c:Value) (w:World):(Instr.field 53 (.agg #[a,b,c]) 1).run Tryz.prog w= .ok b w:=by
 first | kernel_rfl | rfl | simp [Instr.field,go_sem]
theorem ln_lka {C R:Nat→Int} {S:Nat→ByteArray} {B n z mb:Nat} {W:World} {D:DataW Value} (hok:Zg C R S n=true) (hown:W.ownsMap Tryz.prog 30 Nc mb z D) (hs:LnS C R S B W n n D):LkA W mb C R S n:=fun i hi l hl=>by
 obtain⟨v,hat,h1,h2⟩:=hs (C i) (R i) l hl;rw [src_at n (fun k hk=>Qc7 (Vf hok).2 hk) hi]at h1 h2
 have hrun: ∀w',Below W.heap.size W w'→(Instr.lookup 55 (.map (some mb)) (.agg #[.int .i64 (C i),.int .i64 (R i)]) false).run Tryz.prog w'= .ok v w':=fun w' hb=>by
  have ho:w'.ownsMap Tryz.prog 30 Nc mb z D:=hown.kept (Yx none hb) (by simp);obtain⟨u,ps,hr,hu⟩:=ho.lookup keyedRef Tryz.underlying55 (Qjt w') (rfl:Nc _=some (.held _,[])) hl;rw [hat]at hu;unfold Nc at hu;simp at hu;rw [hu.1]at hr;exact hr
 by_cases hf:lnF (S i)=none
 ·have hv:=h1 hf;subst hv;have hA:lnA (S i)= []:=by unfold lnA;rw [hf]
  exact⟨_,none,0,0,hrun,fun w'=>ln_on1 _ _ _ w',by rw [hA];exact⟨rfl,Nat.zero_le _,fun i hi=>absurd hi (Nat.not_lt_zero _)⟩⟩
 ·obtain⟨vn,A,m,c,F,zz,d,rfl,h3,h4,_,_⟩:=h2 hf;exact⟨_,A,m,c,hrun,fun w'=>ln_on1 _ _ _ w',ArR.of_own h4 h3⟩
theorem impl_reachedFrom {A:Option Addr} {n cap:Nat} {C R:Nat→Int} {S:Nat→ByteArray} {F:Option Addr} {z c:Nat} {xs:List PL} (w:World) (h:ClRow w A n C R S) (hok:Zg C R S n=true) (hg:GI w) (hx:RfR w F z xs) (hw: ∀u∈xs,(Lit.int .i64 u.1).wf=true∧(Lit.int .i64 u.2).wf=true) (hz:z≤120):
  Calls Tryz.prog 34 #[.slice A n cap,.slice F z c] w fun e w'=> ∃(vm t:Nat) (l:List PL),e= .returned (.map (some vm))∧VsM w' vm t l∧Ts (fun x=>hL C R S x n) [] l xs∧Below w.heap.size w w':=by
 have HR:Hid (ClRow w A n C R S):=h;have HG:Hid (GI w):=hg;have HOK:Hid (Zg C R S n=true):=hok;have HX:Hid (RfR w F z xs):=hx;have HW:Hid (∀u∈xs,(Lit.int .i64 u.1).wf=true∧(Lit.int .i64 u.2).wf=true):=hw;have HZ:Hid (z≤120):=hz;have HN:Hid (n≤120):=(Vf hok).1
 obtain⟨H,HH⟩: ∃H:PL→List PL,Hid ((fun x=>hL C R S x n)=H):=⟨_,rfl⟩;rw [HH.out];obtain⟨U,HU⟩: ∃U,Hid (plL C R n++xs=U):=⟨_,rfl⟩
 have HUL:Hid (U.length≤240):=by
  show _≤_;rw [←HU.out,List.length_append,plL_len,HX.out.len];have:=HN.out;omega
 have HUX:Hid (∀y∈xs,y∈U):=fun y hy=>by rw [←HU.out];exact List.mem_append_right _ hy
 have HUC:Hid (∀i,i<n→(C i,R i)∈U∧(Lit.int .i64 (C i)).wf=true∧(Lit.int .i64 (R i)).wf=true):=fun i hi=>by
  have hm:(C i,R i)∈plL C R n:=List.mem_map.2 ⟨i,List.mem_range.2 hi,rfl⟩;exact⟨by rw [←HU.out];exact List.mem_append_left _ hm,pl_wf HOK.out _ hm⟩
 clear h hok hg hx hw hz;have hmm:= @run_makeMap Tryz.prog;have hmf: ∀(fn:Fn) (first cap:Array Value) (w:World),(Instr.makeFunc fn first cap).run Tryz.prog w= .ok (.func fn first cap) w:=fun _ _ _ _=>rfl;have hsf: ∀(a:Addr) (fn:Fn) (first cap:Array Value) (w:World),(store a (.func fn first cap)).run Tryz.prog w=stored Tryz.prog w a (.func fn first cap) .plain:=fun a fn first cap w=>run_store Tryz.prog w a _ _ rfl;go_enter Tryz.func34,Tryz.ntmps34;go_wp2_with fail
 obtain⟨X,HX9⟩: ∃X,Hid (w.alloc (.cells #[.slice A n cap] 28)=X):=⟨_,rfl⟩;rw [HX9.out];obtain⟨bs,HBS⟩: ∃b,Hid (w.heap.size=b):=⟨_,rfl⟩;rw [HBS.out];have BX:Hid (Below w.heap.size w X):=by show Below _ _ _;rw [←HX9.out];exact(Below.refl _ _).alloc (Nat.le_refl _) _
 have c0:X.cell? ⟨bs,0,none⟩=some (.slice A n cap):=by rw [←HX9.out,←HBS.out];simp
 clear HX9;refine(Kz X (HR.out.below BX.out) HOK.out (HG.out.below BX.out)).mono ?_;rintro e W0 ⟨rfl,⟨z9,D,hz9,hm,hs⟩,hb⟩;obtain⟨lm,HLM⟩: ∃b,Hid (X.heap.size=b):=⟨_,rfl⟩;have HLK:Hid (LkA W0 lm C R S n):=by show LkA _ _ _ _ _ _;rw [←HLM.out];exact ln_lka HOK.out hm hs
 rw [HLM.out];have B0:=hd (Qc BX.out hb);replace c0:=cyC hb c0;have hbs:bs<W0.heap.size:=World.block_lt_of_cell? W0 ⟨bs,0,none⟩ c0;clear hb hm hs hz9;go_wp2_with fail
 obtain⟨Y,HY⟩: ∃Y,Hid (((((W0.alloc (.cells #[.map (some lm)] 55)).alloc (.map #[] 0)).alloc (.cells #[.map (some (W0.heap.size+1))] 61)).alloc (.cells #[.func (.func 49) #[] #[.pointer (some ⟨W0.heap.size+1+1,0,none⟩),.pointer (some ⟨bs,0,none⟩),.pointer (some ⟨W0.heap.size,0,none⟩),.pointer (some ⟨W0.heap.size+1+1+1,0,none⟩)]] 79))=Y):=⟨_,rfl⟩;rw [HY.out];have BY:Hid (Below W0.heap.size W0 Y):=by rw [←HY.out];show Below _ _ _;go_grown
 have IY:Hid (RoI W0 W0.heap.size (W0.heap.size+1+1) bs (W0.heap.size+1+1+1) lm (W0.heap.size+1) (.slice A n cap) Y):=by
  refine⟨?_,?_,?_,?_,BY.out⟩
  ·rw [←HY.out];go_simp
  ·exact cyC BY.out c0
  ·rw [←HY.out];go_simp
  ·rw [←HY.out];go_simp
 have NE:Hid (RoN W0 W0.heap.size (W0.heap.size+1+1) bs (W0.heap.size+1+1+1) (W0.heap.size+1)):=⟨by omega,by omega,by omega,by omega,by omega⟩
 have VY:Hid (VsM Y (W0.heap.size+1) 0 []):=by
  rw [←HY.out];refine⟨.map [],by rw [show W0.heap.size+1=(W0.alloc (.cells #[.map (some lm)] 55)).heap.size by simp];exact((World.ownsMap_made (W0.alloc (.cells #[.map (some lm)] 55)) _ _ _).alloc _).alloc _,⟨_,rfl⟩,fun x y kl _=>⟨0,rfl,Int.le_refl _,Int.le_refl _,⟨fun _ h=>(List.not_mem_nil h).elim,fun _=>rfl⟩⟩⟩
 have RA:Hid (∀m,RcC H U W0 W0.heap.size (W0.heap.size+1+1) bs (W0.heap.size+1+1+1) lm (W0.heap.size+1) (.slice A n cap) m):=fun m=>by
  rw [←HH.out];exact reach_all (HR.out.below B0.out) HN.out HUC.out HLK.out NE.out m
 obtain⟨vm,HVM⟩: ∃b,Hid (W0.heap.size+1=b):=⟨_,rfl⟩;obtain⟨bv,HBV⟩: ∃b,Hid (vm+1=b):=⟨_,rfl⟩;obtain⟨bc,HBC⟩: ∃b,Hid (bv+1=b):=⟨_,rfl⟩;obtain⟨bl,HBL⟩: ∃b,Hid (W0.heap.size=b):=⟨_,rfl⟩;simp only [HVM.out,HBV.out,HBC.out]at IY NE VY RA ⊢;rw [HBL.out]at IY NE RA ⊢;clear HY HVM HBV HBC c0 hbs
 go_loopw [16] (fun i wr=> ∃(k:Nat) (l1:List PL) (t1:Nat),k≤z∧i= .int .i64 k∧Y.grownBy wr (some vm)∧VsM wr vm t1 l1∧t1+121*lfP U l1≤k+121*lfP U []∧Ts H [] l1 (xs.take k)) (fun i _=>z-(intOf i).toNat)
 case atStart=>exact⟨0,[],0,Nat.zero_le _,rfl,World.grownBy.refl _ _,VY.out,Nat.le_refl _,Ts.nil _⟩
 case round=>
  obtain⟨k,l1,t1,hk,rfl,hg1,hV1,ht1,hts⟩:=hrel;have G1:Hid (Y.grownBy wr (some vm)):=hg1;have I1:=hd (IY.out.grown hg1 NE.out);have V1:Hid (VsM wr vm t1 l1):=hV1;have LT:Hid (t1+121*lfP U l1≤k+121*lfP U []):=ht1;have LU:Hid (lfP U []≤240):=Nat.le_trans (lfP_le U []) HUL.out;have TS:Hid (Ts H [] l1 (xs.take k)):=hts
  clear hg1 hV1 ht1 hts;by_cases hlt:k<z
  ·obtain⟨b,o,rfl,hlb,d0,d1⟩:=(HX.out.below B0.out).at_ k hlt;rw [←I1.out.be.cell (p:=⟨_,_,none⟩) hlb]at d0 d1;have hl2:b<wr.heap.size:=Nat.lt_of_lt_of_le hlb I1.out.be.size;have q0:(0:Int)≤(k:Int):=by omega
   have q1:(k:Int)<(z:Int):=by omega
   have hkl:k<xs.length:=by rw [HX.out.len];exact hlt
   have HYM:Hid (xs.getD k (0,0)∈xs):=getD_memP hkl;have HTK:Hid (xs.take (k+1)=xs.take k++ [xs.getD k (0,0)]):=take_at hkl;obtain⟨yy,HYY⟩: ∃yy,Hid (xs.getD k (0,0)=yy):=⟨_,rfl⟩;rw [HYY.out]at d0 d1 HYM HTK;obtain⟨y1,y2⟩:=yy;simp only at d0 d1;have HYW:Hid ((Lit.int .i64 y1).wf=true∧(Lit.int .i64 y2).wf=true):=HW.out _ HYM.out
   have cn:=I1.out.cn;have hz9:=HZ.out;have hlc:bc<wr.heap.size:=World.block_lt_of_cell? wr ⟨bc,0,none⟩ cn;clear hlb hkl;go_wp2_with fail
   have hbA:Below wr.heap.size wr (wr.alloc (.cells #[.int .i64 y1,.int .i64 y2] 30)):=(Below.refl _ _).alloc (Nat.le_refl _) _;have GA:Hid (Y.grownBy (wr.alloc (.cells #[.int .i64 y1,.int .i64 y2] 30)) (some vm)):=QV G1.out (Yx _ hbA);refine(RA.out (lfP U l1) _ y1 y2 l1 t1 HYW.out.1 HYW.out.2 (HUX.out _ HYM.out) (IY.out.grown GA.out NE.out) (V1.out.below hbA) (Nat.le_refl _) (by have:=LT.out;have:=LU.out;have:=HZ.out;omega)).mono ?_;rintro e w8 ⟨rfl,l4,t4,g8,v8,f8,b8,c8⟩;have G8:Hid (Y.grownBy w8 (some vm)):=QV GA.out g8;have V8:Hid (VsM w8 vm t4 l4):=v8;have L8:Hid (t4+121*lfP U l4≤(k+1)+121*lfP U []):=by have:=LT.out;show _≤_;omega
   have T8:Hid (Ts H [] l4 (xs.take (k+1))):=by rw [HTK.out];exact TS.out.step c8
   clear g8 v8 f8 b8 c8 hbA;go_wp2_with fail
   go_roundw
   case rel=>exact⟨k+1,l4,t4,by omega,by go_num,G8.out,V8.out,L8.out,T8.out⟩
   case measure=>simp [intOf];omega
  ·have q1: ¬(k:Int)<(z:Int):=by omega
   obtain rfl:k=z:=by omega
   have cv:=I1.out.cv;go_wp2_with fail
   go_ret;first | refine⟨vm,rfl,t1,l1,V1.out,?_,Qc B0.out I1.out.be⟩ | done
   have h9:=TS.out;rwa [←HX.out.len,List.take_length]at h9
noncomputable def rtB (H:PL→List PL) (xs:List PL) (y:PL):Bool:= @decide (Rt H xs y) (Classical.propDecidable _)
theorem rtB_iff {H:PL→List PL} {xs:List PL} {y:PL}:rtB H xs y=true↔Rt H xs y:=by unfold rtB;exact @decide_eq_true_iff _ (Classical.propDecidable _)
noncomputable def tcR (C R:Nat→Int) (S:Nat→ByteArray) (n:Nat) (xs:List PL):List PL:=if Zg C R S n=true∧xs.length≤120 then tcL C R (rtB (fun x=>hL C R S x n) xs) n else []
theorem tcL_no {C R:Nat→Int} {P:PL→Bool} {k:Nat} (h:P (C k,R k)=false):tcL C R P (k+1)=tcL C R P k:=by rw [tcL,if_neg (by rw [h];decide),List.append_nil]
theorem tcL_yes {C R:Nat→Int} {P:PL→Bool} {k:Nat} (h:P (C k,R k)=true):tcL C R P (k+1)=tcL C R P k++ [(C k,R k)]:=by rw [tcL,if_pos h]
theorem VsM.look {w:World} {vm t:Nat} {l:List PL} (h:VsM w vm t l) {x y:Int} {kl:Lit} (hk:keyOf Tryz.prog 30 (.agg #[.int .i64 x,.int .i64 y])=some kl):
  ∃c:Int,(0<c↔(x,y)∈l)∧0≤c∧(Instr.lookup 61 (.map (some vm)) (.agg #[.int .i64 x,.int .i64 y]) false).run Tryz.prog w= .ok (.int .i64 c) w:=by
 obtain⟨D,h1,h2,h3⟩:=h;obtain⟨c2,r6,e6,_⟩:=h1.lookup_int keyedRef Tryz.underlying61 Tryz.underlying3 (zeroN w) hk;obtain⟨c',e2,hc0,hct,hcl⟩:=h3 x y kl hk
 have e3:c2=c':=by
  rw [e6]at e2;injection e2 with h9
  injection h9
 subst e3;refine⟨c2,⟨fun h=> ?_,fun h=> ?_⟩,hc0,r6⟩
 ·by_cases hm:(x,y)∈l
  ·exact hm
  ·have:=hcl.2 hm;omega
 ·by_cases h0:c2=0
  ·exact absurd h (hcl.1 h0)
  ·omega
theorem impl_Touched {A:Option Addr} {n cap:Nat} {C R:Nat→Int} {S:Nat→ByteArray} {F:Option Addr} {z c:Nat} {xs:List PL} (w:World) (h:ClRow w A n C R S) (hg:GI w) (hx:RfR w F z xs) (hw: ∀u∈xs,(Lit.int .i64 u.1).wf=true∧(Lit.int .i64 u.2).wf=true):
  Calls Tryz.prog 21 #[.slice A n cap,.slice F z c] w fun e w'=> ∃F' z' c',e= .returned (.slice F' z' c')∧(tcR C R S n xs).length=z'∧w'.ownsRow w.heap.size 30 2 (.slice F' z' c') z' (QP rfL (tcR C R S n xs))∧Below w.heap.size w w':=by
 have HR:Hid (ClRow w A n C R S):=h;have HG:Hid (GI w):=hg;have HX:Hid (RfR w F z xs):=hx;have HW:Hid (∀u∈xs,(Lit.int .i64 u.1).wf=true∧(Lit.int .i64 u.2).wf=true):=hw;clear h hg hx hw;go_enter Tryz.func21,Tryz.ntmps21;go_wp2_with fail
 refine(MM w HR.out HG.out).mono ?_;rintro e w1 ⟨rfl,hb⟩;have B1:Hid (Below w.heap.size w w1):=hb;clear hb;cases hok:Zg C R S n
 ·have HE:Hid (tcR C R S n xs= []):=by show _=_;unfold tcR;rw [hok,if_neg (fun h=>by cases h.1)]
  clear hok;go_wp2_with fail
  go_ret;exact⟨none,0,0,rfl,by rw [HE.out];rfl,by rw [HE.out];exact World.ownsRow_nil _ _ _ _,B1.out⟩
 ·have HOK:Hid (Zg C R S n=true):=hok;have hn:n≤120:=(Vf hok).1;by_cases hz:z≤120
  ·have HE:Hid (tcR C R S n xs=tcL C R (rtB (fun x=>hL C R S x n) xs) n):=by show _=_;unfold tcR;rw [if_pos ⟨hok,by rw [HX.out.len];exact hz⟩]
   obtain⟨P,HP⟩: ∃P,Hid (rtB (fun x=>hL C R S x n) xs=P):=⟨_,rfl⟩;rw [HP.out]at HE;have hz1: ¬(120:Int)<(z:Int):=by omega
   clear hok;go_wp2_with fail
   refine(impl_reachedFrom w1 (HR.out.below B1.out) HOK.out (HG.out.below B1.out) (HX.out.below B1.out) HW.out hz).mono ?_;rintro e w2 ⟨vm,t,l,rfl,hv,hts,hb⟩;have V2:Hid (VsM w2 vm t l):=hv;have TS:Hid (∀y,y∈l↔P y=true):=fun y=>by rw [←HP.out,rtB_iff];exact hts.iff y
   have B2:=hd (Qc B1.out hb);have hs2:=B2.out.size;clear hv hts hb hz1;go_wp2_with fail
   go_loopw [6,22] (fun v i wr=> ∃(k:Nat) (F:Option Addr) (z c:Nat),k≤n∧v= .slice F z c∧(tcL C R P k).length=z∧i= .int .i64 k∧wr.ownsRow w2.heap.size 30 2 (.slice F z c) z (QP rfL (tcL C R P k))∧Below w2.heap.size w2 wr) (fun _ i _=>n-(intOf i).toNat)
   case atStart=>exact⟨0,none,0,0,Nat.zero_le _,rfl,rfl,rfl,World.ownsRow_nil _ _ _ _,Below.refl _ _⟩
   case round=>
    obtain⟨k,F9,z9,c9,hk,rfl,hzl,rfl,hown,hbel⟩:=hrel;have OW:Hid (wr.ownsRow w2.heap.size 30 2 (.slice F9 z9 c9) z9 (QP rfL (tcL C R P k))):=hown;have HZL:Hid ((tcL C R P k).length=z9):=hzl;have hz120:z9≤120:=by rw [←hzl];exact Nat.le_trans (tcL_len C R P k) (by omega)
    have BL:Hid (Below w2.heap.size w2 wr):=hbel;clear hown hzl;by_cases hlt:k<n
    ·obtain⟨b,o,rfl,hl,c0,c1,c2,_⟩:=(HR.out.below B2.out).2 k hlt;rw [←hbel.cell (p:=⟨_,_,none⟩) hl]at c0 c1 c2;have hl2:b<wr.heap.size:=Nat.lt_of_lt_of_le hl hbel.size;have h0:(0:Int)≤(k:Int):=by omega
     have h1:(k:Int)<(n:Int):=by omega
     have hwf:=pl_wf HOK.out (C k,R k) (List.mem_map.2 ⟨k,List.mem_range.2 hlt,rfl⟩);obtain⟨kk,hkk⟩:=ET (C k) (R k) hwf.1 hwf.2;clear hbel hwf;go_upto_region 8 with fail
     obtain⟨X,HX9⟩: ∃X,Hid (wr.alloc (.cells #[.int .i64 (C k),.int .i64 (R k),.string (S k)] 48)=X):=⟨_,rfl⟩;rw [HX9.out];have x0:X.cell? ⟨wr.heap.size,0,none⟩=some (.int .i64 (C k)):=by rw [←HX9.out];simp
     have x1:X.cell? ⟨wr.heap.size,1,none⟩=some (.int .i64 (R k)):=by rw [←HX9.out];simp
     have xl:wr.heap.size<X.heap.size:=by rw [←HX9.out];simp
     have BX:Hid (Below w2.heap.size w2 X):=by show Below _ _ _;rw [←HX9.out];exact BL.out.alloc BL.out.size _
     have OX:Hid (X.ownsRow w2.heap.size 30 2 (.slice F9 z9 c9) z9 (QP rfL (tcL C R P k))):=by show World.ownsRow _ _ _ _ _ _ _;rw [←HX9.out];exact OW.out.alloc _
     obtain⟨cc,hcl,hc0,hlk⟩:=(V2.out.below BX.out).look hkk;have hxs:=BX.out.size;clear HX9 c0 c1 c2 OW BL hkk;cases hin:P (C k,R k)
     ·have HE9:Hid (tcL C R P (k+1)=tcL C R P k):=tcL_no hin;have hcn: ¬0<cc:=fun h9=>by rw [(TS.out _).1 (hcl.1 h9)]at hin;cases hin
      clear hin hcl;go_wp2_with fail
      go_roundw
      case rel=>exact⟨k+1,F9,z9,c9,by omega,rfl,by rw [HE9.out];exact HZL.out,by go_num,by rw [HE9.out];exact OX.out,BX.out⟩
      case measure=>simp [intOf];omega
     ·have HE9:Hid (tcL C R P (k+1)=tcL C R P k++ [(C k,R k)]):=tcL_yes hin;have hcp:0<cc:=hcl.2 ((TS.out _).2 hin);clear hin hcl
      go_wp2_with (first
       | (at_builtin;refine Ju rfl _ _ rfl w2.heap.size (.slice F9 z9 c9) z9 (tcL C R P k) rfl (OX.out.alloc _) (C k,R k) X.heap.size rfl (by simp [go_sem]) (by simp [go_sem]) (by omega) (by simp;omega) ?_)
       | fail)
      intro v2 w9 ho hg;have B9:Hid (Below w2.heap.size w2 w9):=(BX.out.alloc hxs _).grown hg (by simp;omega) (fun j hj=>(OX.out.lt j hj).1);obtain⟨F2,c2,rfl,_,_⟩:=Qj ho;have O2:Hid (w9.ownsRow w2.heap.size 30 2 (.slice F2 (z9+1) c2) (z9+1) (QP rfL (tcL C R P (k+1)))):=by rw [HE9.out];exact ho
      clear ho hg;go_wp2_with fail
      go_roundw
      case rel=>exact⟨k+1,F2,z9+1,c2,by omega,rfl,by rw [HE9.out,List.length_append,HZL.out];rfl,by go_num,O2.out,B9.out⟩
      case measure=>simp [intOf];omega
    ·have h1: ¬(k:Int)<(n:Int):=by omega
     obtain rfl:k=n:=by omega
     go_wp2_with fail
     go_ret;exact⟨F9,z9,c9,rfl,by rw [HE.out];exact HZL.out,by rw [HE.out];exact Zl OW.out hs2,Qc B2.out hbel⟩
  ·have HE:Hid (tcR C R S n xs= []):=by show _=_;unfold tcR;rw [if_neg (fun h=>hz (by rw [←HX.out.len];exact h.2))]
   have hz1:(120:Int)<(z:Int):=by omega
   clear hok;go_wp2_with fail
   go_ret;exact⟨none,0,0,rfl,by rw [HE.out];rfl,by rw [HE.out];exact World.ownsRow_nil _ _ _ _,B1.out⟩
end Go.Proofs.YtekcnhfkmimodaaGreatDoor
