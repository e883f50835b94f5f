import Derived.Test.YtdcokcbolecanaaGreatDoorMn
import Derived.Test.YtdcokcbolecanaaGreatDoorGzk
import Derived.Maps.Own
import Derived.Maps.OwnOps
import Derived.Maps.OwnSet
import Derived.Maps.Keyed
import Derived.Test.YtdcokcbolecanaaGreatDoorGze
set_option linter.unusedSimpArgs false
set_option linter.unusedVariables false
set_option maxHeartbeats 2000000
set_option maxRecDepth 100000
namespace Go.Proofs.YtdcokcbolecanaaGreatDoor
open Go.RowKit Go.Maps
theorem keyedI:Keyed Tryz.prog 2:=int_keyed Tryz.underlying2
theorem Qi4 {d:Int} (h:(Lit.int .i64 d).wf=true):keyOf Tryz.prog 2 (.int .i64 d)=some (.int .i64 d):=keyOf_int_mk Tryz.underlying2 h
theorem Qji (w:World):(zeroValue 44).run Tryz.prog w= .ok (.agg #[.int .i64 0,.slice none 0 0,.slice none 0 0]) w:=by kernel_rfl
def vmE (v:Value):Option (DataW Value × List MemPlace):=
 match v with
 | .agg a=>match a.toList with
  | [.int .i64 d,.slice u n c,.slice s m k]=>some (.held (.agg #[.int .i64 d,.slice u n c,.slice s m k]),[])
  | _=>none
 | _=>none
theorem Bz (d:Int) (u s:Option Addr) (n c m k:Nat):vmE (.agg #[.int .i64 d,.slice u n c,.slice s m k])=some (.held (.agg #[.int .i64 d,.slice u n c,.slice s m k]),[]):=rfl
theorem Qfy {v:Value} {y:DataW Value × List MemPlace} (h:vmE v=some y): ∃d u n c s m k,v= .agg #[.int .i64 d,.slice u n c,.slice s m k]∧y=(.held (.agg #[.int .i64 d,.slice u n c,.slice s m k]),[]):=by
 unfold vmE at h;split at h
 ·rename_i a
  split at h
  ·rename_i d u n c s m k e
   cases h
   refine⟨d,u,n,c,s,m,k,?_,rfl⟩;obtain⟨l⟩:=a;simp only at e;rw [e]
  ·cases h
 ·cases h
def VMap (w:World) (b n:Nat) (l:List Int):Prop:= ∃D,w.ownsMap Tryz.prog 2 vmE b n D∧IsMap D∧ ∀d,(Lit.int .i64 d).wf=true→Maps.has D (.int .i64 d)=decide (d∈l)
theorem VMap.below {w w':World} {b n:Nat} {l:List Int} (h:VMap w b n l) (hb:Below w.heap.size w w'):VMap w' b n l:=by
 obtain⟨D,h1,h2,h3⟩:=h;have hg:w.grownBy w' none:=⟨hb.1,hb.2,hb.3,hb.4,fun q hq _=>hb.5 q hq⟩;exact⟨D,h1.kept hg (by simp),h2,h3⟩
theorem Qmj (d:Int) (h:(Lit.int .i64 d).wf=true):WideAt.IsKeyLit (Lit.int .i64 d):=keyedI.key (Qi4 h)
theorem Qdr {D:DataW Value} {l:List Int} {d:Int} (v:DataW Value) (hD:IsMap D) (hd:(Lit.int .i64 d).wf=true) (h: ∀e,(Lit.int .i64 e).wf=true→Maps.has D (.int .i64 e)=decide (e∈l)):
  ∀e,(Lit.int .i64 e).wf=true→Maps.has (D.put (.int .i64 d) v) (.int .i64 e)=decide (e∈l++ [d]):=fun e he=>by
 by_cases hed:e=d
 ·subst hed;rw [has_put_same hD (Qmj e hd)];simp
 ·rw [has_put_other (by intro h9;cases h9;exact hed rfl),h e he];simp [hed]
theorem Gt {b n:Nat} {l:List Int} (d:Int) (w:World) (h:VMap w b n l) (hd:(Lit.int .i64 d).wf=true):
  Calls Tryz.prog 58 #[.map (some b),.int .i64 d] w fun e w'=>e= .returned (.bool (decide (d∈l)))∧Below w.heap.size w w':=by
 obtain⟨D,ho,_,hh⟩:=h;have HO:Hid (w.ownsMap Tryz.prog 2 vmE b n D):=ho;have HH:Hid (Maps.has D (.int .i64 d)=decide (d∈l)):=hh d hd;have HD:Hid ((Lit.int .i64 d).wf=true):=hd;obtain⟨bb,HBB⟩: ∃bb,Hid (decide (d∈l)=bb):=⟨_,rfl⟩;rw [HBB.out];clear ho hh hd
 go_enter Tryz.func58,Tryz.ntmps58
 go_wp2_with (first
  | (at_lookup;refine wpList_lookup_own_ok _ rfl _ _ 97 rfl 2 44 keyedI Tryz.underlying97 vmE (Qji _) _ _ (Bz _ _ _ _ _ _ _) b n D rfl HO.out _ _ rfl (Qi4 HD.out) (fun v ps hv=> ?_);obtain⟨d0,u0,n0,c0,s0,m0,k0,rfl,hv2⟩:=Qfy hv;clear hv hv2;rw [HH.out,HBB.out]))
 go_ret;exact⟨rfl,by go_grown⟩
def YM {α:Type} (lt:α→α→Bool):List α→Bool
 | x::y::r=>lt x y&&YM lt (y::r)
 | _=>true
theorem Nr {α:Type} {lt:α→α→Bool}: ∀{L:List α} {i:Nat} {x y:α},YM lt L=true→L[i]? =some x→L[i+1]? =some y→lt x y=true
 | x::y::r,0,u,v,h,hx,hy=>by
  simp at hx hy;subst hx hy;simp [YM]at h;exact h.1
 | x::y::r,i+1,u,v,h,hx,hy=>by
  simp only [YM,Bool.and_eq_true]at h;exact Nr (L:=y::r) (i:=i) h.2 (by simpa using hx) (by simpa using hy)
 | [x],0,u,v,h,hx,hy=>by simp at hy
 | [x],i+1,u,v,h,hx,hy=>by simp at hx
 | [],i,u,v,h,hx,hy=>by simp at hx
theorem XF {α:Type} {lt:α→α→Bool}: ∀{L:List α},(∀(i:Nat) x y,L[i]? =some x→L[i+1]? =some y→lt x y=true)→YM lt L=true
 | [],_=>rfl
 | [x],_=>rfl
 | x::y::r,h=>by
  simp only [YM,Bool.and_eq_true];exact⟨h 0 x y (by simp) (by simp),XF (L:=y::r) (fun i u v hu hv=>h (i+1) u v (by simpa using hu) (by simpa using hv))⟩
theorem JH {α:Type} {lt:α→α→Bool} {L:List α} {i:Nat} {x y:α} (hx:L[i]? =some x) (hy:L[i+1]? =some y) (h:lt x y=false):YM lt L=false:=by
 cases e:YM lt L
 ·rfl
 ·rw [Nr e hx hy]at h;cases h
def ltV (x y:VR):Bool:=decide (x.id<y.id)
def ltI (x y:Int):Bool:=decide (x<y)
def ltB (x y:BR):Bool:=Op.bytesLess x.n.toList y.n.toList
theorem Jj {W:World} {A:Option Addr} {l:List Int} (h:IntRow W A l) {i:Nat} {x:Int} (hx:l[i]? =some x): ∃b o,A=some ⟨b,o,none⟩∧b<W.heap.size∧W.cell? ⟨b,o+i,none⟩=some (.int .i64 x):=by
 have hi:=(List.getElem?_eq_some_iff.1 hx).1;obtain⟨b,o,e,hl,c⟩:=h.2 i hi;rw [List.getD_eq_getElem?_getD,hx]at c;exact⟨b,o,e,hl,c⟩
theorem XU (d:Int) (u s:Option Addr) (n c m k:Nat) (w:World):Calls Tryz.prog 51 #[.agg #[.int .i64 d,.slice u n c,.slice s m k]] w fun e w'=>e= .returned (.int .i64 d)∧Below w.heap.size w w':=by
 go_enter Tryz.func51,Tryz.ntmps51;go_wp2_with fail
 go_ret;exact⟨rfl,by go_grown⟩
theorem Kn (d:Int) (w:World):Calls Tryz.prog 73 #[.int .i64 d] w fun e w'=>e= .returned (.int .i64 d)∧Below w.heap.size w w':=by
 go_enter Tryz.func73,Tryz.ntmps73;go_wp2_with fail
 go_ret;exact⟨rfl,by go_grown⟩
theorem Xw (s:ByteArray) (h:Int) (w:World):Calls Tryz.prog 55 #[.agg #[.string s,.int .i64 h]] w fun e w'=>e= .returned (.string s)∧Below w.heap.size w w':=by
 go_enter Tryz.func55,Tryz.ntmps55;go_wp2_with fail
 go_ret;exact⟨rfl,by go_grown⟩
theorem Oe {A:Option Addr} {n cap:Nat} {L:List VR} (w:World) (h:VrRow w A L) (hL:L.length=n):
  Calls Tryz.prog 50 #[.slice A n cap,.func (.func 51) #[] #[]] w fun e w'=>e= .returned (.bool (YM ltV L))∧Below w.heap.size w w':=by
 have HR:Hid (VrRow w A L):=h;have HL:Hid (L.length=n):=hL;have hn:=h.1;rw [hL]at hn;unfold maxLen at hn;clear h hL;go_enter Tryz.func50,Tryz.ntmps50
 go_wp2_with fail
 go_loopw [5] (fun i wr=> ∃t:Nat,i= .int .i64 (t:Int)∧1≤t∧t≤n+1∧(∀(j:Nat) x y,j+1<t→L[j]? =some x→L[j+1]? =some y→ltV x y=true)∧Below w.heap.size w wr) (fun i _=>n+1-(intOf i).toNat)
 case atStart=>exact⟨1,rfl,Nat.le_refl _,by omega,fun j x y hj=>by omega,Below.refl _ _⟩
 case round=>
  obtain⟨t,rfl,ht1,ht,hall,hbel⟩:=hrel;have HA:Hid (∀(j:Nat) x y,j+1<t→L[j]? =some x→L[j+1]? =some y→ltV x y=true):=hall;clear hall;by_cases hlt:t<n
  ·obtain⟨m,HM⟩: ∃m,Hid (t=m+1):=⟨t-1,(by omega:t=t-1+1)⟩;obtain⟨x,hx⟩:=ZF HL.out (show m<n by have:=HM.out;omega);obtain⟨y,hy⟩:=ZF HL.out hlt;have HX:Hid (L[m]? =some x):=hx;have HY:Hid (L[m+1]? =some y):=by have h:=hy;rw [HM.out]at h;exact h
   obtain⟨b,o,u,uc,s,sc,rfl,hl,c0,c1,c2,_,_⟩:=HR.out.2 m x hx;obtain⟨b',o',u',uc',s',sc',e,_,d0,d1,d2,_,_⟩:=HR.out.2 t y hy;cases e
   clear hx hy;have hs:=hbel.size;have hW:=fun b o h=>hbel.cell (p:=⟨b,o,none⟩) h;have q0:(0:Int)≤(t:Int):=by omega
   have q1:(t:Int)<(n:Int):=by omega
   have q2:(0:Int)≤(m:Int):=by omega
   have q3:(m:Int)<(n:Int):=by have:=HM.out;omega
   have q4:IntKind.i64.wrap ((t:Int)-1)=(m:Int):=by rw [IntKind.wrap_i64];have:=HM.out;omega
   cases hq:ltV x y
   ·have HQ:Hid (ltV x y=false):=hq;have hq2: ¬x.id<y.id:=of_decide_eq_false hq;clear hq;go_wp2_with fail
    go_region_held3 (fun w'=>(∀bq oq,bq<w.heap.size→w'.cell? ⟨bq,oq,none⟩=w.cell? ⟨bq,oq,none⟩)∧w.heap.size≤w'.heap.size∧Below w.heap.size w w')
     (exact Qk (Nat.le_refl _) (by go_grown))
     (first
     | (go_at_call 51;refine(XU _ _ _ _ _ _ _ _).mono ?_;rintro e w1 ⟨rfl,hb⟩;obtain⟨hk1,hz1⟩:=Qe (B:=w.heap.size) (X:=w) (by go_grown) (by go_size) hb;clear hb))
    all_goals
     go_wp2_with fail
     go_ret;exact⟨Qa (JH HX.out HY.out HQ.out).symm,by go_grown⟩
   ·have HQ:Hid (ltV x y=true):=hq;have hq2:x.id<y.id:=of_decide_eq_true hq;clear hq;go_wp2_with fail
    go_region_held3 (fun w'=>(∀bq oq,bq<w.heap.size→w'.cell? ⟨bq,oq,none⟩=w.cell? ⟨bq,oq,none⟩)∧w.heap.size≤w'.heap.size∧Below w.heap.size w w')
     (exact Qk (Nat.le_refl _) (by go_grown))
     (first
     | (go_at_call 51;refine(XU _ _ _ _ _ _ _ _).mono ?_;rintro e w1 ⟨rfl,hb⟩;obtain⟨hk1,hz1⟩:=Qe (B:=w.heap.size) (X:=w) (by go_grown) (by go_size) hb;clear hb))
    all_goals
     go_wp2_with fail
     go_roundw
     case rel=>exact⟨t+1,by go_num,by omega,by omega,fun j u v hj hu hv=>by
      by_cases e:j=m
      ·subst e;rw [HX.out]at hu;rw [HY.out]at hv;cases hu;cases hv;exact HQ.out
      ·exact HA.out j u v (by have:=HM.out;omega) hu hv,by go_grown⟩
     case measure=>simp [intOf];omega
  ·have h1: ¬(t:Int)<(n:Int):=by omega
   go_wp2_with fail
   go_ret;exact⟨Qa (by symm;exact XF fun j x y hx hy=>HA.out j x y (by have:=(List.getElem?_eq_some_iff.1 hy).1;have:=HL.out;omega) hx hy),hbel⟩
theorem Og {A:Option Addr} {n cap:Nat} {L:List Int} (w:World) (h:IntRow w A L) (hL:L.length=n):
  Calls Tryz.prog 72 #[.slice A n cap,.func (.func 73) #[] #[]] w fun e w'=>e= .returned (.bool (YM ltI L))∧Below w.heap.size w w':=by
 have HR:Hid (IntRow w A L):=h;have HL:Hid (L.length=n):=hL;have hn:=h.1;rw [hL]at hn;unfold maxLen at hn;clear h hL;go_enter Tryz.func72,Tryz.ntmps72
 go_wp2_with fail
 go_loopw [5] (fun i wr=> ∃t:Nat,i= .int .i64 (t:Int)∧1≤t∧t≤n+1∧(∀(j:Nat) x y,j+1<t→L[j]? =some x→L[j+1]? =some y→ltI x y=true)∧Below w.heap.size w wr) (fun i _=>n+1-(intOf i).toNat)
 case atStart=>exact⟨1,rfl,Nat.le_refl _,by omega,fun j x y hj=>by omega,Below.refl _ _⟩
 case round=>
  obtain⟨t,rfl,ht1,ht,hall,hbel⟩:=hrel;have HA:Hid (∀(j:Nat) x y,j+1<t→L[j]? =some x→L[j+1]? =some y→ltI x y=true):=hall;clear hall;by_cases hlt:t<n
  ·obtain⟨m,HM⟩: ∃m,Hid (t=m+1):=⟨t-1,(by omega:t=t-1+1)⟩;obtain⟨x,hx⟩:=ZF HL.out (show m<n by have:=HM.out;omega);obtain⟨y,hy⟩:=ZF HL.out hlt;have HX:Hid (L[m]? =some x):=hx;have HY:Hid (L[m+1]? =some y):=by have h:=hy;rw [HM.out]at h;exact h
   obtain⟨b,o,rfl,hl,c0⟩:=Jj HR.out hx;obtain⟨b',o',e,_,d0⟩:=Jj HR.out hy;cases e
   clear hx hy;have hs:=hbel.size;have hW:=fun b o h=>hbel.cell (p:=⟨b,o,none⟩) h;have q0:(0:Int)≤(t:Int):=by omega
   have q1:(t:Int)<(n:Int):=by omega
   have q2:(0:Int)≤(m:Int):=by omega
   have q3:(m:Int)<(n:Int):=by have:=HM.out;omega
   have q4:IntKind.i64.wrap ((t:Int)-1)=(m:Int):=by rw [IntKind.wrap_i64];have:=HM.out;omega
   cases hq:ltI x y
   ·have HQ:Hid (ltI x y=false):=hq;have hq2: ¬x<y:=of_decide_eq_false hq;clear hq;go_wp2_with fail
    go_region_held3 (fun w'=>(∀bq oq,bq<w.heap.size→w'.cell? ⟨bq,oq,none⟩=w.cell? ⟨bq,oq,none⟩)∧w.heap.size≤w'.heap.size∧Below w.heap.size w w')
     (exact Qk (Nat.le_refl _) (by go_grown))
     (first
     | (go_at_call 73;refine(Kn _ _).mono ?_;rintro e w1 ⟨rfl,hb⟩;obtain⟨hk1,hz1⟩:=Qe (B:=w.heap.size) (X:=w) (by go_grown) (by go_size) hb;clear hb))
    all_goals
     go_wp2_with fail
     go_ret;exact⟨Qa (JH HX.out HY.out HQ.out).symm,by go_grown⟩
   ·have HQ:Hid (ltI x y=true):=hq;have hq2:x<y:=of_decide_eq_true hq;clear hq;go_wp2_with fail
    go_region_held3 (fun w'=>(∀bq oq,bq<w.heap.size→w'.cell? ⟨bq,oq,none⟩=w.cell? ⟨bq,oq,none⟩)∧w.heap.size≤w'.heap.size∧Below w.heap.size w w')
     (exact Qk (Nat.le_refl _) (by go_grown))
     (first
     | (go_at_call 73;refine(Kn _ _).mono ?_;rintro e w1 ⟨rfl,hb⟩;obtain⟨hk1,hz1⟩:=Qe (B:=w.heap.size) (X:=w) (by go_grown) (by go_size) hb;clear hb))
    all_goals
     go_wp2_with fail
     go_roundw
     case rel=>exact⟨t+1,by go_num,by omega,by omega,fun j u v hj hu hv=>by
      by_cases e:j=m
      ·subst e;rw [HX.out]at hu;rw [HY.out]at hv;cases hu;cases hv;exact HQ.out
      ·exact HA.out j u v (by have:=HM.out;omega) hu hv,by go_grown⟩
     case measure=>simp [intOf];omega
  ·have h1: ¬(t:Int)<(n:Int):=by omega
   go_wp2_with fail
   go_ret;exact⟨Qa (by symm;exact XF fun j x y hx hy=>HA.out j x y (by have:=(List.getElem?_eq_some_iff.1 hy).1;have:=HL.out;omega) hx hy),hbel⟩
theorem Oh {A:Option Addr} {n cap:Nat} {L:List BR} (w:World) (h:ZT w A L) (hL:L.length=n):
  Calls Tryz.prog 54 #[.slice A n cap,.func (.func 55) #[] #[]] w fun e w'=>e= .returned (.bool (YM ltB L))∧Below w.heap.size w w':=by
 have HR:Hid (ZT w A L):=h;have HL:Hid (L.length=n):=hL;have hn:=h.1;rw [hL]at hn;unfold maxLen at hn;clear h hL;go_enter Tryz.func54,Tryz.ntmps54
 go_wp2_with fail
 go_loopw [5] (fun i wr=> ∃t:Nat,i= .int .i64 (t:Int)∧1≤t∧t≤n+1∧(∀(j:Nat) x y,j+1<t→L[j]? =some x→L[j+1]? =some y→ltB x y=true)∧Below w.heap.size w wr) (fun i _=>n+1-(intOf i).toNat)
 case atStart=>exact⟨1,rfl,Nat.le_refl _,by omega,fun j x y hj=>by omega,Below.refl _ _⟩
 case round=>
  obtain⟨t,rfl,ht1,ht,hall,hbel⟩:=hrel;have HA:Hid (∀(j:Nat) x y,j+1<t→L[j]? =some x→L[j+1]? =some y→ltB x y=true):=hall;clear hall;by_cases hlt:t<n
  ·obtain⟨m,HM⟩: ∃m,Hid (t=m+1):=⟨t-1,(by omega:t=t-1+1)⟩;obtain⟨x,hx⟩:=ZF HL.out (show m<n by have:=HM.out;omega);obtain⟨y,hy⟩:=ZF HL.out hlt;have HX:Hid (L[m]? =some x):=hx;have HY:Hid (L[m+1]? =some y):=by have h:=hy;rw [HM.out]at h;exact h
   obtain⟨b,o,rfl,hl,hc⟩:=HR.out.2 m x hx;have c0:w.cell? ⟨b,o+m*2,none⟩=some (.string x.n):=hc 0 _ rfl;have c1:w.cell? ⟨b,o+m*2+1,none⟩=some (.int .i64 x.h):=hc 1 _ rfl;obtain⟨b',o',e,_,hc'⟩:=HR.out.2 t y hy;cases e
   have d0:w.cell? ⟨b,o+t*2,none⟩=some (.string y.n):=hc' 0 _ rfl;have d1:w.cell? ⟨b,o+t*2+1,none⟩=some (.int .i64 y.h):=hc' 1 _ rfl;clear hc hc';clear hx hy;have hs:=hbel.size;have hW:=fun b o h=>hbel.cell (p:=⟨b,o,none⟩) h;have q0:(0:Int)≤(t:Int):=by omega
   have q1:(t:Int)<(n:Int):=by omega
   have q2:(0:Int)≤(m:Int):=by omega
   have q3:(m:Int)<(n:Int):=by have:=HM.out;omega
   have q4:IntKind.i64.wrap ((t:Int)-1)=(m:Int):=by rw [IntKind.wrap_i64];have:=HM.out;omega
   cases hq:ltB x y
   ·have HQ:Hid (ltB x y=false):=hq;have hq2:Op.bytesLess x.n.toList y.n.toList=false:=hq;clear hq;go_wp2_with fail
    go_region_held3 (fun w'=>(∀bq oq,bq<w.heap.size→w'.cell? ⟨bq,oq,none⟩=w.cell? ⟨bq,oq,none⟩)∧w.heap.size≤w'.heap.size∧Below w.heap.size w w')
     (exact Qk (Nat.le_refl _) (by go_grown))
     (first
     | (go_at_call 55;refine(Xw _ _ _).mono ?_;rintro e w1 ⟨rfl,hb⟩;obtain⟨hk1,hz1⟩:=Qe (B:=w.heap.size) (X:=w) (by go_grown) (by go_size) hb;clear hb))
    all_goals
     go_wp2_with fail
     go_ret;exact⟨Qa (JH HX.out HY.out HQ.out).symm,by go_grown⟩
   ·have HQ:Hid (ltB x y=true):=hq;have hq2:Op.bytesLess x.n.toList y.n.toList=true:=hq;clear hq;go_wp2_with fail
    go_region_held3 (fun w'=>(∀bq oq,bq<w.heap.size→w'.cell? ⟨bq,oq,none⟩=w.cell? ⟨bq,oq,none⟩)∧w.heap.size≤w'.heap.size∧Below w.heap.size w w')
     (exact Qk (Nat.le_refl _) (by go_grown))
     (first
     | (go_at_call 55;refine(Xw _ _ _).mono ?_;rintro e w1 ⟨rfl,hb⟩;obtain⟨hk1,hz1⟩:=Qe (B:=w.heap.size) (X:=w) (by go_grown) (by go_size) hb;clear hb))
    all_goals
     go_wp2_with fail
     go_roundw
     case rel=>exact⟨t+1,by go_num,by omega,by omega,fun j u v hj hu hv=>by
      by_cases e:j=m
      ·subst e;rw [HX.out]at hu;rw [HY.out]at hv;cases hu;cases hv;exact HQ.out
      ·exact HA.out j u v (by have:=HM.out;omega) hu hv,by go_grown⟩
     case measure=>simp [intOf];omega
  ·have h1: ¬(t:Int)<(n:Int):=by omega
   go_wp2_with fail
   go_ret;exact⟨Qa (by symm;exact XF fun j x y hx hy=>HA.out j x y (by have:=(List.getElem?_eq_some_iff.1 hy).1;have:=HL.out;omega) hx hy),hbel⟩
def QT (L:List VR):List Int:=L.map (·.id)
def Uc (ups l:List Int):Bool:=decide (ups.length≤2)&&(YM ltI ups&&ups.all fun u=>decide (u∈l))
theorem Oq {ups l:List Int} (h:2<ups.length):Uc ups l=false:=by rw [Uc,decide_eq_false (by omega),Bool.false_and]
theorem Ot {ups l:List Int} (h:YM ltI ups=false):Uc ups l=false:=by rw [Uc,h,Bool.false_and,Bool.and_false]
theorem BT {ups l:List Int} {i:Nat} {u:Int} (hu:ups[i]? =some u) (h:decide (u∈l)=false):Uc ups l=false:=by
 have e:(ups.all fun u=>decide (u∈l))=false:=by
  cases e:(ups.all fun u=>decide (u∈l))with
  | false=>rfl
  | true=>have:=List.all_eq_true.1 e u (List.mem_of_getElem? hu);rw [this]at h;cases h
 rw [Uc,e,Bool.and_false,Bool.and_false]
theorem Oo {ups l:List Int} (h1:ups.length≤2) (h2:YM ltI ups=true) (h3: ∀(i:Nat) u,ups[i]? =some u→decide (u∈l)=true):Uc ups l=true:=by
 have e:(ups.all fun u=>decide (u∈l))=true:=List.all_eq_true.2 fun u hu=>by
  obtain⟨i,hi,rfl⟩:=List.mem_iff_getElem.1 hu;exact h3 i _ (List.getElem?_eq_getElem hi)
 rw [Uc,e,h2,decide_eq_true h1];rfl
theorem Be {A:Option Addr} {m cap b n:Nat} {ups l:List Int} (w:World) (h:IntRow w A ups) (hm:ups.length=m) (hv:VMap w b n l) (hw: ∀u∈ups,(Lit.int .i64 u).wf=true):
  Calls Tryz.prog 52 #[.slice A m cap,.map (some b)] w fun e w'=>e= .returned (.bool (Uc ups l))∧Below w.heap.size w w':=by
 have HR:Hid (IntRow w A ups):=h;have HM:Hid (ups.length=m):=hm;have HV:Hid (VMap w b n l):=hv;have HW:Hid (∀u∈ups,(Lit.int .i64 u).wf=true):=hw;have hn:=h.1;rw [hm]at hn;unfold maxLen at hn
 clear h hm hv hw;by_cases h2:(2:Int)<(m:Int)
 ·go_enter Tryz.func52,Tryz.ntmps52;go_wp2_with fail
  go_ret;exact⟨Qa (Oq (by rw [HM.out];omega)).symm,by go_grown⟩
 obtain⟨ab,HAB⟩: ∃ab,Hid (YM ltI ups=ab):=⟨_,rfl⟩;go_enter Tryz.func52,Tryz.ntmps52;go_wp2_with fail
 refine(Og _ HR.out HM.out).mono ?_;rintro e u1 ⟨rfl,hb⟩;rw [HAB.out];have K1:Hid (Below w.heap.size w u1):=hb;clear hb;cases ab
 ·go_wp2_with fail
  go_ret;exact⟨Qa (Ot HAB.out).symm,K1.out⟩
 go_wp2_with fail
 go_loopw [17] (fun i wr=> ∃k:Nat,k≤m∧i= .int .i64 k∧(∀(j:Nat) u,j<k→ups[j]? =some u→decide (u∈l)=true)∧Below w.heap.size w wr) (fun i _=>m-(intOf i).toNat)
 case atStart=>exact⟨0,Nat.zero_le _,rfl,fun j u hj=>by omega,K1.out⟩
 case round=>
  obtain⟨k,hk,rfl,hall,hbel⟩:=hrel;have HA:Hid (∀(j:Nat) u,j<k→ups[j]? =some u→decide (u∈l)=true):=hall;clear hall;by_cases hlt:k<m
  ·obtain⟨x,hx⟩:=ZF HM.out hlt;have HX:Hid (ups[k]? =some x):=hx;have HXW:Hid ((Lit.int .i64 x).wf=true):=HW.out x (List.mem_of_getElem? hx);obtain⟨b1,o1,rfl,hl,c0⟩:=Jj HR.out hx;rw [←hbel.cell (p:=⟨_,_,none⟩) hl]at c0;have KB:Hid (Below w.heap.size w wr):=hbel;have HV2:=hd (HV.out.below hbel)
   have h0:(0:Int)≤(k:Int):=by omega
   have h1:(k:Int)<(m:Int):=by omega
   clear hx hbel;obtain⟨hb1,HHB⟩: ∃hb,Hid (decide (x∈l)=hb):=⟨_,rfl⟩;go_wp2_with fail
   refine(Gt x _ HV2.out HXW.out).mono ?_;rintro e u2 ⟨rfl,hb⟩;rw [HHB.out];have K2:=hd (Qb KB.out hb);clear hb;cases hb1
   ·go_wp2_with fail
    go_ret;exact⟨Qa (BT HX.out HHB.out).symm,K2.out⟩
   ·go_wp2_with fail
    go_roundw
    case rel=>exact⟨k+1,by omega,by go_num,fun j u hj hu=>by
     by_cases e:j=k
     ·subst e;rw [HX.out]at hu;cases hu;exact HHB.out
     ·exact HA.out j u (by omega) hu,K2.out⟩
    case measure=>simp [intOf];omega
  ·have h1: ¬(k:Int)<(m:Int):=by omega
   go_wp2_with fail
   go_ret;exact⟨Qa (Oo (by rw [HM.out];omega) HAB.out fun i u hu=>HA.out i u (by have:=(List.getElem?_eq_some_iff.1 hu).1;have:=HM.out;omega) hu).symm,hbel⟩
theorem VMap.put {w w':World} {b n:Nat} {l:List Int} {D:DataW Value} {d:Int} {v:DataW Value} (hD:IsMap D) (hd:(Lit.int .i64 d).wf=true) (h: ∀e,(Lit.int .i64 e).wf=true→Maps.has D (.int .i64 e)=decide (e∈l))
  (ho:w'.ownsMap Tryz.prog 2 vmE b (n+1) (D.put (.int .i64 d) v)):VMap w' b (n+1) (l++ [d]):=by
 refine⟨_,ho,?_,Qdr v hD hd h⟩;obtain⟨es,rfl⟩:=hD;exact⟨_,rfl⟩
theorem Dh {L:List VR} {t:Nat} {x:VR} (hx:L[t]? =some x):QT (L.take (t+1))=QT (L.take t)++ [x.id]:=by
 rw [List.take_add_one,hx];simp [QT]
end Go.Proofs.YtdcokcbolecanaaGreatDoor
