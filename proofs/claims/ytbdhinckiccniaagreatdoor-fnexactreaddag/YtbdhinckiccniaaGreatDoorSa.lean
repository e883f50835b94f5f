import Derived.Test.YtbdhinckiccniaaGreatDoorMn
import Derived.Test.YtbdhinckiccniaaGreatDoorGzj
import Derived.Test.YtbdhinckiccniaaGreatDoorGzeA
import Derived.Maps.Own
import Derived.Maps.OwnOps
import Derived.Maps.OwnSet
import Derived.Maps.Keyed
import Derived.Test.YtbdhinckiccniaaGreatDoorGze
import Derived.Test.YtbdhinckiccniaaGreatDoorGaa
set_option linter.unusedSimpArgs false
set_option linter.unusedVariables false
set_option maxHeartbeats 8000000
set_option maxRecDepth 100000
namespace Go.Proofs.YtbdhinckiccniaaGreatDoor
open Go.RowKit
structure BR where
 n:ByteArray
 h:Int
def brL(x:BR):List Value:= [.string x.n,.int .i64 x.h]
theorem Qgw(x:BR):(brL x).length=2:=rfl
abbrev Xy(W:World)(A:Option Addr)(L:List BR):Prop:=RowAt 2 brL W A L
def Qq6(x:BR):Prop:=x.n.size≤maxLen
def Qvj(x:BR):Prop:=x.n.size≤1048576
theorem Od(x:BR)(w:World):Calls Tryz.prog 85 #[.agg #[.string x.n,.int .i64 x.h],.agg #[.string x.n,.int .i64 x.h]] w fun e w'=>
  e= .returned (.bool true)∧Below w.heap.size w w':=by
 go_enter Tryz.func85,Tryz.ntmps85;go_wp2_with fail
 go_ret;exact⟨rfl,by go_grown⟩
theorem UR{A A':Option Addr}{n n' cap cap':Nat}{L:List BR}(w:World)(h:Xy w A L)(h':Xy w A' L)(hL:L.length=n)(hL':L.length=n'):
  Calls Tryz.prog 38 #[.slice A n cap,.slice A' n' cap'] w fun e w'=>e= .returned (.bool true)∧Below w.heap.size w w':=by
 obtain rfl:n=n':=hL.symm.trans hL';clear hL';have HR:Hid (Xy w A L):=h;have HR':Hid (Xy w A' L):=h';have HL:Hid (L.length=n):=hL;have hn:=h.1;rw[hL]at hn
 unfold maxLen at hn;clear h h' hL;go_enter Tryz.func38,Tryz.ntmps38;go_wp2_with fail
 go_loopw [5] (fun i wr=> ∃k:Nat,k≤n∧i= .int .i64 k∧Below w.heap.size w wr) (fun i _=>n-(intOf i).toNat)
 case atStart=>exact⟨0,Nat.zero_le _,rfl,Below.refl _ _⟩
 case round=>
  obtain⟨t,hk,rfl,hbel⟩:=hrel;by_cases hlt:t<n
  ·obtain⟨x,hx⟩:=Zw HL.out hlt;obtain⟨b',o',rfl,hl',hc⟩:=HR'.out.2 t x hx;have d0:w.cell? ⟨b',o'+t*2,none⟩=some (.string x.n):=hc 0 _ rfl;have d1:w.cell? ⟨b',o'+t*2+1,none⟩=some (.int .i64 x.h):=hc 1 _ rfl;clear hc;obtain⟨b,o,rfl,hl,hc⟩:=HR.out.2 t x hx;have c0:w.cell? ⟨b,o+t*2,none⟩=some (.string x.n):=hc 0 _ rfl
   have c1:w.cell? ⟨b,o+t*2+1,none⟩=some (.int .i64 x.h):=hc 1 _ rfl;clear hc hx;have hs:=hbel.size;have hW:=fun b o h=>hbel.cell (p:=⟨b,o,none⟩) h;have h0:(0:Int)≤(t:Int):=by omega
   have h1:(t:Int)<(n:Int):=by omega
   go_wp2_with fail
   go_region_held3 (fun w'=>(∀bq oq,bq<w.heap.size→w'.cell? ⟨bq,oq,none⟩=w.cell? ⟨bq,oq,none⟩)∧w.heap.size≤w'.heap.size∧Below w.heap.size w w')
    (exact Qp (Nat.le_refl _) (by go_grown))
    (first
    | (go_at_call 85;refine(Od x _).mono ?_;rintro e w1 ⟨rfl,hb⟩;obtain⟨hk1,hz1⟩:=Qg (B:=w.heap.size) (X:=w) (by go_grown) (by go_size) hb;clear hb))
   all_goals go_wp2_with fail
   all_goals
    go_roundw
    case rel=>exact⟨t+1,by omega,by go_num,by go_grown⟩
    case measure=>simp[intOf];omega
  ·have h1: ¬(t:Int)<(n:Int):=by omega
   go_wp2_with fail
   go_ret;exact⟨rfl,hbel⟩
structure VR where
 id:Int
 ups:List Int
 m:Nat
 C:Nat→Int
 R:Nat→Int
 S:Nat→ByteArray
def VrRow(W:World)(A:Option Addr)(L:List VR):Prop:=
 L.length≤maxLen∧ ∀(i:Nat) x,L[i]? =some x→ ∃b o u uc s sc,A=some ⟨b,o,none⟩∧b<W.heap.size∧W.cell? ⟨b,o+i*3,none⟩=some (.int .i64 x.id)∧W.cell? ⟨b,o+i*3+1,none⟩=some (.slice u x.ups.length uc)∧
  W.cell? ⟨b,o+i*3+2,none⟩=some (.slice s x.m sc)∧IntRow W u x.ups∧ClRow W s x.m x.C x.R x.S
theorem VrRow.below{W W':World}{A:Option Addr}{L:List VR}(h:VrRow W A L)(hb:Below W.heap.size W W'):VrRow W' A L:=
 ⟨h.1,fun i x hx=>by
  obtain⟨b,o,u,uc,s,sc,e,hl,c0,c1,c2,h1,h2⟩:=h.2 i x hx
  exact⟨b,o,u,uc,s,sc,e,Nat.lt_of_lt_of_le hl hb.size,(hb.cell (p:=⟨b,_,none⟩) hl).trans c0,(hb.cell (p:=⟨b,_,none⟩) hl).trans c1,(hb.cell (p:=⟨b,_,none⟩) hl).trans c2,h1.below hb,h2.below hb⟩⟩
def Qub(x:VR):Prop:=x.ups.length≤1048576∧x.m≤1048576
def Qny(x:VR):Prop:=(∀i,i<x.m→(x.S i).size≤maxLen)∧ ∀u∈x.ups,(Lit.int .i64 u).wf=true
theorem Vr{W W':World}{B g k s:Nat}{e:TypeId}{v:Value}{xs:List Value}(h:W.ownsRow B e s v k xs)(hg:W.grownBy W' (some g))(hB:g<B):W'.ownsRow B e s v k xs:=
 h.kept hg (by
  cases hv:v.ownBlock with
  | none=>exact Or.inl rfl
  | some q=>exact Or.inr (fun e9=>by have:=(h.lt q hv).1;cases e9;omega))
theorem UO(x:VR){u s u' s':Option Addr}{uc sc uc' sc':Nat}(w:World)(hu:IntRow w u x.ups)(hs:ClRow w s x.m x.C x.R x.S)(hu':IntRow w u' x.ups)(hs':ClRow w s' x.m x.C x.R x.S):
  Calls Tryz.prog 84 #[.agg #[.int .i64 x.id,.slice u x.ups.length uc,.slice s x.m sc],.agg #[.int .i64 x.id,.slice u' x.ups.length uc',.slice s' x.m sc']] w fun e w'=>e= .returned (.bool true)∧Below w.heap.size w w':=by
 have HU:Hid (IntRow w u x.ups):=hu;have HS:Hid (ClRow w s x.m x.C x.R x.S):=hs;have HU':Hid (IntRow w u' x.ups):=hu';have HS':Hid (ClRow w s' x.m x.C x.R x.S):=hs';clear hu hs hu' hs';go_enter Tryz.func84,Tryz.ntmps84;go_wp2_with fail
 refine(Oc _ (HU.out.below (by go_grown)) (HU'.out.below (by go_grown))).mono ?_;rintro e w1 ⟨rfl,hb⟩;obtain⟨hc1,hf1,hC1,hF1,hz1,hk1,l0,l1⟩:=bk2 (w:=w) (by go_grown) (by go_size) hb;clear hb;go_wp2_with fail
 refine(Bq _ (HS.out.below hk1) (HS'.out.below hk1)).mono ?_;rintro e w2 ⟨rfl,hb⟩;have K2:=hd (Qc hk1 hb);clear hb;go_wp2_with fail
 go_ret;exact⟨rfl,K2.out⟩
theorem Ul{A A':Option Addr}{n cap cap':Nat}{L:List VR}(w:World)(h:VrRow w A L)(h':VrRow w A' L)(hL:L.length=n):
  Calls Tryz.prog 37 #[.slice A n cap,.slice A' n cap'] w fun e w'=>e= .returned (.bool true)∧Below w.heap.size w w':=by
 have HR:Hid (VrRow w A L):=h;have HR':Hid (VrRow w A' L):=h';have HL:Hid (L.length=n):=hL;have hn:=h.1;rw[hL]at hn;unfold maxLen at hn;clear h h' hL
 go_enter Tryz.func37,Tryz.ntmps37;go_wp2_with fail
 go_loopw [5] (fun i wr=> ∃k:Nat,k≤n∧i= .int .i64 k∧Below w.heap.size w wr) (fun i _=>n-(intOf i).toNat)
 case atStart=>exact⟨0,Nat.zero_le _,rfl,Below.refl _ _⟩
 case round=>
  obtain⟨k,hk,rfl,hbel⟩:=hrel;by_cases hlt:k<n
  ·obtain⟨x,hx⟩:=Zw HL.out hlt;obtain⟨b,o,u,uc,s,sc,rfl,hl,c0,c1,c2,r1,r2⟩:=HR.out.2 k x hx;obtain⟨b',o',u',uc',s',sc',rfl,hl',c0',c1',c2',r1',r2'⟩:=HR'.out.2 k x hx;have R1:Hid (IntRow w u x.ups):=r1;have R2:Hid (ClRow w s x.m x.C x.R x.S):=r2;have R1':Hid (IntRow w u' x.ups):=r1';have R2':Hid (ClRow w s' x.m x.C x.R x.S):=r2'
   clear hx r1 r2 r1' r2';have hs:=hbel.size;have hW:=fun b o h=>hbel.cell (p:=⟨b,o,none⟩) h;have h0:(0:Int)≤(k:Int):=by omega
   have h1:(k:Int)<(n:Int):=by omega
   go_wp2_with fail
   go_region_held3 (fun w'=>(∀bq oq,bq<w.heap.size→w'.cell? ⟨bq,oq,none⟩=w.cell? ⟨bq,oq,none⟩)∧w.heap.size≤w'.heap.size∧Below w.heap.size w w')
    (exact Qp (Nat.le_refl _) (by go_grown))
    (first
    | (go_at_call 84;refine(UO x _ (R1.out.below (by go_grown)) (R2.out.below (by go_grown)) (R1'.out.below (by go_grown)) (R2'.out.below (by go_grown))).mono ?_;rintro e w1 ⟨rfl,hb⟩;obtain⟨hk1,hz1⟩:=Qg (B:=w.heap.size) (X:=w) (by go_grown) (by go_size) hb;clear hb))
   all_goals go_wp2_with fail
   all_goals
    go_roundw
    case rel=>exact⟨k+1,by omega,by go_num,by go_grown⟩
    case measure=>simp[intOf];omega
  ·have h1: ¬(k:Int)<(n:Int):=by omega
   go_wp2_with fail
   go_ret;exact⟨rfl,hbel⟩
structure DG where
 next:Int
 vs:List VR
 bs:List BR
def DgRow(W:World)(v:Value)(d:DG):Prop:= ∃A1 c1 A2 c2,v= .agg #[.int .i64 d.next,.slice A1 d.vs.length c1,.slice A2 d.bs.length c2]∧VrRow W A1 d.vs∧Xy W A2 d.bs
theorem DgRow.below{W W':World}{v:Value}{d:DG}(h:DgRow W v d)(hb:Below W.heap.size W W'):DgRow W' v d:=by
 obtain⟨A1,c1,A2,c2,e,h1,h2⟩:=h;exact⟨A1,c1,A2,c2,e,h1.below hb,h2.below hb⟩
theorem DgRow.agg{W:World}{v:Value}{d:DG}(h:DgRow W v d): ∃A1 n1 c1 A2 n2 c2,v= .agg #[.int .i64 d.next,.slice A1 n1 c1,.slice A2 n2 c2]:=by
 obtain⟨A1,c1,A2,c2,e,_⟩:=h;exact⟨A1,_,c1,A2,_,c2,e⟩
theorem DgRow.open{W:World}{d:DG}{A1 A2:Option Addr}{n1 n2 c1 c2:Nat}(h:DgRow W (.agg #[.int .i64 d.next,.slice A1 n1 c1,.slice A2 n2 c2]) d):VrRow W A1 d.vs∧d.vs.length=n1∧Xy W A2 d.bs∧d.bs.length=n2:=by
 obtain⟨A1',c1',A2',c2',e,h1,h2⟩:=h;cases e;exact⟨h1,rfl,h2,rfl⟩
structure DgLil (d:DG):Prop where
 v: ∀x∈d.vs,Qub x
 b: ∀x∈d.bs,Qvj x
 nv:d.vs.length≤1048576
 nb:d.bs.length≤1048576
structure DgOk (d:DG):Prop where
 v: ∀x∈d.vs,Qny x
 b: ∀x∈d.bs,Qq6 x
 h: ∀x∈d.bs,(Lit.int .i64 x.h).wf=true
theorem Qrm{v v':Value}{d:DG}(w:World)(h:DgRow w v d)(h':DgRow w v' d):
  Calls Tryz.prog 15 #[v,v'] w fun e w'=>e= .returned (.bool true)∧Below w.heap.size w w':=by
 obtain⟨A1,n1,c1,A2,n2,c2,rfl⟩:=h.agg;obtain⟨B1,m1,d1,B2,m2,d2,rfl⟩:=h'.agg;obtain⟨r1,e1,r2,e2⟩:=h.open;obtain⟨s1,f1,s2,f2⟩:=h'.open;obtain rfl:n1=m1:=e1.symm.trans f1;obtain rfl:n2=m2:=e2.symm.trans f2;have R1:Hid (VrRow w A1 d.vs):=r1
 have R2:Hid (Xy w A2 d.bs):=r2;have S1:Hid (VrRow w B1 d.vs):=s1;have S2:Hid (Xy w B2 d.bs):=s2;have E1:Hid (d.vs.length=n1):=e1;have E2:Hid (d.bs.length=n2):=e2;clear h h' r1 r2 e1 e2 s1 s2 f1 f2;go_enter Tryz.func15,Tryz.ntmps15
 go_wp2_with fail
 refine(Ul _ (R1.out.below (by go_grown)) (S1.out.below (by go_grown)) E1.out).mono ?_;rintro e u1 ⟨rfl,hb⟩;obtain⟨hc,hf,hC,hF,hz,hk,l0,l1⟩:=bk2 (w:=w) (by go_grown) (by go_size) hb;clear hb;go_wp2_with fail
 refine(UR _ (R2.out.below hk) (S2.out.below hk) E2.out E2.out).mono ?_;rintro e u2 ⟨rfl,hb⟩;have K2:=hd (Qc hk hb);clear hb;go_wp2_with fail
 go_ret;exact⟨rfl,K2.out⟩
end Go.Proofs.YtbdhinckiccniaaGreatDoor
namespace Go.Proofs.YtbdhinckiccniaaGreatDoor
open Go.RowKit Go.Maps
theorem keyedI:Keyed Tryz.prog 2:=int_keyed Tryz.underlying2
theorem Qro{d:Int}(h:(Lit.int .i64 d).wf=true):keyOf Tryz.prog 2 (.int .i64 d)=some (.int .i64 d):=keyOf_int_mk Tryz.underlying2 h
theorem Qr1(w:World):(zeroValue 72).run Tryz.prog w= .ok (.agg #[.int .i64 0,.slice none 0 0,.slice none 0 0]) w:=by kernel_rfl
def vmE(v:Value):Option (DataW Value × List MemPlace):=
 match v with
 | .agg a=>match a.toList with
  | [.int .i64 d,.slice u n c,.slice s m k]=>some (.held (.agg #[.int .i64 d,.slice u n c,.slice s m k]),[])
  | _=>none
 | _=>none
theorem Qel(d:Int)(u s:Option Addr)(n c m k:Nat):vmE (.agg #[.int .i64 d,.slice u n c,.slice s m k])=some (.held (.agg #[.int .i64 d,.slice u n c,.slice s m k]),[]):=rfl
theorem Qn0{v:Value}{y:DataW Value × List MemPlace}(h:vmE v=some y): ∃d u n c s m k,v= .agg #[.int .i64 d,.slice u n c,.slice s m k]∧y=(.held (.agg #[.int .i64 d,.slice u n c,.slice s m k]),[]):=by
 unfold vmE at h;split at h
 ·rename_i a
  split at h
  ·rename_i d u n c s m k e
   cases h
   refine⟨d,u,n,c,s,m,k,?_,rfl⟩;obtain⟨l⟩:=a;simp only at e;rw[e]
  ·cases h
 ·cases h
def VMap(w:World)(b n:Nat)(l:List Int):Prop:= ∃D,w.ownsMap Tryz.prog 2 vmE b n D∧IsMap D∧ ∀d,(Lit.int .i64 d).wf=true→Maps.has D (.int .i64 d)=decide (d∈l)
theorem VMap.below{w w':World}{b n:Nat}{l:List Int}(h:VMap w b n l)(hb:Below w.heap.size w w'):VMap w' b n l:=by
 obtain⟨D,h1,h2,h3⟩:=h;have hg:w.grownBy w' none:=⟨hb.1,hb.2,hb.3,hb.4,fun q hq _=>hb.5 q hq⟩;exact⟨D,h1.kept hg (by simp),h2,h3⟩
theorem Qu9(d:Int)(h:(Lit.int .i64 d).wf=true):WideAt.IsKeyLit (Lit.int .i64 d):=keyedI.key (Qro h)
theorem Qla{D:DataW Value}{l:List Int}{d:Int}(v:DataW Value)(hD:IsMap D)(hdq:(Lit.int .i64 d).wf=true)(h: ∀e,(Lit.int .i64 e).wf=true→Maps.has D (.int .i64 e)=decide (e∈l)):
  ∀e,(Lit.int .i64 e).wf=true→Maps.has (D.put (.int .i64 d) v) (.int .i64 e)=decide (e∈l++ [d]):=fun e he=>by
 by_cases hed:e=d
 ·subst hed;rw[has_put_same hD (Qu9 e hdq)];simp
 ·rw[has_put_other (by intro h9;cases h9;exact hed rfl),h e he];simp[hed]
theorem MJ{b n:Nat}{l:List Int}(d:Int)(w:World)(h:VMap w b n l)(hdq:(Lit.int .i64 d).wf=true):
  Calls Tryz.prog 195 #[.map (some b),.int .i64 d] w fun e w'=>e= .returned (.bool (decide (d∈l)))∧Below w.heap.size w w':=by
 obtain⟨D,ho,_,hh⟩:=h;have HO:Hid (w.ownsMap Tryz.prog 2 vmE b n D):=ho;have HH:Hid (Maps.has D (.int .i64 d)=decide (d∈l)):=hh d hdq;have HD:Hid ((Lit.int .i64 d).wf=true):=hdq;obtain⟨bb,HBB⟩: ∃bb,Hid (decide (d∈l)=bb):=⟨_,rfl⟩;rw[HBB.out];clear ho hh hdq
 go_enter Tryz.func195,Tryz.ntmps195
 go_wp2_with (first
  | (at_lookup;refine wpList_lookup_own_ok _ rfl _ _ 211 rfl 2 72 keyedI Tryz.underlying211 vmE (Qr1 _) _ _ (Qel _ _ _ _ _ _ _) b n D rfl HO.out _ _ rfl (Qro HD.out) (fun v ps hv=> ?_);obtain⟨d0,u0,n0,c0,s0,m0,k0,rfl,hv2⟩:=Qn0 hv;clear hv hv2;rw[HH.out,HBB.out]))
 go_ret;exact⟨rfl,by go_grown⟩
def YQ{α:Type}(lt:α→α→Bool):List α→Bool
 | x::y::r=>lt x y&&YQ lt (y::r)
 | _=>true
theorem EF{α:Type}{lt:α→α→Bool}: ∀{L:List α} {i:Nat} {x y:α},YQ lt L=true→L[i]? =some x→L[i+1]? =some y→lt x y=true
 | x::y::r,0,u,v,h,hx,hy=>by
  simp at hx hy;subst hx hy;simp[YQ]at h;exact h.1
 | x::y::r,i+1,u,v,h,hx,hy=>by
  simp only[YQ,Bool.and_eq_true]at h;exact EF (L:=y::r) (i:=i) h.2 (by simpa using hx) (by simpa using hy)
 | [x],0,u,v,h,hx,hy=>by simp at hy
 | [x],i+1,u,v,h,hx,hy=>by simp at hx
 | [],i,u,v,h,hx,hy=>by simp at hx
theorem JE{α:Type}{lt:α→α→Bool}: ∀{L:List α},(∀(i:Nat) x y,L[i]? =some x→L[i+1]? =some y→lt x y=true)→YQ lt L=true
 | [],_=>rfl
 | [x],_=>rfl
 | x::y::r,h=>by
  simp only[YQ,Bool.and_eq_true];exact⟨h 0 x y (by simp) (by simp),JE (L:=y::r) (fun i u v hu hv=>h (i+1) u v (by simpa using hu) (by simpa using hv))⟩
theorem VV{α:Type}{lt:α→α→Bool}{L:List α}{i:Nat}{x y:α}(hx:L[i]? =some x)(hy:L[i+1]? =some y)(h:lt x y=false):YQ lt L=false:=by
 cases e:YQ lt L
 ·rfl
 ·rw[EF e hx hy]at h;cases h
def ltV(x y:VR):Bool:=decide (x.id<y.id)
def ltI(x y:Int):Bool:=decide (x<y)
def ltB(x y:BR):Bool:=Op.bytesLess x.n.toList y.n.toList
theorem Xp{W:World}{A:Option Addr}{l:List Int}(h:IntRow W A l){i:Nat}{x:Int}(hx:l[i]? =some x): ∃b o,A=some ⟨b,o,none⟩∧b<W.heap.size∧W.cell? ⟨b,o+i,none⟩=some (.int .i64 x):=by
 have hi:=(List.getElem?_eq_some_iff.1 hx).1;obtain⟨b,o,e,hl,c⟩:=h.2 i hi;rw[List.getD_eq_getElem?_getD,hx]at c;exact⟨b,o,e,hl,c⟩
theorem JR(d:Int)(u s:Option Addr)(n c m k:Nat)(w:World):Calls Tryz.prog 189 #[.agg #[.int .i64 d,.slice u n c,.slice s m k]] w fun e w'=>e= .returned (.int .i64 d)∧Below w.heap.size w w':=by
 go_enter Tryz.func189,Tryz.ntmps189;go_wp2_with fail
 go_ret;exact⟨rfl,by go_grown⟩
theorem Ua(d:Int)(w:World):Calls Tryz.prog 239 #[.int .i64 d] w fun e w'=>e= .returned (.int .i64 d)∧Below w.heap.size w w':=by
 go_enter Tryz.func239,Tryz.ntmps239;go_wp2_with fail
 go_ret;exact⟨rfl,by go_grown⟩
theorem Jt(s:ByteArray)(h:Int)(w:World):Calls Tryz.prog 192 #[.agg #[.string s,.int .i64 h]] w fun e w'=>e= .returned (.string s)∧Below w.heap.size w w':=by
 go_enter Tryz.func192,Tryz.ntmps192;go_wp2_with fail
 go_ret;exact⟨rfl,by go_grown⟩
theorem Qau{A:Option Addr}{n cap:Nat}{L:List VR}(w:World)(h:VrRow w A L)(hL:L.length=n):
  Calls Tryz.prog 188 #[.slice A n cap,.func (.func 189) #[] #[]] w fun e w'=>e= .returned (.bool (YQ ltV L))∧Below w.heap.size w w':=by
 have HR:Hid (VrRow w A L):=h;have HL:Hid (L.length=n):=hL;have hn:=h.1;rw[hL]at hn;unfold maxLen at hn;clear h hL;go_enter Tryz.func188,Tryz.ntmps188
 go_wp2_with fail
 go_loopw [5] (fun i wr=> ∃t:Nat,i= .int .i64 (t:Int)∧1≤t∧t≤n+1∧(∀(j:Nat) x y,j+1<t→L[j]? =some x→L[j+1]? =some y→ltV x y=true)∧Below w.heap.size w wr) (fun i _=>n+1-(intOf i).toNat)
 case atStart=>exact⟨1,rfl,Nat.le_refl _,by omega,fun j x y hj=>by omega,Below.refl _ _⟩
 case round=>
  obtain⟨t,rfl,ht1,ht,hall,hbel⟩:=hrel;have HA:Hid (∀(j:Nat) x y,j+1<t→L[j]? =some x→L[j+1]? =some y→ltV x y=true):=hall;clear hall;by_cases hlt:t<n
  ·obtain⟨m,HM⟩: ∃m,Hid (t=m+1):=⟨t-1,(by omega:t=t-1+1)⟩;obtain⟨x,hx⟩:=Zw HL.out (show m<n by have:=HM.out;omega);obtain⟨y,hy⟩:=Zw HL.out hlt;have HX:Hid (L[m]? =some x):=hx;have HY:Hid (L[m+1]? =some y):=by have h:=hy;rw[HM.out]at h;exact h
   obtain⟨b,o,u,uc,s,sc,rfl,hl,c0,c1,c2,_,_⟩:=HR.out.2 m x hx;obtain⟨b',o',u',uc',s',sc',e,_,d0,d1,d2,_,_⟩:=HR.out.2 t y hy;cases e
   clear hx hy;have hs:=hbel.size;have hW:=fun b o h=>hbel.cell (p:=⟨b,o,none⟩) h;have q0:(0:Int)≤(t:Int):=by omega
   have q1:(t:Int)<(n:Int):=by omega
   have q2:(0:Int)≤(m:Int):=by omega
   have q3:(m:Int)<(n:Int):=by have:=HM.out;omega
   have q4:IntKind.i64.wrap ((t:Int)-1)=(m:Int):=by rw[IntKind.wrap_i64];have:=HM.out;omega
   cases hq:ltV x y
   ·have HQ:Hid (ltV x y=false):=hq;have hq2: ¬x.id<y.id:=of_decide_eq_false hq;clear hq;go_wp2_with fail
    go_region_held3 (fun w'=>(∀bq oq,bq<w.heap.size→w'.cell? ⟨bq,oq,none⟩=w.cell? ⟨bq,oq,none⟩)∧w.heap.size≤w'.heap.size∧Below w.heap.size w w')
     (exact Qp (Nat.le_refl _) (by go_grown))
     (first
     | (go_at_call 189;refine(JR _ _ _ _ _ _ _ _).mono ?_;rintro e w1 ⟨rfl,hb⟩;obtain⟨hk1,hz1⟩:=Qg (B:=w.heap.size) (X:=w) (by go_grown) (by go_size) hb;clear hb))
    all_goals
     go_wp2_with fail
     go_ret;exact⟨Qb (VV HX.out HY.out HQ.out).symm,by go_grown⟩
   ·have HQ:Hid (ltV x y=true):=hq;have hq2:x.id<y.id:=of_decide_eq_true hq;clear hq;go_wp2_with fail
    go_region_held3 (fun w'=>(∀bq oq,bq<w.heap.size→w'.cell? ⟨bq,oq,none⟩=w.cell? ⟨bq,oq,none⟩)∧w.heap.size≤w'.heap.size∧Below w.heap.size w w')
     (exact Qp (Nat.le_refl _) (by go_grown))
     (first
     | (go_at_call 189;refine(JR _ _ _ _ _ _ _ _).mono ?_;rintro e w1 ⟨rfl,hb⟩;obtain⟨hk1,hz1⟩:=Qg (B:=w.heap.size) (X:=w) (by go_grown) (by go_size) hb;clear hb))
    all_goals
     go_wp2_with fail
     go_roundw
     case rel=>exact⟨t+1,by go_num,by omega,by omega,fun j u v hj hu hv=>by
      by_cases e:j=m
      ·subst e;rw[HX.out]at hu;rw[HY.out]at hv;cases hu;cases hv;exact HQ.out
      ·exact HA.out j u v (by have:=HM.out;omega) hu hv,by go_grown⟩
     case measure=>simp[intOf];omega
  ·have h1: ¬(t:Int)<(n:Int):=by omega
   go_wp2_with fail
   go_ret;exact⟨Qb (by symm;exact JE fun j x y hx hy=>HA.out j x y (by have:=(List.getElem?_eq_some_iff.1 hy).1;have:=HL.out;omega) hx hy),hbel⟩
theorem Qav{A:Option Addr}{n cap:Nat}{L:List Int}(w:World)(h:IntRow w A L)(hL:L.length=n):
  Calls Tryz.prog 238 #[.slice A n cap,.func (.func 239) #[] #[]] w fun e w'=>e= .returned (.bool (YQ ltI L))∧Below w.heap.size w w':=by
 have HR:Hid (IntRow w A L):=h;have HL:Hid (L.length=n):=hL;have hn:=h.1;rw[hL]at hn;unfold maxLen at hn;clear h hL;go_enter Tryz.func238,Tryz.ntmps238
 go_wp2_with fail
 go_loopw [5] (fun i wr=> ∃t:Nat,i= .int .i64 (t:Int)∧1≤t∧t≤n+1∧(∀(j:Nat) x y,j+1<t→L[j]? =some x→L[j+1]? =some y→ltI x y=true)∧Below w.heap.size w wr) (fun i _=>n+1-(intOf i).toNat)
 case atStart=>exact⟨1,rfl,Nat.le_refl _,by omega,fun j x y hj=>by omega,Below.refl _ _⟩
 case round=>
  obtain⟨t,rfl,ht1,ht,hall,hbel⟩:=hrel;have HA:Hid (∀(j:Nat) x y,j+1<t→L[j]? =some x→L[j+1]? =some y→ltI x y=true):=hall;clear hall;by_cases hlt:t<n
  ·obtain⟨m,HM⟩: ∃m,Hid (t=m+1):=⟨t-1,(by omega:t=t-1+1)⟩;obtain⟨x,hx⟩:=Zw HL.out (show m<n by have:=HM.out;omega);obtain⟨y,hy⟩:=Zw HL.out hlt;have HX:Hid (L[m]? =some x):=hx;have HY:Hid (L[m+1]? =some y):=by have h:=hy;rw[HM.out]at h;exact h
   obtain⟨b,o,rfl,hl,c0⟩:=Xp HR.out hx;obtain⟨b',o',e,_,d0⟩:=Xp HR.out hy;cases e
   clear hx hy;have hs:=hbel.size;have hW:=fun b o h=>hbel.cell (p:=⟨b,o,none⟩) h;have q0:(0:Int)≤(t:Int):=by omega
   have q1:(t:Int)<(n:Int):=by omega
   have q2:(0:Int)≤(m:Int):=by omega
   have q3:(m:Int)<(n:Int):=by have:=HM.out;omega
   have q4:IntKind.i64.wrap ((t:Int)-1)=(m:Int):=by rw[IntKind.wrap_i64];have:=HM.out;omega
   cases hq:ltI x y
   ·have HQ:Hid (ltI x y=false):=hq;have hq2: ¬x<y:=of_decide_eq_false hq;clear hq;go_wp2_with fail
    go_region_held3 (fun w'=>(∀bq oq,bq<w.heap.size→w'.cell? ⟨bq,oq,none⟩=w.cell? ⟨bq,oq,none⟩)∧w.heap.size≤w'.heap.size∧Below w.heap.size w w')
     (exact Qp (Nat.le_refl _) (by go_grown))
     (first
     | (go_at_call 239;refine(Ua _ _).mono ?_;rintro e w1 ⟨rfl,hb⟩;obtain⟨hk1,hz1⟩:=Qg (B:=w.heap.size) (X:=w) (by go_grown) (by go_size) hb;clear hb))
    all_goals
     go_wp2_with fail
     go_ret;exact⟨Qb (VV HX.out HY.out HQ.out).symm,by go_grown⟩
   ·have HQ:Hid (ltI x y=true):=hq;have hq2:x<y:=of_decide_eq_true hq;clear hq;go_wp2_with fail
    go_region_held3 (fun w'=>(∀bq oq,bq<w.heap.size→w'.cell? ⟨bq,oq,none⟩=w.cell? ⟨bq,oq,none⟩)∧w.heap.size≤w'.heap.size∧Below w.heap.size w w')
     (exact Qp (Nat.le_refl _) (by go_grown))
     (first
     | (go_at_call 239;refine(Ua _ _).mono ?_;rintro e w1 ⟨rfl,hb⟩;obtain⟨hk1,hz1⟩:=Qg (B:=w.heap.size) (X:=w) (by go_grown) (by go_size) hb;clear hb))
    all_goals
     go_wp2_with fail
     go_roundw
     case rel=>exact⟨t+1,by go_num,by omega,by omega,fun j u v hj hu hv=>by
      by_cases e:j=m
      ·subst e;rw[HX.out]at hu;rw[HY.out]at hv;cases hu;cases hv;exact HQ.out
      ·exact HA.out j u v (by have:=HM.out;omega) hu hv,by go_grown⟩
     case measure=>simp[intOf];omega
  ·have h1: ¬(t:Int)<(n:Int):=by omega
   go_wp2_with fail
   go_ret;exact⟨Qb (by symm;exact JE fun j x y hx hy=>HA.out j x y (by have:=(List.getElem?_eq_some_iff.1 hy).1;have:=HL.out;omega) hx hy),hbel⟩
theorem Qaw{A:Option Addr}{n cap:Nat}{L:List BR}(w:World)(h:Xy w A L)(hL:L.length=n):
  Calls Tryz.prog 191 #[.slice A n cap,.func (.func 192) #[] #[]] w fun e w'=>e= .returned (.bool (YQ ltB L))∧Below w.heap.size w w':=by
 have HR:Hid (Xy w A L):=h;have HL:Hid (L.length=n):=hL;have hn:=h.1;rw[hL]at hn;unfold maxLen at hn;clear h hL;go_enter Tryz.func191,Tryz.ntmps191
 go_wp2_with fail
 go_loopw [5] (fun i wr=> ∃t:Nat,i= .int .i64 (t:Int)∧1≤t∧t≤n+1∧(∀(j:Nat) x y,j+1<t→L[j]? =some x→L[j+1]? =some y→ltB x y=true)∧Below w.heap.size w wr) (fun i _=>n+1-(intOf i).toNat)
 case atStart=>exact⟨1,rfl,Nat.le_refl _,by omega,fun j x y hj=>by omega,Below.refl _ _⟩
 case round=>
  obtain⟨t,rfl,ht1,ht,hall,hbel⟩:=hrel;have HA:Hid (∀(j:Nat) x y,j+1<t→L[j]? =some x→L[j+1]? =some y→ltB x y=true):=hall;clear hall;by_cases hlt:t<n
  ·obtain⟨m,HM⟩: ∃m,Hid (t=m+1):=⟨t-1,(by omega:t=t-1+1)⟩;obtain⟨x,hx⟩:=Zw HL.out (show m<n by have:=HM.out;omega);obtain⟨y,hy⟩:=Zw HL.out hlt;have HX:Hid (L[m]? =some x):=hx;have HY:Hid (L[m+1]? =some y):=by have h:=hy;rw[HM.out]at h;exact h
   obtain⟨b,o,rfl,hl,hc⟩:=HR.out.2 m x hx;have c0:w.cell? ⟨b,o+m*2,none⟩=some (.string x.n):=hc 0 _ rfl;have c1:w.cell? ⟨b,o+m*2+1,none⟩=some (.int .i64 x.h):=hc 1 _ rfl;obtain⟨b',o',e,_,hc'⟩:=HR.out.2 t y hy;cases e
   have d0:w.cell? ⟨b,o+t*2,none⟩=some (.string y.n):=hc' 0 _ rfl;have d1:w.cell? ⟨b,o+t*2+1,none⟩=some (.int .i64 y.h):=hc' 1 _ rfl;clear hc hc';clear hx hy;have hs:=hbel.size;have hW:=fun b o h=>hbel.cell (p:=⟨b,o,none⟩) h;have q0:(0:Int)≤(t:Int):=by omega
   have q1:(t:Int)<(n:Int):=by omega
   have q2:(0:Int)≤(m:Int):=by omega
   have q3:(m:Int)<(n:Int):=by have:=HM.out;omega
   have q4:IntKind.i64.wrap ((t:Int)-1)=(m:Int):=by rw[IntKind.wrap_i64];have:=HM.out;omega
   cases hq:ltB x y
   ·have HQ:Hid (ltB x y=false):=hq;have hq2:Op.bytesLess x.n.toList y.n.toList=false:=hq;clear hq;go_wp2_with fail
    go_region_held3 (fun w'=>(∀bq oq,bq<w.heap.size→w'.cell? ⟨bq,oq,none⟩=w.cell? ⟨bq,oq,none⟩)∧w.heap.size≤w'.heap.size∧Below w.heap.size w w')
     (exact Qp (Nat.le_refl _) (by go_grown))
     (first
     | (go_at_call 192;refine(Jt _ _ _).mono ?_;rintro e w1 ⟨rfl,hb⟩;obtain⟨hk1,hz1⟩:=Qg (B:=w.heap.size) (X:=w) (by go_grown) (by go_size) hb;clear hb))
    all_goals
     go_wp2_with fail
     go_ret;exact⟨Qb (VV HX.out HY.out HQ.out).symm,by go_grown⟩
   ·have HQ:Hid (ltB x y=true):=hq;have hq2:Op.bytesLess x.n.toList y.n.toList=true:=hq;clear hq;go_wp2_with fail
    go_region_held3 (fun w'=>(∀bq oq,bq<w.heap.size→w'.cell? ⟨bq,oq,none⟩=w.cell? ⟨bq,oq,none⟩)∧w.heap.size≤w'.heap.size∧Below w.heap.size w w')
     (exact Qp (Nat.le_refl _) (by go_grown))
     (first
     | (go_at_call 192;refine(Jt _ _ _).mono ?_;rintro e w1 ⟨rfl,hb⟩;obtain⟨hk1,hz1⟩:=Qg (B:=w.heap.size) (X:=w) (by go_grown) (by go_size) hb;clear hb))
    all_goals
     go_wp2_with fail
     go_roundw
     case rel=>exact⟨t+1,by go_num,by omega,by omega,fun j u v hj hu hv=>by
      by_cases e:j=m
      ·subst e;rw[HX.out]at hu;rw[HY.out]at hv;cases hu;cases hv;exact HQ.out
      ·exact HA.out j u v (by have:=HM.out;omega) hu hv,by go_grown⟩
     case measure=>simp[intOf];omega
  ·have h1: ¬(t:Int)<(n:Int):=by omega
   go_wp2_with fail
   go_ret;exact⟨Qb (by symm;exact JE fun j x y hx hy=>HA.out j x y (by have:=(List.getElem?_eq_some_iff.1 hy).1;have:=HL.out;omega) hx hy),hbel⟩
def QA(L:List VR):List Int:=L.map (·.id)
def NJ(ups l:List Int):Bool:=decide (ups.length≤2)&&(YQ ltI ups&&ups.all fun u=>decide (u∈l))
theorem Qa9{ups l:List Int}(h:2<ups.length):NJ ups l=false:=by rw[NJ,decide_eq_false (by omega),Bool.false_and]
theorem Qba{ups l:List Int}(h:YQ ltI ups=false):NJ ups l=false:=by rw[NJ,h,Bool.false_and,Bool.and_false]
theorem Qfb{ups l:List Int}{i:Nat}{u:Int}(hu:ups[i]? =some u)(h:decide (u∈l)=false):NJ ups l=false:=by
 have e:(ups.all fun u=>decide (u∈l))=false:=by
  cases e:(ups.all fun u=>decide (u∈l))with
  | false=>rfl
  | true=>have:=List.all_eq_true.1 e u (List.mem_of_getElem? hu);rw[this]at h;cases h
 rw[NJ,e,Bool.and_false,Bool.and_false]
theorem Qa8{ups l:List Int}(h1:ups.length≤2)(h2:YQ ltI ups=true)(h3: ∀(i:Nat) u,ups[i]? =some u→decide (u∈l)=true):NJ ups l=true:=by
 have e:(ups.all fun u=>decide (u∈l))=true:=List.all_eq_true.2 fun u hu=>by
  obtain⟨i,hi,rfl⟩:=List.mem_iff_getElem.1 hu;exact h3 i _ (List.getElem?_eq_getElem hi)
 rw[NJ,e,h2,decide_eq_true h1];rfl
theorem Qdt{A:Option Addr}{m cap b n:Nat}{ups l:List Int}(w:World)(h:IntRow w A ups)(hm:ups.length=m)(hv:VMap w b n l)(hw: ∀u∈ups,(Lit.int .i64 u).wf=true):
  Calls Tryz.prog 190 #[.slice A m cap,.map (some b)] w fun e w'=>e= .returned (.bool (NJ ups l))∧Below w.heap.size w w':=by
 have HR:Hid (IntRow w A ups):=h;have HM:Hid (ups.length=m):=hm;have HV:Hid (VMap w b n l):=hv;have HW:Hid (∀u∈ups,(Lit.int .i64 u).wf=true):=hw;have hn:=h.1;rw[hm]at hn;unfold maxLen at hn
 clear h hm hv hw;by_cases h2:(2:Int)<(m:Int)
 ·go_enter Tryz.func190,Tryz.ntmps190;go_wp2_with fail
  go_ret;exact⟨Qb (Qa9 (by rw[HM.out];omega)).symm,by go_grown⟩
 obtain⟨ab,HAB⟩: ∃ab,Hid (YQ ltI ups=ab):=⟨_,rfl⟩;go_enter Tryz.func190,Tryz.ntmps190;go_wp2_with fail
 refine(Qav _ HR.out HM.out).mono ?_;rintro e u1 ⟨rfl,hb⟩;rw[HAB.out];have K1:Hid (Below w.heap.size w u1):=hb;clear hb;cases ab
 ·go_wp2_with fail
  go_ret;exact⟨Qb (Qba HAB.out).symm,K1.out⟩
 go_wp2_with fail
 go_loopw [17] (fun i wr=> ∃k:Nat,k≤m∧i= .int .i64 k∧(∀(j:Nat) u,j<k→ups[j]? =some u→decide (u∈l)=true)∧Below w.heap.size w wr) (fun i _=>m-(intOf i).toNat)
 case atStart=>exact⟨0,Nat.zero_le _,rfl,fun j u hj=>by omega,K1.out⟩
 case round=>
  obtain⟨k,hk,rfl,hall,hbel⟩:=hrel;have HA:Hid (∀(j:Nat) u,j<k→ups[j]? =some u→decide (u∈l)=true):=hall;clear hall;by_cases hlt:k<m
  ·obtain⟨x,hx⟩:=Zw HM.out hlt;have HX:Hid (ups[k]? =some x):=hx;have HXW:Hid ((Lit.int .i64 x).wf=true):=HW.out x (List.mem_of_getElem? hx);obtain⟨b1,o1,rfl,hl,c0⟩:=Xp HR.out hx;rw[←hbel.cell (p:=⟨_,_,none⟩) hl]at c0;have KB:Hid (Below w.heap.size w wr):=hbel;have HV2:=hd (HV.out.below hbel)
   have h0:(0:Int)≤(k:Int):=by omega
   have h1:(k:Int)<(m:Int):=by omega
   clear hx hbel;obtain⟨hb1,HHB⟩: ∃hb,Hid (decide (x∈l)=hb):=⟨_,rfl⟩;go_wp2_with fail
   refine(MJ x _ HV2.out HXW.out).mono ?_;rintro e u2 ⟨rfl,hb⟩;rw[HHB.out];have K2:=hd (Qc KB.out hb);clear hb;cases hb1
   ·go_wp2_with fail
    go_ret;exact⟨Qb (Qfb HX.out HHB.out).symm,K2.out⟩
   ·go_wp2_with fail
    go_roundw
    case rel=>exact⟨k+1,by omega,by go_num,fun j u hj hu=>by
     by_cases e:j=k
     ·subst e;rw[HX.out]at hu;cases hu;exact HHB.out
     ·exact HA.out j u (by omega) hu,K2.out⟩
    case measure=>simp[intOf];omega
  ·have h1: ¬(k:Int)<(m:Int):=by omega
   go_wp2_with fail
   go_ret;exact⟨Qb (Qa8 (by rw[HM.out];omega) HAB.out fun i u hu=>HA.out i u (by have:=(List.getElem?_eq_some_iff.1 hu).1;have:=HM.out;omega) hu).symm,hbel⟩
theorem VMap.put{w w':World}{b n:Nat}{l:List Int}{D:DataW Value}{d:Int}{v:DataW Value}(hD:IsMap D)(hdq:(Lit.int .i64 d).wf=true)(h: ∀e,(Lit.int .i64 e).wf=true→Maps.has D (.int .i64 e)=decide (e∈l))
  (ho:w'.ownsMap Tryz.prog 2 vmE b (n+1) (D.put (.int .i64 d) v)):VMap w' b (n+1) (l++ [d]):=by
 refine⟨_,ho,?_,Qla v hD hdq h⟩;obtain⟨es,rfl⟩:=hD;exact⟨_,rfl⟩
theorem Qcb{L:List VR}{t:Nat}{x:VR}(hx:L[t]? =some x):QA (L.take (t+1))=QA (L.take t)++ [x.id]:=by
 rw[List.take_add_one,hx];simp[QA]
end Go.Proofs.YtbdhinckiccniaaGreatDoor
namespace Go.Proofs.YtbdhinckiccniaaGreatDoor
open Go.RowKit
def Qpx(b:UInt8):Bool:=decide (97≤b.toNat∧b.toNat≤122)
def Uk(s:ByteArray)(k:Nat):Prop:= ∀j (h:j<s.size),j<k→Qpx (s[j]'h)=true
theorem MD(s:ByteArray):Uk s 0:=fun j _ h=>absurd h (Nat.not_lt_zero _)
theorem ME{s:ByteArray}{k:Nat}(h:k<s.size)(hl:Uk s k)(h1:97≤(s[k]'h).toNat)(h2:(s[k]'h).toNat≤122):Uk s (k+1):=fun j hj hk=>by
 by_cases e:j=k
 ·subst e;exact decide_eq_true ⟨h1,h2⟩
 ·exact hl j hj (by omega)
def nmB(s:ByteArray):Bool:=decide (1≤s.size∧s.size≤12)&&s.data.toList.all Qpx
theorem Qpq{s:ByteArray}(h:Uk s s.size):s.data.toList.all Qpx=true:=by
 rw[List.all_eq_true];intro b hb;obtain⟨i,hi,rfl⟩:=List.mem_iff_getElem.1 hb;exact h i (by simpa using hi) (by simpa using hi)
theorem EU{s:ByteArray}{k:Nat}(h:k<s.size)(hl:(s[k]'h).toNat<97∨122<(s[k]'h).toNat):nmB s=false:=by
 have e:s.data.toList.all Qpx=false:=by
  cases e:s.data.toList.all Qpx with
  | false=>rfl
  | true=>
   have h9:=List.all_eq_true.1 e (s[k]'h) (List.mem_iff_getElem.2 ⟨k,by simpa using h,rfl⟩);have:=of_decide_eq_true h9;omega
 rw[nmB,e,Bool.and_false]
theorem Mz{s:ByteArray}(h:s.size<1∨12<s.size):nmB s=false:=by
 rw[nmB,decide_eq_false (by omega),Bool.false_and]
theorem Qf5{s:ByteArray}(h:Uk s s.size)(h1:1≤s.size)(h2:s.size≤12):nmB s=true:=by
 rw[nmB,Qpq h,decide_eq_true ⟨h1,h2⟩];rfl
theorem Qay(s:ByteArray)(w:World)(hs:s.size≤maxLen):Calls Tryz.prog 194 #[.string s] w fun e w'=>e= .returned (.bool (nmB s))∧w'=w:=by
 unfold maxLen at hs;go_enter Tryz.func194,Tryz.ntmps194;go_wp2_with fail
 go_loopw [6] (fun i wr=> ∃k:Nat,k≤s.size∧i= .int .i64 k∧Uk s k∧wr=w) (fun i _=>s.size-(intOf i).toNat)
 case atStart=>exact⟨0,Nat.zero_le _,rfl,MD s,rfl⟩
 case round=>
  obtain⟨k,hk,rfl,hall,hw⟩:=hrel;subst wr;have HA:Hid (Uk s k):=hall;clear hall;by_cases hlt:k<s.size
  ·have h0:(0:Int)≤(k:Int):=by omega
   have h1:(k:Int)<(s.size:Int):=by omega
   by_cases hlo:((s[k]'hlt).toNat:Int)<97
   ·go_wp2_with fail
    go_ret;exact⟨Qb (EU hlt (Or.inl (by omega))).symm,rfl⟩
   by_cases hhi:(122:Int)<((s[k]'hlt).toNat:Int)
   ·go_wp2_with fail
    go_ret;exact⟨Qb (EU hlt (Or.inr (by omega))).symm,rfl⟩
   go_wp2_with fail
   go_roundw
   case rel=>exact⟨k+1,by omega,by go_num,ME hlt HA.out (by omega) (by omega),trivial⟩
   case measure=>simp[intOf];omega
  ·have h1: ¬(k:Int)<(s.size:Int):=by omega
   obtain rfl:k=s.size:=by omega
   by_cases g1:1≤(s.size:Int)
   ·by_cases g2:(s.size:Int)≤12
    ·go_wp2_with fail
     go_ret;exact⟨Qb (Qf5 HA.out (by omega) (by omega)).symm,rfl⟩
    ·go_wp2_with fail
     go_ret;exact⟨Qb (Mz (Or.inr (by omega))).symm,rfl⟩
   ·go_wp2_with fail
    go_ret;exact⟨Qb (Mz (Or.inl (by omega))).symm,rfl⟩
theorem Bk(s:ByteArray)(w:World)(hs:s.size≤maxLen):Calls Tryz.prog 130 #[.string s] w fun e w'=>e= .returned (.bool (nmB s))∧w'=w:=by
 unfold maxLen at hs;by_cases g1:(s.size:Int)<1
 ·go_enter Tryz.func130,Tryz.ntmps130;go_wp2_with fail
  go_ret;exact⟨Qb (Mz (Or.inl (by omega))).symm,rfl⟩
 by_cases g2:(12:Int)<(s.size:Int)
 ·go_enter Tryz.func130,Tryz.ntmps130;go_wp2_with fail
  go_ret;exact⟨Qb (Mz (Or.inr (by omega))).symm,rfl⟩
 go_enter Tryz.func130,Tryz.ntmps130;go_wp2_with fail
 go_loopw [3] (fun i wr=> ∃k:Nat,k≤s.size∧i= .int .i64 k∧Uk s k∧wr=w) (fun i _=>s.size-(intOf i).toNat)
 case atStart=>exact⟨0,Nat.zero_le _,rfl,MD s,rfl⟩
 case round=>
  obtain⟨k,hk,rfl,hall,hw⟩:=hrel;subst wr;have HA:Hid (Uk s k):=hall;clear hall;by_cases hlt:k<s.size
  ·have h0:(0:Int)≤(k:Int):=by omega
   have h1:(k:Int)<(s.size:Int):=by omega
   by_cases hlo:((s[k]'hlt).toNat:Int)<97
   ·go_wp2_with fail
    go_ret;exact⟨Qb (EU hlt (Or.inl (by omega))).symm,rfl⟩
   by_cases hhi:(122:Int)<((s[k]'hlt).toNat:Int)
   ·go_wp2_with fail
    go_ret;exact⟨Qb (EU hlt (Or.inr (by omega))).symm,rfl⟩
   go_wp2_with fail
   go_roundw
   case rel=>exact⟨k+1,by omega,by go_num,ME hlt HA.out (by omega) (by omega),trivial⟩
   case measure=>simp[intOf];omega
  ·have h1: ¬(k:Int)<(s.size:Int):=by omega
   obtain rfl:k=s.size:=by omega
   go_wp2_with fail
   go_ret;exact⟨Qb (Qf5 HA.out (by omega) (by omega)).symm,rfl⟩
end Go.Proofs.YtbdhinckiccniaaGreatDoor
namespace Go.Proofs.YtbdhinckiccniaaGreatDoor
open Go.RowKit Go.Maps
theorem Qrd{d:Int}(h1:1≤d)(h2:d≤1000000000):(Lit.int .i64 d).wf=true:=WalkArith.wf_i64 (by omega)
theorem KG{A:Option Addr}{n cap:Nat}{L:List VR}(w:World)(h:VrRow w A L)(hL:L.length=n)(hw: ∀x∈L,(Lit.int .i64 x.id).wf=true)(hn:n≤1048576):
  Calls Tryz.prog 193 #[.slice A n cap] w fun e w'=>e= .returned (.map (some w.heap.size))∧VMap w' w.heap.size n (QA L)∧Below w.heap.size w w':=by
 have HR:Hid (VrRow w A L):=h;have HL:Hid (L.length=n):=hL;have HW:Hid (∀x∈L,(Lit.int .i64 x.id).wf=true):=hw;clear h hL hw;have hmm:= @run_makeMap Tryz.prog;go_enter Tryz.func193,Tryz.ntmps193;go_wp2_with fail
 go_loopw [9] (fun i wr=> ∃k:Nat,k≤n∧i= .int .i64 k∧VMap wr w.heap.size k (QA (L.take k))∧Below w.heap.size w wr) (fun i _=>n-(intOf i).toNat)
 case atStart=>exact⟨0,Nat.zero_le _,rfl,⟨_,World.ownsMap_made _ _ _ _,⟨_,rfl⟩,fun d _=>by simp[QA];rfl⟩,by go_grown⟩
 case round=>
  obtain⟨k,hk,rfl,hv,hbel⟩:=hrel;by_cases hlt:k<n
  ·obtain⟨D,ho,hD,hh⟩:=hv;have HO:Hid (wr.ownsMap Tryz.prog 2 vmE w.heap.size k D):=ho;have HD:Hid (IsMap D):=hD;have HH:Hid (∀d,(Lit.int .i64 d).wf=true→Maps.has D (.int .i64 d)=decide (d∈QA (L.take k))):=hh;obtain⟨x,hx⟩:=Zw HL.out hlt;have HX:Hid (L[k]? =some x):=hx;have HXW:Hid ((Lit.int .i64 x.id).wf=true):=HW.out x (List.mem_of_getElem? hx)
   obtain⟨b,o,u,uc,s,sc,rfl,hl,c0,c1,c2,_,_⟩:=HR.out.2 k x hx;clear ho hD hh hx;have hs:=hbel.size;rw[←hbel.cell (p:=⟨_,_,none⟩) hl]at c0 c1 c2;have hl2:b<wr.heap.size:=Nat.lt_of_lt_of_le hl hs;have h0:(0:Int)≤(k:Int):=by omega
   have h1:(k:Int)<(n:Int):=by omega
   go_wp2_with (first
    | (at_mapUpdate;refine wpList_mapUpdate_own _ rfl _ _ _ 211 rfl 2 72 keyedI Tryz.underlying211 vmE w.heap.size k _ rfl (HO.out.alloc _) (by unfold maxLen;omega) _ _ (.int .i64 x.id) rfl rfl (Qro HXW.out) _ [] (Qel _ _ _ _ _ _ _) ?_;intro w1 hown1 hgrow1)
    | go_in)
   have R2:Below w.heap.size w w1:=Below.grown (hbel.alloc hs _) hgrow1 (by simp;omega) (fun j hj=>by cases hj;exact Nat.le_refl _);have HV1:Hid (VMap w1 w.heap.size (k+1) (QA (L.take (k+1)))):=by rw[Qcb HX.out];exact VMap.put (w:=w1) HD.out HXW.out HH.out hown1
   go_roundw
   case rel=>exact⟨k+1,by omega,by go_num,HV1.out,R2⟩
   case measure=>simp[intOf];omega
  ·have h1: ¬(k:Int)<(n:Int):=by omega
   obtain rfl:k=n:=by omega
   have HV:Hid (VMap wr w.heap.size k (QA L)):=by rw[←HL.out,List.take_length]at hv;rw[←HL.out];exact hv
   clear hv;go_wp2_with fail
   go_ret;exact⟨rfl,HV.out,hbel⟩
def Jp(next:Int)(l:List Int)(x:VR):Bool:=decide (1≤x.id)&&(decide (x.id<next)&&(NJ x.ups l&&Qx x.C x.R x.S x.m))
def XM(next:Int)(L:List VR):Bool:=decide (1≤L.length∧L.length≤40)&&(YQ ltV L&&(List.range L.length).all fun t=>match L[t]? with | some x=>Jp next (QA (L.take t)) x | none=>true)
theorem Gy{next:Int}{L:List VR}(h:L.length<1∨40<L.length):XM next L=false:=by rw[XM,decide_eq_false (by omega),Bool.false_and]
theorem Vm{next:Int}{L:List VR}(h:YQ ltV L=false):XM next L=false:=by rw[XM,h,Bool.false_and,Bool.and_false]
theorem Yb{next:Int}{L:List VR}{t:Nat}{x:VR}(hx:L[t]? =some x)(h:Jp next (QA (L.take t)) x=false):XM next L=false:=by
 have e:((List.range L.length).all fun t=>match L[t]? with | some x=>Jp next (QA (L.take t)) x | none=>true)=false:=by
  cases e:((List.range L.length).all fun t=>match L[t]? with | some x=>Jp next (QA (L.take t)) x | none=>true)with
  | false=>rfl
  | true=>
   have h9:=List.all_eq_true.1 e t (List.mem_range.2 (List.getElem?_eq_some_iff.1 hx).1);rw[hx]at h9;have h8:Jp next (QA (L.take t)) x=true:=h9;rw[h]at h8;cases h8
 rw[XM,e,Bool.and_false,Bool.and_false]
theorem Oy{next:Int}{L:List VR}(h1:1≤L.length)(h2:L.length≤40)(h3:YQ ltV L=true)(h4: ∀(t:Nat) x,L[t]? =some x→Jp next (QA (L.take t)) x=true):XM next L=true:=by
 have e:((List.range L.length).all fun t=>match L[t]? with | some x=>Jp next (QA (L.take t)) x | none=>true)=true:=List.all_eq_true.2 fun t ht=>by
  have hx:=List.getElem?_eq_getElem (List.mem_range.1 ht);simp only[hx];exact h4 t _ hx
 rw[XM,e,h3,decide_eq_true ⟨h1,h2⟩];rfl
theorem Qe7{next:Int}{l:List Int}{x:VR}(h:x.id<1):Jp next l x=false:=by rw[Jp,decide_eq_false (by omega),Bool.false_and]
theorem Qe8{next:Int}{l:List Int}{x:VR}(h:next≤x.id):Jp next l x=false:=by rw[Jp,decide_eq_false (p:=x.id<next) (by omega),Bool.false_and,Bool.and_false]
theorem Mb{next:Int}{l:List Int}{x:VR}(h:NJ x.ups l=false):Jp next l x=false:=by rw[Jp,h,Bool.false_and,Bool.and_false,Bool.and_false]
theorem Qe9{next:Int}{l:List Int}{x:VR}(h:Qx x.C x.R x.S x.m=false):Jp next l x=false:=by rw[Jp,h,Bool.and_false,Bool.and_false,Bool.and_false]
theorem Qe6{next:Int}{l:List Int}{x:VR}(h1:1≤x.id)(h2:x.id<next)(h3:NJ x.ups l=true)(h4:Qx x.C x.R x.S x.m=true):Jp next l x=true:=by rw[Jp,h3,h4,decide_eq_true h1,decide_eq_true h2];rfl
theorem Um{A:Option Addr}{n cap:Nat}{L:List VR}(next:Int)(w:World)(h:VrRow w A L)(hL:L.length=n)(hk: ∀x∈L,Qny x)(hnx:next≤1000000000)(hg:GI w):
  Calls Tryz.prog 139 #[.slice A n cap,.int .i64 next] w fun e w'=>e= .returned (.bool (XM next L))∧Below w.heap.size w w':=by
 have HR:Hid (VrRow w A L):=h;have HL:Hid (L.length=n):=hL;have HK:Hid (∀x∈L,Qny x):=hk;have HG:Hid (GI w):=hg;have hn:=h.1;rw[hL]at hn;unfold maxLen at hn
 clear h hL hk hg;by_cases g1:(n:Int)<1
 ·go_enter Tryz.func139,Tryz.ntmps139;go_wp2_with fail
  go_ret;exact⟨Qb (Gy (Or.inl (by rw[HL.out];omega))).symm,by go_grown⟩
 by_cases g2:(40:Int)<(n:Int)
 ·go_enter Tryz.func139,Tryz.ntmps139;go_wp2_with fail
  go_ret;exact⟨Qb (Gy (Or.inr (by rw[HL.out];omega))).symm,by go_grown⟩
 obtain⟨ab,HAB⟩: ∃ab,Hid (YQ ltV L=ab):=⟨_,rfl⟩;have hmm:= @run_makeMap Tryz.prog;go_enter Tryz.func139,Tryz.ntmps139;go_wp2_with fail
 refine(Qau _ HR.out HL.out).mono ?_;rintro e u1 ⟨rfl,hb⟩;rw[HAB.out];have K1:Hid (Below w.heap.size w u1):=hb;have z1:=hb.size;clear hb;cases ab
 ·go_wp2_with fail
  go_ret;exact⟨Qb (Vm HAB.out).symm,K1.out⟩
 go_wp2_with fail
 go_loopw [24] (fun i wr=> ∃k:Nat,k≤n∧i= .int .i64 k∧VMap wr u1.heap.size k (QA (L.take k))∧(∀(t:Nat) x,t<k→L[t]? =some x→Jp next (QA (L.take t)) x=true)∧Below w.heap.size w wr∧u1.heap.size≤wr.heap.size) (fun i _=>n-(intOf i).toNat)
 case atStart=>exact⟨0,Nat.zero_le _,rfl,⟨_,World.ownsMap_made _ _ _ _,⟨_,rfl⟩,fun d _=>by simp[QA];rfl⟩,fun t x ht=>by omega,Below.trans K1.out (by go_grown),by simp⟩
 case round=>
  obtain⟨k,hk,rfl,hv,hall,hbel,hzz⟩:=hrel;have HA:Hid (∀(t:Nat) x,t<k→L[t]? =some x→Jp next (QA (L.take t)) x=true):=hall;have HV:Hid (VMap wr u1.heap.size k (QA (L.take k))):=hv;have HZ:Hid (u1.heap.size≤wr.heap.size):=hzz;clear hall hv hzz;by_cases hlt:k<n
  ·obtain⟨x,hx⟩:=Zw HL.out hlt;have HX:Hid (L[k]? =some x):=hx;have HXK:Hid (Qny x):=HK.out x (List.mem_of_getElem? hx);obtain⟨b,o,u,uc,s,sc,rfl,hl,c0,c1,c2,r1,r2⟩:=HR.out.2 k x hx;have hs:=hbel.size;have R1:Hid (IntRow wr u x.ups):=r1.below hbel;have R2:Hid (ClRow wr s x.m x.C x.R x.S):=r2.below hbel
   have KB:Hid (Below w.heap.size w wr):=hbel;rw[←hbel.cell (p:=⟨_,_,none⟩) hl]at c0 c1 c2;have hl2:b<wr.heap.size:=Nat.lt_of_lt_of_le hl hs;have h0:(0:Int)≤(k:Int):=by omega
   have h1:(k:Int)<(n:Int):=by omega
   obtain⟨pn,HPN⟩: ∃pn,Hid (x.ups.length=pn):=⟨_,rfl⟩;rw[HPN.out]at c1;clear hx r1 r2 hbel;by_cases i1:x.id<1
   ·go_wp2_with fail
    go_ret;exact⟨Qb (Yb HX.out (Qe7 i1)).symm,by have:=KB.out;go_grown⟩
   by_cases i2:next≤x.id
   ·go_wp2_with fail
    go_ret;exact⟨Qb (Yb HX.out (Qe8 i2)).symm,by have:=KB.out;go_grown⟩
   obtain⟨ub,HUB⟩: ∃ub,Hid (NJ x.ups (QA (L.take k))=ub):=⟨_,rfl⟩;obtain⟨cb,HCB⟩: ∃cb,Hid (Qx x.C x.R x.S x.m=cb):=⟨_,rfl⟩;go_wp2_with fail
   obtain⟨Y,HY⟩: ∃X,Hid (wr.alloc (.cells #[.int .i64 x.id,.slice u pn uc,.slice s x.m sc] 72)=X):=⟨_,rfl⟩;rw[HY.out];have hbY:Below wr.heap.size wr Y:=by rw[←HY.out];go_grown
   have d_0:Y.cell? ⟨wr.heap.size,0,none⟩=some (.int .i64 x.id):=by rw[←HY.out];go_simp
   have d_1:Y.cell? ⟨wr.heap.size,1,none⟩=some (.slice u pn uc):=by rw[←HY.out];go_simp
   have d_2:Y.cell? ⟨wr.heap.size,2,none⟩=some (.slice s x.m sc):=by rw[←HY.out];go_simp
   have zY:wr.heap.size<Y.heap.size:=by rw[←HY.out];simp
   have KY:=hd (Qc KB.out hbY);have VY:=hd (HV.out.below hbY);have RY1:=hd (R1.out.below hbY);have RY2:=hd (R2.out.below hbY);clear hbY HY c0 c1 c2;refine(Qdt _ RY1.out HPN.out VY.out HXK.out.2).mono ?_;rintro e u2 ⟨rfl,hb⟩
   rw[HUB.out];replace d_0:=cy hb d_0;replace d_1:=cy hb d_1;replace d_2:=cy hb d_2;replace zY:wr.heap.size<u2.heap.size:=Nat.lt_of_lt_of_le zY hb.size;have K2:=hd (Qc KY.out hb);have V2:=hd (VY.out.below hb)
   have RZ2:=hd (RY2.out.below hb);clear hb KY VY RY1 RY2;cases ub
   ·go_wp2_with fail
    go_ret;exact⟨Qb (Yb HX.out (Mb HUB.out)).symm,K2.out⟩
   go_wp2_with fail
   refine(Ys _ RZ2.out (HG.out.below K2.out)).mono ?_;rintro e u3 ⟨rfl,hb⟩;rw[HCB.out];replace d_0:=cy hb d_0;replace d_1:=cy hb d_1;replace d_2:=cy hb d_2;replace zY:wr.heap.size<u3.heap.size:=Nat.lt_of_lt_of_le zY hb.size
   have K3:=hd (Qc K2.out hb);obtain⟨D,ho,hD,hh⟩:=V2.out.below hb;have HO:Hid (u3.ownsMap Tryz.prog 2 vmE u1.heap.size k D):=ho;have HD:Hid (IsMap D):=hD;have HH:Hid (∀d,(Lit.int .i64 d).wf=true→Maps.has D (.int .i64 d)=decide (d∈QA (L.take k))):=hh;clear hb K2 V2 RZ2 ho hD hh;cases cb
   ·go_wp2_with fail
    go_ret;exact⟨Qb (Yb HX.out (Qe9 HCB.out)).symm,K3.out⟩
   have HXW:Hid ((Lit.int .i64 x.id).wf=true):=Qrd (by omega) (by omega);have HVB:Hid (Jp next (QA (L.take k)) x=true):=Qe6 (by omega) (by omega) HUB.out HCB.out
   go_wp2_with (first
    | (at_mapUpdate;refine wpList_mapUpdate_own _ rfl _ _ _ 211 rfl 2 72 keyedI Tryz.underlying211 vmE u1.heap.size k _ rfl HO.out (by unfold maxLen;omega) _ _ (.int .i64 x.id) rfl rfl (Qro HXW.out) _ [] (Qel _ _ _ _ _ _ _) ?_;intro w1 hown1 hgrow1)
    | go_in)
   have R3:Below w.heap.size w w1:=Below.grown K3.out hgrow1 K3.out.size (fun j hj=>by cases hj;exact z1);have HV1:Hid (VMap w1 u1.heap.size (k+1) (QA (L.take (k+1)))):=by rw[Qcb HX.out];exact VMap.put (w:=w1) HD.out HXW.out HH.out hown1
   have hz9:=hgrow1.size;go_roundw
   case rel=>exact⟨k+1,by omega,by go_num,HV1.out,fun t y ht hy=>by
    by_cases e:t=k
    ·subst e;rw[HX.out]at hy;cases hy;exact HVB.out
    ·exact HA.out t y (by omega) hy,R3,by have:=HZ.out;omega⟩
   case measure=>simp[intOf];omega
  ·have h1: ¬(k:Int)<(n:Int):=by omega
   go_wp2_with fail
   go_ret;exact⟨Qb (Oy (by rw[HL.out];omega) (by rw[HL.out];omega) HAB.out fun t x hx=>HA.out t x (by have:=(List.getElem?_eq_some_iff.1 hx).1;have:=HL.out;omega) hx).symm,hbel⟩
def Xn(l:List Int)(x:BR):Bool:=nmB x.n&&decide (x.h∈l)
def MZ(l:List Int)(L:List BR):Bool:=decide (1≤L.length∧L.length≤8)&&(YQ ltB L&&L.all (Xn l))
theorem ND{l:List Int}{L:List BR}(h:L.length<1∨8<L.length):MZ l L=false:=by rw[MZ,decide_eq_false (by omega),Bool.false_and]
theorem Qcu{l:List Int}{L:List BR}(h:YQ ltB L=false):MZ l L=false:=by rw[MZ,h,Bool.false_and,Bool.and_false]
theorem ED{l:List Int}{L:List BR}{t:Nat}{x:BR}(hx:L[t]? =some x)(h:Xn l x=false):MZ l L=false:=by
 have e:L.all (Xn l)=false:=by
  cases e:L.all (Xn l)with
  | false=>rfl
  | true=>have:=List.all_eq_true.1 e x (List.mem_of_getElem? hx);rw[this]at h;cases h
 rw[MZ,e,Bool.and_false,Bool.and_false]
theorem Qct{l:List Int}{L:List BR}(h1:1≤L.length)(h2:L.length≤8)(h3:YQ ltB L=true)(h4: ∀(t:Nat) x,L[t]? =some x→Xn l x=true):MZ l L=true:=by
 have e:L.all (Xn l)=true:=List.all_eq_true.2 fun x hx=>by
  obtain⟨i,hi,rfl⟩:=List.mem_iff_getElem.1 hx;exact h4 i _ (List.getElem?_eq_getElem hi)
 rw[MZ,e,h3,decide_eq_true ⟨h1,h2⟩];rfl
theorem Ur{A A2:Option Addr}{n cap m cap2:Nat}{L:List BR}{V:List VR}(w:World)(h:Xy w A L)(hL:L.length=n)(hk: ∀x∈L,Qq6 x)(hh: ∀x∈L,(Lit.int .i64 x.h).wf=true)(h2:VrRow w A2 V)(hV:V.length=m)(hm:m≤1048576)(hw: ∀x∈V,(Lit.int .i64 x.id).wf=true):
  Calls Tryz.prog 140 #[.slice A n cap,.slice A2 m cap2] w fun e w'=>e= .returned (.bool (MZ (QA V) L))∧Below w.heap.size w w':=by
 have HR:Hid (Xy w A L):=h;have HL:Hid (L.length=n):=hL;have HK:Hid (∀x∈L,Qq6 x):=hk;have HH:Hid (∀x∈L,(Lit.int .i64 x.h).wf=true):=hh;have HR2:Hid (VrRow w A2 V):=h2;have HVL:Hid (V.length=m):=hV;have HVW:Hid (∀x∈V,(Lit.int .i64 x.id).wf=true):=hw
 have hn:=h.1;rw[hL]at hn;unfold maxLen at hn;clear h hL hk hh h2 hV hw;by_cases g1:(n:Int)<1
 ·go_enter Tryz.func140,Tryz.ntmps140;go_wp2_with fail
  go_ret;exact⟨Qb (ND (Or.inl (by rw[HL.out];omega))).symm,by go_grown⟩
 by_cases g2:(8:Int)<(n:Int)
 ·go_enter Tryz.func140,Tryz.ntmps140;go_wp2_with fail
  go_ret;exact⟨Qb (ND (Or.inr (by rw[HL.out];omega))).symm,by go_grown⟩
 obtain⟨ab,HAB⟩: ∃ab,Hid (YQ ltB L=ab):=⟨_,rfl⟩;go_enter Tryz.func140,Tryz.ntmps140;go_wp2_with fail
 refine(Qaw _ HR.out HL.out).mono ?_;rintro e u1 ⟨rfl,hb⟩;rw[HAB.out];have K1:Hid (Below w.heap.size w u1):=hb;clear hb;cases ab
 ·go_wp2_with fail
  go_ret;exact⟨Qb (Qcu HAB.out).symm,K1.out⟩
 go_wp2_with fail
 refine(KG _ (HR2.out.below K1.out) HVL.out HVW.out hm).mono ?_;rintro e u2 ⟨rfl,hv,hb⟩;have K2:=hd (Qc K1.out hb);have HV:Hid (VMap u2 u1.heap.size m (QA V)):=hv;clear hb hv;go_wp2_with fail
 go_loopw [25] (fun i wr=> ∃k:Nat,k≤n∧i= .int .i64 k∧(∀(t:Nat) x,t<k→L[t]? =some x→Xn (QA V) x=true)∧Below u2.heap.size u2 wr) (fun i _=>n-(intOf i).toNat)
 case atStart=>exact⟨0,Nat.zero_le _,rfl,fun t x ht=>by omega,Below.refl _ _⟩
 case round=>
  obtain⟨k,hk,rfl,hall,hbel⟩:=hrel;have HA:Hid (∀(t:Nat) x,t<k→L[t]? =some x→Xn (QA V) x=true):=hall;have KW:=hd (Qc K2.out hbel);have KB:Hid (Below u2.heap.size u2 wr):=hbel;have HV2:=hd (HV.out.below hbel);clear hall hbel;by_cases hlt:k<n
  ·obtain⟨x,hx⟩:=Zw HL.out hlt;have HX:Hid (L[k]? =some x):=hx;have HXK:Hid (Qq6 x):=HK.out x (List.mem_of_getElem? hx);have HXH:Hid ((Lit.int .i64 x.h).wf=true):=HH.out x (List.mem_of_getElem? hx);obtain⟨b,o,rfl,hl,hc⟩:=HR.out.2 k x hx;have c0:w.cell? ⟨b,o+k*2,none⟩=some (.string x.n):=hc 0 _ rfl;have c1:w.cell? ⟨b,o+k*2+1,none⟩=some (.int .i64 x.h):=hc 1 _ rfl
   rw[←KW.out.cell (p:=⟨_,_,none⟩) hl]at c0 c1;have hl2:b<wr.heap.size:=Nat.lt_of_lt_of_le hl KW.out.size;have h0:(0:Int)≤(k:Int):=by omega
   have h1:(k:Int)<(n:Int):=by omega
   clear hx hc;obtain⟨nb,HNB⟩: ∃nb,Hid (nmB x.n=nb):=⟨_,rfl⟩;obtain⟨ib,HIB⟩: ∃ib,Hid (decide (x.h∈QA V)=ib):=⟨_,rfl⟩;go_wp2_with fail
   obtain⟨Y,HY⟩: ∃X,Hid (wr.alloc (.cells #[.string x.n,.int .i64 x.h] 69)=X):=⟨_,rfl⟩;rw[HY.out];have hbY:Below wr.heap.size wr Y:=by rw[←HY.out];go_grown
   have d_0:Y.cell? ⟨wr.heap.size,0,none⟩=some (.string x.n):=by rw[←HY.out];go_simp
   have d_1:Y.cell? ⟨wr.heap.size,1,none⟩=some (.int .i64 x.h):=by rw[←HY.out];go_simp
   have zY:wr.heap.size<Y.heap.size:=by rw[←HY.out];simp
   have KY:=hd (Qc KW.out hbY);have KYB:=hd (Qc KB.out hbY);have VY:=hd (HV2.out.below hbY);clear hbY HY c0 c1;refine(Qay x.n _ HXK.out).mono ?_;rintro e u3 ⟨rfl,hw3⟩;subst u3
   rw[HNB.out];cases nb
   ·go_wp2_with fail
    go_ret;exact⟨Qb (ED HX.out (by rw[Xn,HNB.out];rfl)).symm,KY.out⟩
   go_wp2_with fail
   refine(MJ x.h _ VY.out HXH.out).mono ?_;rintro e u4 ⟨rfl,hb⟩;rw[HIB.out];have K4:=hd (Qc KY.out hb);have K4B:=hd (Qc KYB.out hb);clear hb;cases ib
   ·go_wp2_with fail
    go_ret;exact⟨Qb (ED HX.out (by rw[Xn,HIB.out,Bool.and_false])).symm,K4.out⟩
   have HONE:Hid (Xn (QA V) x=true):=by show _=_;rw[Xn,HNB.out,HIB.out];rfl
   go_wp2_with fail
   go_roundw
   case rel=>exact⟨k+1,by omega,by go_num,fun t y ht hy=>by
    by_cases e:t=k
    ·subst e;rw[HX.out]at hy;cases hy;exact HONE.out
    ·exact HA.out t y (by omega) hy,K4B.out⟩
   case measure=>simp[intOf];omega
  ·have h1: ¬(k:Int)<(n:Int):=by omega
   go_wp2_with fail
   go_ret;exact⟨Qb (Qct (by rw[HL.out];omega) (by rw[HL.out];omega) HAB.out fun t x hx=>HA.out t x (by have:=(List.getElem?_eq_some_iff.1 hx).1;have:=HL.out;omega) hx).symm,KW.out⟩
def YW(d:DG):Bool:=decide (1<d.next)&&(decide (d.next≤1000000000)&&(XM d.next d.vs&&MZ (QA d.vs) d.bs))
theorem Qa5{next:Int}{L:List VR}(h:XM next L=true)(hn:next≤1000000000): ∀x∈L,1≤x.id∧x.id<next:=fun x hx=>by
 obtain⟨i,hi,rfl⟩:=List.mem_iff_getElem.1 hx;simp only[XM,Bool.and_eq_true]at h;have h9:=List.all_eq_true.1 h.2.2 i (List.mem_range.2 hi);rw[List.getElem?_eq_getElem hi]at h9;have h8:Jp next (QA (L.take i)) L[i]=true:=h9;simp only[Jp,Bool.and_eq_true,decide_eq_true_eq]at h8;exact⟨h8.1,h8.2.1⟩
theorem Qd1{v:Value}{d:DG}(w:World)(h:DgRow w v d)(hk:DgOk d)(hl:DgLil d)(hg:GI w):
  Calls Tryz.prog 79 #[v] w fun e w'=>e= .returned (.bool (YW d))∧Below w.heap.size w w':=by
 obtain⟨A1,n1,c1,A2,n2,c2,rfl⟩:=h.agg;obtain⟨r1,e1,r2,e2⟩:=h.open;have R1:Hid (VrRow w A1 d.vs):=r1;have R2:Hid (Xy w A2 d.bs):=r2;have E1:Hid (d.vs.length=n1):=e1;have E2:Hid (d.bs.length=n2):=e2;have HK:Hid (DgOk d):=hk
 have HL:Hid (DgLil d):=hl;have HG:Hid (GI w):=hg;clear h r1 r2 e1 e2 hk hl hg;by_cases h1:1<d.next
 case neg=>
  go_enter Tryz.func79,Tryz.ntmps79;go_wp2_with fail
  go_ret;exact⟨Qb (by rw[YW,decide_eq_false (by omega),Bool.false_and]),by go_grown⟩
 by_cases h2:d.next≤1000000000
 case neg=>
  go_enter Tryz.func79,Tryz.ntmps79;go_wp2_with fail
  go_ret;exact⟨Qb (by rw[YW,decide_eq_false (p:=d.next≤1000000000) (by omega),Bool.false_and,Bool.and_false]),by go_grown⟩
 obtain⟨vb,HVB⟩: ∃vb,Hid (XM d.next d.vs=vb):=⟨_,rfl⟩;obtain⟨bb,HBB⟩: ∃bb,Hid (MZ (QA d.vs) d.bs=bb):=⟨_,rfl⟩;have HE:Hid (YW d=(vb&&bb)):=by show _=_;rw[YW,HVB.out,HBB.out,decide_eq_true h1,decide_eq_true h2];rfl
 go_enter Tryz.func79,Tryz.ntmps79;go_wp2_with fail
 refine(Um d.next _ (R1.out.below (by go_grown)) E1.out HK.out.v h2 (HG.out.below (by go_grown))).mono ?_;rintro e u1 ⟨rfl,hb⟩;rw[HVB.out];obtain⟨hc,hf,hC,hF,hz,hkk,l0⟩:=bk1 (w:=w) (by go_grown) (by go_size) hb;clear hb;cases vb
 ·go_wp2_with fail
  go_ret;exact⟨Qb (by rw[HE.out];rfl),hkk⟩
 have HW:Hid (∀x∈d.vs,(Lit.int .i64 x.id).wf=true):=fun x hx=>Qrd (Qa5 HVB.out h2 x hx).1 (by have:=(Qa5 HVB.out h2 x hx).2;omega);go_wp2_with fail
 refine(Ur _ (R2.out.below hkk) E2.out HK.out.b HK.out.h (R1.out.below hkk) E1.out (by rw[←E1.out];exact HL.out.nv) HW.out).mono ?_;rintro e u2 ⟨rfl,hb⟩;rw[HBB.out];have K2:=hd (Qc hkk hb);clear hb;go_wp2_with fail
 go_ret;exact⟨Qb (by rw[HE.out];rfl),K2.out⟩
end Go.Proofs.YtbdhinckiccniaaGreatDoor
