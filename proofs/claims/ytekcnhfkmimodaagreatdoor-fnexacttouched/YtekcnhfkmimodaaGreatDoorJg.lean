import Derived.Test.YtekcnhfkmimodaaGreatDoorMn
import Derived.Test.YtekcnhfkmimodaaGreatDoorJf
import Derived.Test.YtekcnhfkmimodaaGreatDoorJe
import Derived.OpenShut
import Derived.Deep.Slices
import Derived.ChangeSame
set_option linter.unusedSimpArgs false
set_option linter.unusedVariables false
set_option maxHeartbeats 8000000
set_option maxRecDepth 100000
namespace Go.Proofs.YtekcnhfkmimodaaGreatDoor
open Go.RowKit Go.Maps
theorem run_append_nilT {P:Program} {w:World} (base:Nat) (t ty e:TypeId) (i:TypeInfo) (size c:Nat) (ht:P.underlying t=some (.slice e)) (hi:P.info? e=some i)
  (v:Value) (n:Nat) (xs:List Value) (hown:w.ownsRow base e size v n xs):(Builtin.append_ #[t,t] ty #[v,.slice none 0 c]).run P w= .ok v w:=by
 rcases hown.2 with⟨rfl,rfl⟩ | ⟨g,cap,cur,rfl,_,_,hnc,_⟩
 ·simp [Builtin.append_,run_underlying ht,sizeOf,typeInfo,hi,Builtin.lenOf,Builtin.firstCells]
 ·simp [Builtin.append_,run_underlying ht,sizeOf,typeInfo,hi,Builtin.lenOf,Builtin.firstCells,hnc,storeCells]
theorem rf_cells {W:World} {A:Option Addr} {n:Nat} {xs:List PL} (h:RfR W A n xs): ∀ad,A=some ad→ ∀j u,(QP rfL xs)[j]? =some u→W.cell? (ad.add j)=some u:=by
 intro ad hA j u hu;have hj:j<n*2:=by rw [←h.len,←Ds (f:=rfL) (k:=2) (fun _=>rfl)];exact(List.getElem?_eq_some_iff.1 hu).1
 obtain⟨b,o,e,_,c0,c1⟩:=h.at_ (j/2) (by omega);rw [hA]at e;cases e
 have e1:j=(j/2)*2+j%2:=by omega
 have hm:j%2<2:=by omega
 have hl:j/2<xs.length:=by rw [h.len];omega
 rw [e1,XH (f:=rfL) (k:=2) (fun _=>rfl) (j%2) hm,getD_atP hl]at hu
 have e2:(⟨b,o,none⟩:Addr).add j=⟨b,o+j/2*2+j%2,none⟩:=by
  rw [Go.WideShapes.add_plain];congr 1
  omega
 rw [e2];rcases(show j%2=0∨j%2=1 by omega)with h9 | h9
 ·rw [h9]at hu ⊢;cases hu;exact c0
 ·rw [h9]at hu ⊢;cases hu;exact c1
theorem rf_none {W:World} {n:Nat} {xs:List PL} (h:RfR W none n xs):n=0:=by
 cases n with
 | zero=>rfl
 | succ m=>obtain⟨b,o,e,_⟩:=h.at_ 0 (by omega);cases e
theorem rf_one (xs:List PL): ∀u∈QP rfL xs,u.oneCell'=true:=by
 intro u hu;obtain⟨x,_,hx⟩:=List.mem_flatMap.1 hu;simp only [rfL,List.mem_cons,List.not_mem_nil,or_false]at hx;rcases hx with rfl | rfl<;>rfl
theorem wpList_copy_rf {ops:Array Oper} {rest:List Oper} {o:Oper} {a:Act} {Q:Exit→Act→World→Prop} {W:World} (hgd:o.guard=none) (s x:Operand) (ho:o.op= .call {callee:= .builtin .append,args:= #[s,x],argTypes:= #[26,26]}) (B:Nat) (hB:B≤W.heap.size) (v:Value) (hs:a.eval s=v)
  (hown:W.ownsRow B 30 2 v 0 []) (A:Option Addr) (n c:Nat) (xs:List PL) (hx:a.eval x= .slice A n c) (hr:RfR W A n xs) (hn:n≤120)
  (h: ∀A' c' w',w'.ownsRow B 30 2 (.slice A' n c') n (QP rfL xs)→W.grownBy w' v.ownBlock→wpList Tryz.prog ops Q rest (a.put o.dst (.slice A' n c')) w'):wpList Tryz.prog ops Q (o::rest) a W:=by
 obtain⟨i0,hi,iz0,iz1,iz2⟩:=info_parts Qkz;cases A with
 | none=>
  have hn0:=rf_none hr;subst hn0;have hxs:xs= []:=List.eq_nil_of_length_eq_zero hr.len;subst hxs;obtain⟨A',cap',rfl,_,_⟩:=Qj hown;refine wpList_plain hgd fun K hK=> ?_;have hrun:=run_append_nilT (P:=Tryz.prog) (w:=W) B 26 o.type 30 i0 2 c Tryz.underlying26 hi _ 0 [] hown
  unfold Oper.wp;simp [execOp,ho,resolve,invoke,builtin,hs,hx,hrun,Result.andThen];exact hK _ _ (h _ _ W hown (World.grownBy.refl _ _))
 | some ad=>
  refine wpList_append_own W hgd s x 26 ho B 30 i0 (.agg #[.int .i64 0,.int .i64 0]) 2 16 Tryz.underlying26 hi iz0 iz1 iz2 rfl (by decide) v 0 [] hs hown ad n c (QP rfL xs) hx (by rw [Ds (f:=rfL) (k:=2) (fun _=>rfl),hr.len]) (rf_cells hr ad rfl) (rf_one xs) (by unfold maxLen;omega) (by omega) hB ?_;intro v' w' ho' hg' _;rw [Nat.zero_add,List.nil_append]at ho';obtain⟨A',cap',rfl,_,_⟩:=Qj ho';exact h A' cap' w' ho' hg'
theorem any_takeP {L:List PL} {f:PL→Bool} {j:Nat} {x:PL} (hj:j<L.length) (hx:L.getD j (0,0)=x):(L.take (j+1)).any f=((L.take j).any f || f x):=by
 rw [List.getD_eq_getElem?_getD,List.getElem?_eq_getElem hj]at hx;have hx:L[j]=x:=hx;rw [List.take_add_one,List.getElem?_eq_getElem hj,hx,List.any_append];simp
def slN:Value→Nat
 | .slice _ n _=>n
 | _=>0
def blN:Value→Nat
 | .bool true=>1
 | _=>0
def tyB (L:List AR) (T:List PL):Bool:=L.any fun a=>T.any fun y=>YF y.1 y.2 a
theorem tyB_iff {L:List AR} {T:List PL}:tyB L T=true↔ ∃y∈T,L.any (YF y.1 y.2)=true:=by
 simp only [tyB,List.any_eq_true];constructor
 ·rintro⟨a,h1,y,h2,h3⟩;exact⟨y,h2,a,h1,h3⟩
 ·rintro⟨y,h2,a,h1,h3⟩;exact⟨a,h1,y,h2,h3⟩
theorem Ps.next {C R:Nat→Int} {S:Nat→ByteArray} {T:List PL} {k:Nat} (h:Ps C R S T k) (h9:(C k,R k)∈T∨tyB (lnA (S k)) T=false):Ps C R S T (k+1):=fun j hj=>by
 by_cases e:j=k
 ·subst e;rcases h9 with h9 | h9
  ·exact Or.inl h9
  ·refine Or.inr fun y hy=> ?_;cases hb:(lnA (S j)).any (YF y.1 y.2)with
   | false=>rfl
   | true=>rw [tyB_iff.2 ⟨y,hy,hb⟩]at h9;cases h9
 ·exact h j (by omega)
theorem tcL_ext {C R:Nat→Int} {P Q:PL→Bool} (h: ∀y,P y=true↔Q y=true) (k:Nat):tcL C R P k=tcL C R Q k:=by
 have e:P=Q:=funext fun y=>Bool.eq_iff_iff.2 (h y);rw [e]
theorem spec_l7Touched {A:Option Addr} {n cap:Nat} {C R:Nat→Int} {S:Nat→ByteArray} {F:Option Addr} {z c:Nat} {xs:List PL} (w:World) (h:ClRow w A n C R S) (hok:Zg C R S n=true) (hx:RfR w F z xs) (hz:z≤120):
  Calls Tryz.prog 33 #[.slice A n cap,.slice F z c] w fun e w'=> ∃F' z' c',e= .returned (.slice F' z' c')∧(tcL C R (rtB (fun x=>hL C R S x n) xs) n).length=z'∧w'.ownsRow w.heap.size 30 2 (.slice F' z' c') z' (QP rfL (tcL C R (rtB (fun x=>hL C R S x n) xs) n))∧Below w.heap.size w w':=by
 have HR:Hid (ClRow w A n C R S):=h;have HX:Hid (RfR w F z xs):=hx;obtain⟨hn,hrs⟩:=Vf hok;have HSZ:Hid (∀i,i<n→(S i).size≤200):=(UI hok).1;obtain⟨H,HH⟩: ∃H:PL→List PL,Hid ((fun x=>hL C R S x n)=H):=⟨_,rfl⟩;have HHE:Hid (∀y,H y=hL C R S y n):=fun y=>by rw [←HH.out]
 rw [HH.out];clear h hok hx hrs;go_enter Tryz.func33,Tryz.ntmps33
 go_wp2_with (first
  | (at_builtin;refine wpList_copy_rf rfl _ _ rfl w.heap.size (by simp) _ rfl (Vb (Nat.le_refl _) rfl) F z c xs rfl (HX.out.below ((Below.refl _ _).alloc (Nat.le_refl _) _)) hz ?_)
  | fail)
 intro F0 c0 w1 ho hg;have O1:Hid (w1.ownsRow w.heap.size 30 2 (.slice F0 z c0) z (QP rfL xs)):=ho;have B1:Hid (Below w.heap.size w w1):=((Below.refl _ _).alloc (Nat.le_refl _) _).grown hg (by simp) (fun j hj=>((Vb (B:=w.heap.size) (e:=30) (size:=2) (Nat.le_refl _) rfl).lt j hj).1);obtain⟨U,HU⟩: ∃U,Hid (plL C R n=U):=⟨_,rfl⟩;have HUC:Hid (∀i,i<n→(C i,R i)∈U):=fun i hi=>by rw [←HU.out];exact List.mem_map.2 ⟨i,List.mem_range.2 hi,rfl⟩
 obtain⟨N,HN⟩: ∃N,Hid (z+U.length=N):=⟨_,rfl⟩;have T1:Hid (Tw H U N xs xs):=by show Tw _ _ _ _ _;rw [←HN.out,←HX.out.len];exact Tw.start
 have hNN:N≤240:=by rw [←HN.out,←HU.out,plL_len];omega
 clear ho hg;go_wp2_with fail
 go_loopw [5,6] (fun v m wr=> ∃(T:List PL) (F:Option Addr) (z c:Nat) (b:Bool),v= .slice F z c∧T.length=z∧m= .bool b∧wr.ownsRow w.heap.size 30 2 (.slice F z c) z (QP rfL T)∧Tw H U N xs T∧(b=false→Ps C R S T n)∧Below w.heap.size w wr) (fun v m _=>2*(N-slN v)+blN m)
 case atStart=>exact⟨xs,F0,z,c0,true,rfl,HX.out.len,rfl,O1.out,T1.out,fun h=>(by cases h),B1.out⟩
 case round=>
  obtain⟨T,F1,z1,c1,b,rfl,hzl,rfl,hown,htw,hps,hbel⟩:=hrel;have OT:Hid (wr.ownsRow w.heap.size 30 2 (.slice F1 z1 c1) z1 (QP rfL T)):=hown;have HZ:Hid (T.length=z1):=hzl;have TW:Hid (Tw H U N xs T):=htw;have PS:Hid (b=false→Ps C R S T n):=hps;have BL:Hid (Below w.heap.size w wr):=hbel;have hz1N:z1≤N:=by have:=htw.len;omega
  clear hown hzl htw hps hbel;cases b
  ·have PN:Hid (Ps C R S T n):=PS.out rfl;go_wp2_with fail
   have RT:Hid (RfR wr F1 z1 T):=RfR.of_own OT.out HZ.out;have HTE:Hid (∀k,tcL C R (rtB H xs) k=tcL C R (fun y=>decide (y∈T)) k):=fun k=>tcL_ext (fun y=>by rw [rtB_iff,decide_eq_true_iff];exact(TW.out.iff (fun y hy z hz=>PN.out.shut y hy z (by rw [←HHE.out];exact hz)) y).symm) k;obtain⟨Q,HQ⟩: ∃Q,Hid ((fun y=>decide (y∈T))=Q):=⟨_,rfl⟩;have HQE:Hid (∀y,decide (y∈T)=Q y):=fun y=>by rw [←HQ.out]
   rw [HQ.out]at HTE;obtain⟨wq,HWQ⟩: ∃wq,wq=wr:=⟨_,rfl⟩;subst HWQ;have hqs:=BL.out.size;clear HQ OT TW PN;go_loopw [12,13] (fun v i wr=> ∃(k:Nat) (F:Option Addr) (z c:Nat),k≤n∧v= .slice F z c∧(tcL C R Q k).length=z∧i= .int .i64 k∧wr.ownsRow wq.heap.size 30 2 (.slice F z c) z (QP rfL (tcL C R Q k))∧Below wq.heap.size wq wr) (fun _ i _=>n-(intOf i).toNat)
   case atStart=>exact⟨0,_,0,0,Nat.zero_le _,rfl,rfl,rfl,Vb (Nat.le_refl _) rfl,(Below.refl _ _).alloc (Nat.le_refl _) _⟩
   case round=>
    obtain⟨k,F9,z9,c9,hk,rfl,hzl,rfl,hown,hbel⟩:=hrel;have OW:Hid (wr.ownsRow wq.heap.size 30 2 (.slice F9 z9 c9) z9 (QP rfL (tcL C R Q k))):=hown;have HZL:Hid ((tcL C R Q k).length=z9):=hzl;have hz120:z9≤120:=by rw [←hzl];exact Nat.le_trans (tcL_len C R Q k) (by omega)
    have BW:Hid (Below wq.heap.size wq wr):=hbel;clear hown hzl;by_cases hlt:k<n
    ·obtain⟨b9,o9,rfl,hl,d0,d1,_,_⟩:=(HR.out.below BL.out).2 k hlt;rw [←hbel.cell (p:=⟨_,_,none⟩) hl]at d0 d1;replace hl:=Nat.lt_of_lt_of_le hl hbel.size;have h0:(0:Int)≤(k:Int):=by omega
     have h1:(k:Int)<(n:Int):=by omega
     clear hbel;go_wp2_with fail
     refine(spec_l7Has (C k) (R k) _ (RT.out.below BW.out)).mono ?_;rintro e v1 ⟨rfl,hb⟩;have OV:=hd (Qe OW.out hb);have BV:=hd (Qc BW.out hb);replace d0:=(hb.cell (p:=⟨b9,_,none⟩) hl).trans d0;replace d1:=(hb.cell (p:=⟨b9,_,none⟩) hl).trans d1;replace hl:=Nat.lt_of_lt_of_le hl hb.size
     have hvs:=BV.out.size;rw [HQE.out];clear hb OW BW;cases hin:Q (C k,R k)
     ·have HE9:Hid (tcL C R Q (k+1)=tcL C R Q k):=tcL_no hin;clear hin;go_wp2_with fail
      go_roundw
      case rel=>exact⟨k+1,F9,z9,c9,by omega,rfl,by rw [HE9.out];exact HZL.out,by go_num,by rw [HE9.out];exact OV.out,BV.out⟩
      case measure=>simp [intOf];omega
     ·have HE9:Hid (tcL C R Q (k+1)=tcL C R Q k++ [(C k,R k)]):=tcL_yes hin;clear hin
      go_wp2_with (first
       | (at_builtin;refine Ju rfl _ _ rfl wq.heap.size (.slice F9 z9 c9) z9 (tcL C R Q k) rfl (OV.out.alloc _) (C k,R k) v1.heap.size rfl (by simp [go_sem]) (by simp [go_sem]) (by omega) (by simp;omega) ?_)
       | fail)
      intro v2 w9 ho hg;have B9:Hid (Below wq.heap.size wq w9):=(BV.out.alloc hvs _).grown hg (by simp;omega) (fun j hj=>(OV.out.lt j hj).1);obtain⟨F2,c2,rfl,_,_⟩:=Qj ho;have O2:Hid (w9.ownsRow wq.heap.size 30 2 (.slice F2 (z9+1) c2) (z9+1) (QP rfL (tcL C R Q (k+1)))):=by rw [HE9.out];exact ho
      clear ho hg;go_wp2_with fail
      go_roundw
      case rel=>exact⟨k+1,F2,z9+1,c2,by omega,rfl,by rw [HE9.out,List.length_append,HZL.out];rfl,by go_num,O2.out,B9.out⟩
      case measure=>simp [intOf];omega
    ·have h1: ¬(k:Int)<(n:Int):=by omega
     obtain rfl:k=n:=by omega
     go_wp2_with fail
     go_ret;exact⟨F9,z9,c9,rfl,by rw [HTE.out];exact HZL.out,by rw [HTE.out];exact Zl OW.out hqs,Qc BL.out hbel⟩
  ·clear PS;go_wp2_with fail
   obtain⟨z0,HZ0⟩: ∃z0,Hid (z1=z0):=⟨_,rfl⟩;go_loopw [5,6,7] (fun v m i wr=> ∃(T:List PL) (F:Option Addr) (z c k:Nat) (b:Bool),v= .slice F z c∧T.length=z∧m= .bool b∧i= .int .i64 k∧k≤n∧wr.ownsRow w.heap.size 30 2 (.slice F z c) z (QP rfL T)∧Tw H U N xs T∧(b=false→Ps C R S T k)∧z0≤z∧(b=true→z0<z)∧Below w.heap.size w wr) (fun _ _ i _=>n-(intOf i).toNat)
   case atStart=>exact⟨T,F1,z1,c1,0,false,rfl,HZ.out,rfl,rfl,Nat.zero_le _,OT.out,TW.out,fun _ j hj=>absurd hj (Nat.not_lt_zero _),by rw [HZ0.out];exact Nat.le_refl _,fun h=>(by cases h),BL.out⟩
   case round=>
    clear OT HZ TW BL hz1N T;obtain⟨T,F2,z2,c2,k,b,rfl,hzl,rfl,rfl,hk,hown,htw,hps,hz0,hzb,hbel⟩:=hrel;have OT:Hid (wr.ownsRow w.heap.size 30 2 (.slice F2 z2 c2) z2 (QP rfL T)):=hown;have HZ:Hid (T.length=z2):=hzl;have TW:Hid (Tw H U N xs T):=htw;have PS:Hid (b=false→Ps C R S T k):=hps;have ZZ:Hid (z0≤z2∧(b=true→z0<z2)):=⟨hz0,hzb⟩
    have BL:Hid (Below w.heap.size w wr):=hbel;have hz2N:z2≤N:=by have:=htw.len;omega
    clear hown hzl htw hps hbel hz0 hzb;by_cases hlt:k<n
    ·obtain⟨b9,o9,rfl,hl,d0,d1,d2,_⟩:=(HR.out.below BL.out).2 k hlt;have h0:(0:Int)≤(k:Int):=by omega
     have h1:(k:Int)<(n:Int):=by omega
     go_wp2_with fail
     refine(spec_l7Has (C k) (R k) _ (RfR.of_own OT.out HZ.out)).mono ?_;rintro e v1 ⟨rfl,hb⟩;have OV:=hd (Qe OT.out hb);have BV:=hd (Qc BL.out hb);replace d0:=(hb.cell (p:=⟨b9,_,none⟩) hl).trans d0;replace d1:=(hb.cell (p:=⟨b9,_,none⟩) hl).trans d1;replace d2:=(hb.cell (p:=⟨b9,_,none⟩) hl).trans d2
     replace hl:=Nat.lt_of_lt_of_le hl hb.size;clear hb OT BL;by_cases hin:(C k,R k)∈T
     ·rw [decide_eq_true hin];have PS2:Hid (b=false→Ps C R S T (k+1)):=fun h=>(PS.out h).next (Or.inl hin);clear hin PS;go_wp2_with fail
      go_roundw
      case rel=>exact⟨T,F2,z2,c2,k+1,b,rfl,HZ.out,rfl,by go_num,by omega,OV.out,TW.out,PS2.out,ZZ.out.1,ZZ.out.2,BV.out⟩
      case measure=>simp [intOf];omega
     ·rw [decide_eq_false hin];have HNI:Hid ((C k,R k)∉T):=hin;clear hin;go_wp2_with fail
      refine(Mw (S k) _ (HSZ.out k hlt)).mono ?_;rintro e v2 ⟨A2,m,c3,rfl,hml,har,h60,hb⟩;obtain⟨L,HL⟩: ∃L,Hid (lnA (S k)=L):=⟨_,rfl⟩;rw [HL.out]at hml har;have HM:Hid (L.length=m):=hml;have HA:Hid (ArR v2 A2 m L):=ArR.of_own har hml;have OV2:=hd (Qe OV.out hb)
      have RT2:Hid (RfR v2 F2 z2 T):=RfR.of_own OV2.out HZ.out;have BV2:=hd (Qc BV.out hb);replace d0:=(hb.cell (p:=⟨b9,_,none⟩) hl).trans d0;replace d1:=(hb.cell (p:=⟨b9,_,none⟩) hl).trans d1;replace hl:=Nat.lt_of_lt_of_le hl hb.size;clear hb har hml OV BV d2;go_wp2_with fail
      go_loopw [9,10] (fun d i wi=> ∃j:Nat,j≤m∧d= .bool (tyB (L.take j) T)∧i= .int .i64 j∧Below v2.heap.size v2 wi) (fun _ i _=>m-(intOf i).toNat)
      case atStart=>exact⟨0,Nat.zero_le _,rfl,rfl,Below.refl _ _⟩
      case round=>
       obtain⟨j,hj,rfl,rfl,hbi⟩:=hrel;have BJ:Hid (Below v2.heap.size v2 wr):=hbi;clear hbi;by_cases hltj:j<m
       ·have j0:(0:Int)≤(j:Int):=by omega
        have j1:(j:Int)<(m:Int):=by omega
        obtain⟨x,HXA⟩: ∃x,Hid (L.getD j (0,0,0,0)=x):=⟨_,rfl⟩;have HTJ:Hid (tyB (L.take (j+1)) T=(tyB (L.take j) T || T.any (fun y=>YF y.1 y.2 x))):=Qet (by rw [HM.out];exact hltj) HXA.out;obtain⟨d9,HD9⟩: ∃d,Hid (tyB (L.take j) T=d):=⟨_,rfl⟩;rw [HD9.out]at HTJ ⊢;have hjs:=BJ.out.size;go_wp2_with fail
        obtain⟨wo,HWO⟩: ∃wo,wo=wr:=⟨_,rfl⟩;subst HWO;go_loopw [9,11] (fun d i wi=> ∃q:Nat,q≤z2∧d= .bool (d9 || (T.take q).any (fun y=>YF y.1 y.2 x))∧i= .int .i64 q∧Below wo.heap.size wo wi) (fun _ i _=>z2-(intOf i).toNat)
        case atStart=>exact⟨0,Nat.zero_le _,by rw [List.take_zero,List.any_nil,Bool.or_false],rfl,Below.refl _ _⟩
        case round=>
         obtain⟨q,hq,rfl,rfl,hbq⟩:=hrel;have BI:Hid (Below wo.heap.size wo wr):=hbq;have BQ:=hd (Qc BJ.out hbq);clear hbq;by_cases hltq:q<z2
         ·obtain⟨y12,HYY⟩: ∃y,Hid (T.getD q (0,0)=y):=⟨_,rfl⟩;obtain⟨y1,y2⟩:=y12;obtain⟨b2,o2,rfl,hl2,m0,m1⟩:=(RT2.out.below BQ.out).at_ q hltq;rw [HYY.out]at m0 m1;simp only at m0 m1;obtain⟨b3,o3,rfl,hl3,a0,a1,a2,a3⟩:=(HA.out.below BQ.out).at_ j hltj;rw [HXA.out]at a0 a1 a2 a3
          have q0:(0:Int)≤(q:Int):=by omega
          have q1:(q:Int)<(z2:Int):=by omega
          have HTQ:Hid ((d9 || (T.take (q+1)).any (fun y=>YF y.1 y.2 x))=(d9 || (T.take q).any (fun y=>YF y.1 y.2 x) || YF y1 y2 x)):=by show _=_;rw [any_takeP (by rw [HZ.out];exact hltq) HYY.out,←Bool.or_assoc]
          cases hd:(d9 || (T.take q).any (fun y=>YF y.1 y.2 x))
          ·cases hin:YF y1 y2 x
           ·have HE:Hid ((d9 || (T.take (q+1)).any (fun y=>YF y.1 y.2 x))=false):=by show _=_;rw [HTQ.out,hd,hin];rfl
            clear hd HTQ;go_wp2_with fail
            refine wp_region_held_drew (S:=(fun w'=>(∀bq oq,bq<wr.heap.size→w'.cell? ⟨bq,oq,none⟩=wr.cell? ⟨bq,oq,none⟩)∧wr.heap.size≤w'.heap.size∧Below wr.heap.size wr w')) (by kernel_rfl) (Qn (by go_size) (by go_grown)) (fun hHeld=> ?_);refine tkA 0 ?_;refine tkB 1 ?_;refine tkA 2 ?_;refine tkB 3 ?_;refine tkA 4 ?_;refine tkB 5 ?_
            refine tkA 6 ?_;refine tkB 7 ?_;refine tkA 8 ?_;refine tkB 9 ?_;refine rqA 10 (fun Kq hKq=> ?_);go_simp
            (refine(XT x y1 y2 _).mono ?_;rintro e wy ⟨rfl,hb⟩;rw [hin];obtain⟨hk1,hz1⟩:=Qh (B:=wr.heap.size) (X:=wr) (by go_grown) (by go_size) hb;have hCy:=fun b o h=>hk1.cell (p:=⟨b,o,none⟩) h;clear hb)
            refine hkB hKq (Qn (by go_size) (by go_grown)) fun hHeld=> ?_;clear hKq Kq;refine tkA 11 ?_;refine tkB 12 ?_;refine wpAnyH_done (by kernel_rfl) ?_ _;go_wp2_with fail
            go_roundw
            case rel=>exact⟨q+1,by omega,by rw [HE.out],by go_num,Qc BI.out (by go_grown)⟩
            case measure=>simp [intOf];omega
           ·have HE:Hid ((d9 || (T.take (q+1)).any (fun y=>YF y.1 y.2 x))=true):=by show _=_;rw [HTQ.out,hd,hin];rfl
            clear hd HTQ;go_wp2_with fail
            refine wp_region_held_drew (S:=(fun w'=>(∀bq oq,bq<wr.heap.size→w'.cell? ⟨bq,oq,none⟩=wr.cell? ⟨bq,oq,none⟩)∧wr.heap.size≤w'.heap.size∧Below wr.heap.size wr w')) (by kernel_rfl) (Qn (by go_size) (by go_grown)) (fun hHeld=> ?_);refine tkA 0 ?_;refine tkB 1 ?_;refine tkA 2 ?_;refine tkB 3 ?_;refine tkA 4 ?_;refine tkB 5 ?_
            refine tkA 6 ?_;refine tkB 7 ?_;refine tkA 8 ?_;refine tkB 9 ?_;refine rqA 10 (fun Kq hKq=> ?_);go_simp
            (refine(XT x y1 y2 _).mono ?_;rintro e wy ⟨rfl,hb⟩;rw [hin];obtain⟨hk1,hz1⟩:=Qh (B:=wr.heap.size) (X:=wr) (by go_grown) (by go_size) hb;have hCy:=fun b o h=>hk1.cell (p:=⟨b,o,none⟩) h;clear hb)
            refine hkB hKq (Qn (by go_size) (by go_grown)) fun hHeld=> ?_;clear hKq Kq;refine tkA 11 ?_;refine tkB 12 ?_;refine wpAnyH_done (by kernel_rfl) ?_ _;go_wp2_with fail
            go_roundw
            case rel=>exact⟨q+1,by omega,by rw [HE.out],by go_num,Qc BI.out (by go_grown)⟩
            case measure=>simp [intOf];omega
          ·have HE:Hid ((d9 || (T.take (q+1)).any (fun y=>YF y.1 y.2 x))=true):=by show _=_;rw [HTQ.out,hd];rfl
           clear hd HTQ;go_wp2_with fail
           refine wp_region_held_drew (S:=(fun w'=>(∀bq oq,bq<wr.heap.size→w'.cell? ⟨bq,oq,none⟩=wr.cell? ⟨bq,oq,none⟩)∧wr.heap.size≤w'.heap.size∧Below wr.heap.size wr w')) (by kernel_rfl) (Qn (by go_size) (by go_grown)) (fun hHeld=> ?_);refine tkA 0 ?_;refine tkB 1 ?_;refine tnA 2 ?_;refine tnB 3 ?_;refine tnA 4 ?_;refine tnB 5 ?_
           refine tnA 6 ?_;refine tnB 7 ?_;refine tnA 8 ?_;refine tnB 9 ?_;refine tnA 10 ?_;refine tkB 11 ?_;refine tkB 12 ?_
           refine wpAnyH_done (by kernel_rfl) ?_ _;go_wp2_with fail
           go_roundw
           case rel=>exact⟨q+1,by omega,by rw [HE.out],by go_num,Qc BI.out (by go_grown)⟩
           case measure=>simp [intOf];omega
         ·have q1: ¬(q:Int)<(z2:Int):=by omega
          obtain rfl:q=z2:=by omega
          have HTQ:Hid ((d9 || (T.take q).any (fun y=>YF y.1 y.2 x))=tyB (L.take (j+1)) T):=by show _=_;rw [HTJ.out,←HZ.out,List.take_length]
          rw [HTQ.out];go_wp2_with fail
          go_roundw
          case rel=>exact⟨j+1,by omega,rfl,by go_num,BQ.out⟩
          case measure=>simp [intOf];omega
       ·have j1: ¬(j:Int)<(m:Int):=by omega
        obtain rfl:j=m:=by omega
        have HTA:Hid (tyB (L.take j) T=tyB L T):=by show _=_;rw [←HM.out,List.take_length]
        rw [HTA.out];have OJ:=hd (Qe OV2.out BJ.out);have BWJ:=hd (Qc BV2.out BJ.out);replace d0:=(BJ.out.cell (p:=⟨b9,_,none⟩) hl).trans d0;replace d1:=(BJ.out.cell (p:=⟨b9,_,none⟩) hl).trans d1;replace hl:=Nat.lt_of_lt_of_le hl BJ.out.size;have hjs:=BWJ.out.size
        cases hty:tyB L T
        ·have PS2:Hid (b=false→Ps C R S T (k+1)):=fun h=>(PS.out h).next (Or.inr (by rw [HL.out];exact hty));clear hty PS;go_wp2_with fail
         go_roundw
         case rel=>exact⟨T,F2,z2,c2,k+1,b,rfl,HZ.out,rfl,by go_num,by omega,OJ.out,TW.out,PS2.out,ZZ.out.1,ZZ.out.2,BWJ.out⟩
         case measure=>simp [intOf];omega
        ·obtain⟨y,hy1,hy2⟩:=tyB_iff.1 hty;have TW2:Hid (Tw H U N xs (T++ [(C k,R k)])):=TW.out.add hy1 (by rw [HHE.out];exact hL_mem.2 ⟨k,hlt,rfl,by rw [HL.out];exact hy2⟩) (HUC.out k hlt) HNI.out;clear hty hy1 hy2 PS
         go_wp2_with (first
          | (at_builtin;refine Ju rfl _ _ rfl w.heap.size (.slice F2 z2 c2) z2 T rfl (OJ.out.alloc _) (C k,R k) wr.heap.size rfl (by simp [go_sem]) (by simp [go_sem]) (by omega) (by simp;omega) ?_)
          | fail)
         intro v3 w9 ho hg;have B9:Hid (Below w.heap.size w w9):=(BWJ.out.alloc hjs _).grown hg (by simp;omega) (fun j hj=>(OJ.out.lt j hj).1);obtain⟨F3,c4,rfl,_,_⟩:=Qj ho;have O9:Hid (w9.ownsRow w.heap.size 30 2 (.slice F3 (z2+1) c4) (z2+1) (QP rfL (T++ [(C k,R k)]))):=ho;clear ho hg;go_wp2_with fail
         go_roundw
         case rel=>exact⟨_,F3,z2+1,c4,k+1,true,rfl,by rw [List.length_append,HZ.out];rfl,rfl,by go_num,by omega,O9.out,TW2.out,fun h=>(by cases h),by have:=ZZ.out.1;omega,fun _=>by have:=ZZ.out.1;omega,B9.out⟩
         case measure=>simp [intOf];omega
    ·have h1: ¬(k:Int)<(n:Int):=by omega
     obtain rfl:k=n:=by omega
     go_wp2_with fail
     go_roundw
     case rel=>exact⟨T,F2,z2,c2,b,rfl,HZ.out,rfl,OT.out,TW.out,PS.out,BL.out⟩
     case measure=>
      have h8:=ZZ.out;have h9:=HZ0.out;cases b
      ·simp [slN,blN];omega
      ·have:=h8.2 rfl;simp [slN,blN];omega
theorem spec_Touched {A:Option Addr} {n cap:Nat} {C R:Nat→Int} {S:Nat→ByteArray} {F:Option Addr} {z c:Nat} {xs:List PL} (w:World) (h:ClRow w A n C R S) (hx:RfR w F z xs):
  Calls Tryz.prog 19 #[.slice A n cap,.slice F z c] w fun e w'=> ∃F' z' c',e= .returned (.slice F' z' c')∧(tcR C R S n xs).length=z'∧w'.ownsRow w.heap.size 30 2 (.slice F' z' c') z' (QP rfL (tcR C R S n xs))∧Below w.heap.size w w':=by
 have HR:Hid (ClRow w A n C R S):=h;have HX:Hid (RfR w F z xs):=hx;clear h hx;go_enter Tryz.func19,Tryz.ntmps19;go_wp2_with fail
 refine(MA w HR.out).mono ?_;rintro e w1 ⟨rfl,hb⟩;have B1:Hid (Below w.heap.size w w1):=hb;clear hb;cases hok:Zg C R S n
 ·have HE:Hid (tcR C R S n xs= []):=by show _=_;unfold tcR;rw [hok,if_neg (fun h=>by cases h.1)]
  clear hok;go_wp2_with fail
  go_ret;refine⟨some ⟨w1.heap.size,0,none⟩,0,0,rfl,by rw [HE.out];rfl,?_,B1.out.alloc B1.out.size _⟩;rw [HE.out];exact Vb B1.out.size rfl
 ·have HOK:Hid (Zg C R S n=true):=hok;by_cases hz:z≤120
  ·have HE:Hid (tcR C R S n xs=tcL C R (rtB (fun x=>hL C R S x n) xs) n):=by show _=_;unfold tcR;rw [if_pos ⟨hok,by rw [HX.out.len];exact hz⟩]
   have hz1: ¬(120:Int)<(z:Int):=by omega
   clear hok;go_wp2_with fail
   refine(spec_l7Touched _ (HR.out.below B1.out) HOK.out (HX.out.below B1.out) hz).mono ?_;rintro e w2 ⟨F2,z2,c2,rfl,h1,h2,hb⟩;have O2:=hd (Zl h2 B1.out.size);have HZ:Hid ((tcL C R (rtB (fun x=>hL C R S x n) xs) n).length=z2):=h1;have B2:=hd (Qc B1.out hb);clear h1 h2 hb;go_wp2_with fail
   go_ret;exact⟨F2,z2,c2,rfl,by rw [HE.out];exact HZ.out,by rw [HE.out];exact O2.out,B2.out⟩
  ·have HE:Hid (tcR C R S n xs= []):=by show _=_;unfold tcR;rw [if_neg (fun h=>hz (by rw [←HX.out.len];exact h.2))]
   have hz1:(120:Int)<(z:Int):=by omega
   clear hok;go_wp2_with fail
   go_ret;refine⟨some ⟨w1.heap.size,0,none⟩,0,0,rfl,by rw [HE.out];rfl,?_,B1.out.alloc B1.out.size _⟩;rw [HE.out];exact Vb B1.out.size rfl
end Go.Proofs.YtekcnhfkmimodaaGreatDoor
namespace Go.Proofs.YtekcnhfkmimodaaGreatDoor
open Go.RowKit
theorem laws_szCellT {A:Option Addr} {n cap:Nat} {C R:Nat→Int} {S:Nat→ByteArray} (w:World) (h:ClRow w A n C R S):
  Calls Tryz.prog 6 #[.slice A n cap,.int .i64 1048576] w fun e w'=> ∃z:Int,e= .returned (.int .i64 z)∧(0≤z→n≤1048576)∧z≤1048576∧Below w.heap.size w w':=by
 have HR:Hid (ClRow w A n C R S):=h;have hm:=h.1;clear h;unfold maxLen at hm;by_cases hbig:(1048576:Int)-(n:Int)<0
 ·go_enter Tryz.func6,Tryz.ntmps6;go_wp2_with fail
  go_ret;exact⟨-1,rfl,fun h=>by omega,by omega,by go_grown⟩
 ·go_enter Tryz.func6,Tryz.ntmps6;go_wp2_with fail
  go_loopw [1,5] (fun l i wr=> ∃(t:Nat) (z:Int),t≤n∧i= .int .i64 t∧l= .int .i64 z∧0≤z∧z≤1048576∧Below w.heap.size w wr) (fun _ i _=>n-(intOf i).toNat)
  case atStart=>exact⟨0,_,Nat.zero_le _,rfl,rfl,by omega,by omega,Below.refl _ _⟩
  case round=>
   obtain⟨t,z,ht,rfl,rfl,z0,z1,hbel⟩:=hrel;by_cases hlt:t<n
   ·obtain⟨b,o,rfl,hl,c0,c1,c2,hs⟩:=HR.out.2 t hlt;rw [←hbel.cell (p:=⟨_,_,none⟩) hl]at c0 c1 c2;have q0:(0:Int)≤(t:Int):=by omega
    have q1:(t:Int)<(n:Int):=by omega
    have HB:Hid (Below w.heap.size w wr):=hbel;clear hbel;go_wp2_with fail
    refine(Oc _ _ _ _ _ hs z0 z1).mono ?_;rintro e w2 ⟨rfl,hb⟩;have HB2:=hd (Qc HB.out hb);clear hb c0 c1 c2;have HZ:Hid (szv z (S t).size≤1048576):=by show _≤_;unfold szv;split<;>omega
    by_cases hz:szv z (S t).size<0
    ·go_wp2_with fail
     go_ret;exact⟨_,rfl,fun h=>by omega,by omega,HB2.out⟩
    ·go_wp2_with fail
     go_roundw
     case rel=>exact⟨t+1,_,by omega,by go_num,rfl,by omega,HZ.out,HB2.out⟩
     case measure=>simp [intOf];omega
   ·have q1: ¬(t:Int)<(n:Int):=by omega
    go_wp2_with fail
    go_ret;exact⟨_,rfl,fun h=>by omega,z1,hbel⟩
theorem laws_szRefS {A:Option Addr} {n cap:Nat} (l:Int) (w:World) (h0:0≤l) (h1:l≤1048576) (hn:n≤maxLen):
  Calls Tryz.prog 18 #[.slice A n cap,.int .i64 l] w fun e w'=> ∃z:Int,e= .returned (.int .i64 z)∧(0≤z→n≤1048576)∧Below w.heap.size w w':=by
 unfold maxLen at hn;have hw:IntKind.i64.wrap (l-(n:Int))=l-n:=by rw [IntKind.wrap_i64];omega
 by_cases hneg:l-(n:Int)<0
 ·go_enter Tryz.func18,Tryz.ntmps18;go_wp2_with fail
  go_ret;exact⟨-1,rfl,fun h=>by omega,by go_grown⟩
 ·go_enter Tryz.func18,Tryz.ntmps18;go_wp2_with fail
  go_ret;exact⟨_,rfl,fun h=>by omega,by go_grown⟩
theorem own_twoF {W:World} {B:Nat} {e:TypeId} {g n cap t:Nat} {ys:List Value} {xs:List PL} {x:PL} (h:W.ownsRow B e 2 (.slice (some ⟨g,0,none⟩) n cap) n ys) (ht:t<n) (hx:xs[t]? =some x) (hy: ∀j,j<t*2→ys[j]? =(QP rfL xs)[j]?):
  ∃zs,((W.setCell ⟨g,t*2,none⟩ (.int .i64 x.1)).setCell ⟨g,t*2+1,none⟩ (.int .i64 x.2)).ownsRow B e 2 (.slice (some ⟨g,0,none⟩) n cap) n zs∧
   (∀j,j<(t+1)*2→zs[j]? =(QP rfL xs)[j]?)∧W.grownBy ((W.setCell ⟨g,t*2,none⟩ (.int .i64 x.1)).setCell ⟨g,t*2+1,none⟩ (.int .i64 x.2)) (some g):=by
 obtain⟨o1,g1⟩:=h.stored (t*2) (.int .i64 x.1);obtain⟨o2,g2⟩:=o1.stored (t*2+1) (.int .i64 x.2);refine⟨_,o2,fun j hj=> ?_,QV g1 g2⟩;have hl:=h.1;by_cases e1:t*2+1=j
 ·subst e1;rw [List.getElem?_set_self (by simp;omega),XH (f:=rfL) (k:=2) (fun _=>rfl) 1 (by omega),hx];rfl
 ·rw [List.getElem?_set_ne e1];by_cases e2:t*2=j
  ·subst e2;have h9:=XH (f:=rfL) (k:=2) (fun _=>rfl) 0 (by omega) xs t;rw [Nat.add_zero,hx]at h9;rw [List.getElem?_set_self (by omega),h9];rfl
  ·rw [List.getElem?_set_ne e2];exact hy j (by omega)
theorem rf_rows_eq {n:Nat} {ys:List Value} {xs:List PL} (hl:ys.length=n*2) (hx:xs.length=n) (hy: ∀j,j<n*2→ys[j]? =(QP rfL xs)[j]?):ys=QP rfL xs:=by
 apply List.ext_getElem?;intro j;by_cases h:j<n*2
 ·exact hy j h
 ·rw [List.getElem?_eq_none (by omega),List.getElem?_eq_none (by rw [Ds (f:=rfL) (k:=2) (fun _=>rfl)];omega)]
theorem laws_toRefS {A:Option Addr} {n cap:Nat} {xs:List PL} (w:World) (h:RfR w A n xs) (hn:n≤1048576):
  Calls Tryz.prog 20 #[.slice A n cap] w fun e w'=> ∃v,e= .returned v∧w'.ownsRow w.heap.size 30 2 v n (QP rfL xs)∧Below w.heap.size w w':=by
 have HR:Hid (RfR w A n xs):=h;clear h;obtain⟨i0,hi,hz0,hz1,hz2⟩:=info_parts Qkz;go_enter Tryz.func20,Tryz.ntmps20;go_wp2_with (refine wpList_make_full _ rfl _ _ 26 rfl w.heap.size 30 i0 _ 2 Tryz.underlying26 hi hz0 hz1 _ _ _ _ n rfl rfl rfl rfl ?m1 ?m2 ?m3 ?_)
 case m1=>rw [hz2];omega
 case m2=>unfold maxLen;omega
 case m3=>exact Nat.le_refl _
 intro w1 hown hgrow;have hg1:Below w.heap.size w w1:=(Below.refl _ _).grown hgrow (Nat.le_refl _) (fun k hk=>by cases hk);obtain⟨ys,hown⟩: ∃ys,w1.ownsRow w.heap.size 30 2 (.slice (some ⟨w.heap.size,0,none⟩) n n) n ys:=⟨_,hown⟩;clear hgrow;have HO:Hid (w1.ownsRow w.heap.size 30 2 (.slice (some ⟨w.heap.size,0,none⟩) n n) n ys):=hown;clear hown;go_wp2_with fail
 go_loopw [4] (fun i wr=> ∃t:Nat,t≤n∧i= .int .i64 t∧(∃ys,wr.ownsRow w.heap.size 30 2 (.slice (some ⟨w.heap.size,0,none⟩) n n) n ys∧ ∀j,j<t*2→ys[j]? =(QP rfL xs)[j]?)∧Below w.heap.size w wr) (fun i _=>n-(intOf i).toNat)
 case atStart=>exact⟨0,Nat.zero_le _,rfl,⟨ys,HO.out,fun j hj=>by omega⟩,hg1⟩
 case round=>
  clear HO hg1;obtain⟨t,ht,rfl,⟨ys,hown,hys⟩,hbel⟩:=hrel;by_cases hlt:t<n
  ·obtain⟨b,o,rfl,hl,c0,c1⟩:=HR.out.at_ t hlt;rw [←hbel.cell (p:=⟨_,_,none⟩) hl]at c0 c1;have HXT:Hid (xs[t]? =some (xs.getD t (0,0))):=getD_atP (by rw [HR.out.len];exact hlt);obtain⟨x,HXX⟩: ∃x,Hid (xs.getD t (0,0)=x):=⟨_,rfl⟩;rw [HXX.out]at c0 c1 HXT;have q0:(0:Int)≤(t:Int):=by omega
   have q1:(t:Int)<(n:Int):=by omega
   have HO:Hid (wr.ownsRow w.heap.size 30 2 (.slice (some ⟨w.heap.size,0,none⟩) n n) n ys):=hown;have HY:Hid (∀j,j<t*2→ys[j]? =(QP rfL xs)[j]?):=hys;have HB:Hid (Below w.heap.size w wr):=hbel;clear hown hys hbel;go_wp2_with fail
   refine(XA _ _ _).mono ?_;rintro e w2 ⟨rfl,hb⟩;have HO2:=hd (Qe HO.out hb);have HB2:=hd (Qc HB.out hb);obtain⟨A',cap',e,_,hc⟩:=Qj HO2.out;cases e
   obtain⟨g0,e0,_,hg,d0,f0⟩:=hc (t*2) (by omega);obtain⟨g1,e1,_,_,d1,f1⟩:=hc (t*2+1) (by omega);cases e0
   cases e1
   clear hc hb c0 c1 HO HB;have hl5:=HO2.out.1;obtain⟨x0,y0⟩: ∃x,ys[t*2]? =some x:=⟨_,List.getElem?_eq_getElem (by omega)⟩;obtain⟨x1,y1⟩: ∃x,ys[t*2+1]? =some x:=⟨_,List.getElem?_eq_getElem (by omega)⟩;rw [y0]at d0;rw [y1]at d1;clear y0 y1 hl5
   have HT:=own_twoF HO2.out hlt HXT.out HY.out
   have HT':Hid (∃zs,((w2.setCell ⟨w.heap.size,t*2,none⟩ (.int .i64 x.1)).setCell ⟨w.heap.size,t*2+1,none⟩ (.int .i64 x.2)).ownsRow w.heap.size 30 2 (.slice (some ⟨w.heap.size,0,none⟩) n n) n zs∧
    (∀j,j<(t+1)*2→zs[j]? =(QP rfL xs)[j]?)∧w2.grownBy ((w2.setCell ⟨w.heap.size,t*2,none⟩ (.int .i64 x.1)).setCell ⟨w.heap.size,t*2+1,none⟩ (.int .i64 x.2)) (some w.heap.size)):=HT
   clear HO2 HY HT;go_wp2_with fail
   all_goals
    go_roundw
    case rel=>
     obtain⟨zs,z1,z2,z3⟩:=HT'.out;exact⟨t+1,by omega,by simp,⟨zs,z1,z2⟩,HB2.out.grown z3 HB2.out.size (fun k hk=>by cases hk;exact Nat.le_refl _)⟩
    case measure=>simp [intOf];omega
  ·have q1: ¬(t:Int)<(n:Int):=by omega
   obtain rfl:t=n:=by omega
   go_wp2_with fail
   go_ret;exact⟨_,rfl,by rw [rf_rows_eq hown.1 HR.out.len hys]at hown;exact hown,hbel⟩
theorem laws_markRefT {B n:Nat} {v:Value} {xs:List Value} (k:Int) (w:World) (h:w.ownsRow B 30 2 v n xs) (hn:n≤1048576) (h0:0≤k) (h1:k≤1000000000):
  Calls Tryz.prog 14 #[v,.int .i64 k] w fun e w'=>e= .returned (.int .i64 (k+(n*2:Nat)))∧(∃ys,w'.ownsRow B 30 2 v n ys∧ ∀j,j<n*2→ys[j]? =some (.int .i64 (k+(j:Nat))))∧w.grownBy w' v.ownBlock:=by
 have HO:Hid (w.ownsRow B 30 2 v n xs):=h;obtain⟨A,cap,rfl,_,_⟩:=Qj h;clear h;go_enter Tryz.func14,Tryz.ntmps14;go_wp2_with fail
 go_loopw [1,5] (fun q i wr=> ∃t:Nat,t≤n∧i= .int .i64 t∧q= .int .i64 (k+(t*2:Nat))∧(∃ys,wr.ownsRow B 30 2 (.slice A n cap) n ys∧ ∀j,j<t*2→ys[j]? =some (.int .i64 (k+(j:Nat))))∧w.grownBy wr (Value.slice A n cap).ownBlock) (fun _ i _=>n-(intOf i).toNat)
 case atStart=>exact⟨0,Nat.zero_le _,rfl,by simp,⟨xs,HO.out,fun j hj=>by omega⟩,World.grownBy.refl _ _⟩
 case round=>
  obtain⟨t,ht,rfl,rfl,⟨ys,hown,hys⟩,hgr⟩:=hrel;by_cases hlt:t<n
  ·obtain⟨A',cap',e,_,hc⟩:=Qj hown;cases e
   obtain⟨g,rfl,_,hg,c0,f0⟩:=hc (t*2) (by omega);obtain⟨g',e1,_,_,c1,f1⟩:=hc (t*2+1) (by omega);cases e1
   clear hc;have hl:=hown.1;obtain⟨x0,e0⟩: ∃x,ys[t*2]? =some x:=⟨_,List.getElem?_eq_getElem (by omega)⟩;obtain⟨x1,e1⟩: ∃x,ys[t*2+1]? =some x:=⟨_,List.getElem?_eq_getElem (by omega)⟩;rw [e0]at c0;rw [e1]at c1;clear e0 e1
   have HT:=Qde hown hlt hys
   have HT':Hid (∃zs,((wr.setCell ⟨g,t*2,none⟩ (.int .i64 (k+(t*2:Nat)))).setCell ⟨g,t*2+1,none⟩ (.int .i64 (k+(t*2+1:Nat)))).ownsRow B 30 2 (.slice (some ⟨g,0,none⟩) n cap) n zs∧
    (∀j,j<(t+1)*2→zs[j]? =some (.int .i64 (k+(j:Nat))))∧wr.grownBy ((wr.setCell ⟨g,t*2,none⟩ (.int .i64 (k+(t*2:Nat)))).setCell ⟨g,t*2+1,none⟩ (.int .i64 (k+(t*2+1:Nat)))) (some g)):=HT
   clear HT hown hys hl;have HG:Hid (w.grownBy wr (some g)):=hgr;clear hgr HO;have q0:(0:Int)≤(t:Int):=by omega
   have q1:(t:Int)<(n:Int):=by omega
   go_wp2_with fail
   all_goals
    go_roundw
    case rel=>
     obtain⟨zs,z1,z2,z3⟩:=HT'.out;have e0:k+((t*2:Nat):Int)=k+(t:Int)*2:=by omega
     have e1:k+((t*2+1:Nat):Int)=k+(t:Int)*2+1:=by omega
     rw [e0,e1]at z1 z3;exact⟨t+1,by omega,by simp,by congr 1;omega,⟨zs,z1,z2⟩,QV HG.out z3⟩
    case measure=>simp [intOf];omega
  ·have h1: ¬(t:Int)<(n:Int):=by omega
   obtain rfl:t=n:=by omega
   go_wp2_with fail
   go_ret;exact⟨rfl,⟨ys,hown,hys⟩,hgr⟩
end Go.Proofs.YtekcnhfkmimodaaGreatDoor
namespace Go.Proofs.YtekcnhfkmimodaaGreatDoor
open Go.ChangeShapes Go.WideShapes Go.ChangeAt Go.RowKit Go.Joins
theorem cellsRs:Tryz.prog.cellsOf 24=2:=by kernel_rfl
theorem open_rfs {H:Type} {enc:TypeId × Value→H} {W:World} {r:Reach} {b0 base:Nat} {sp:Nat→Bool} {held:Bool} {v:Value} {d:DataW H} {p:List MemPlace}
  (hv:Value.okWide Tryz.prog W r b0 38 v) (h:DataW.Trod enc Tryz.prog W base sp held 38 v d p):
  ∃A len cap xs,v= .slice A len cap∧RfR W A len xs∧ ∀u∈xs,(Lit.int .i64 u.1).wf=true∧(Lit.int .i64 u.2).wf=true:=by
 obtain⟨a0,len,cap,rfl⟩:=okWide_slice Tryz.underlying38 hv;obtain⟨fuel,hf⟩:=h;rcases Go.Deep.open_slice Tryz.underlying38 hf with⟨hcs,_⟩ | ⟨a,len',cap',m,n,D,Pl,hcs,_,hl,hm,hmm,_,hx⟩
 ·simp [Value.cells]at hcs;obtain⟨rfl,rfl,rfl⟩:=hcs;exact⟨none,0,0,[],rfl,⟨rfl,Nat.zero_le _,fun i hi=>absurd hi (Nat.not_lt_zero _)⟩,fun u hu=>(List.not_mem_nil hu).elim⟩
 ·simp [Value.cells]at hcs;obtain⟨rfl,rfl,rfl⟩:=hcs;rw [cellsRs]at hx;have hlm:len≤m:=by rw [hmm];split<;>omega
  have each: ∀i,i<len→ ∃q:Int × Int,∃b o,some a=some (⟨b,o,none⟩:Addr)∧b<W.heap.size∧W.cell? ⟨b,o+i*2,none⟩=some (.int .i64 q.1)∧W.cell? ⟨b,o+i*2+1,none⟩=some (.int .i64 q.2)∧
    (Lit.int .i64 q.1).wf=true∧(Lit.int .i64 q.2).wf=true:=by
   intro i hi;obtain⟨cs',h1,h2⟩:=hx i (by omega);obtain⟨_,hlen,hcell⟩:=World.cells?_some h1;have k1:Tryz.prog.cellsOf 2=1:=by kernel_rfl
   match cs',hlen with
   | [v0,v1],_=>
    obtain⟨z0,z1,n2,_,_,q0,q1⟩:=trod_struct2 Tryz.underlying24 h2;simp only [k1,List.drop_zero,List.take_succ_cons,List.take_zero,List.drop_succ_cons]at q0 q1;obtain⟨x0,e0,_,w0⟩:=DataW.trod_int Tryz.underlying2 q0;obtain⟨x1,e1,_,w1⟩:=DataW.trod_int Tryz.underlying2 q1;simp at e0 e1;subst e0 e1;have d0:=hcell 0 (by omega)
    have d1:=hcell 1 (by omega);obtain⟨b,off,spot⟩:=a
    have hspot:spot=none:=by
     obtain⟨cs0,h01,_⟩:=hx 0 (by omega);obtain⟨_,hlen0,hcell0⟩:=World.cells?_some h01;have hc0:=hcell0 0 (by omega);rw [List.getElem?_eq_getElem (by omega)]at hc0;have hc1:=World.cell?_spot hc0;simpa [Addr.add]using hc1
    subst hspot;simp only [Go.WideShapes.add_plain]at d0 d1;refine⟨(x0,x1),b,off,rfl,World.block_lt_of_cell? W ⟨b,off+i*2+0,none⟩ d0,d0,d1,w0,w1⟩
  obtain⟨q,hq⟩:=Go.Deep.choose_lt each
  have hat: ∀i,i<len→((List.range len).map q).getD i (0,0)=q i:=fun i hi=>by
   rw [List.getD_eq_getElem?_getD,List.getElem?_map,List.getElem?_range hi];rfl
  refine⟨some a,len,cap,(List.range len).map q,rfl,⟨by simp,Nat.le_trans hl hm,fun i hi=> ?_⟩,fun u hu=> ?_⟩
  ·rw [hat i hi];obtain⟨b,o,e,h1,h2,h3,_,_⟩:=hq i hi;exact⟨b,o,e,h1,h2,h3⟩
  ·obtain⟨i,hi,rfl⟩:=List.mem_map.1 hu;obtain⟨_,_,_,_,_,_,h4,h5⟩:=hq i (List.mem_range.1 hi);exact⟨h4,h5⟩
end Go.Proofs.YtekcnhfkmimodaaGreatDoor
namespace Go.Proofs.YtekcnhfkmimodaaGreatDoor
open Go.RowKit Go.Maps
theorem Qg3 (L:List (Int × Int)): ∀j,j<L.length*2→ ∃z,(QP rfL L)[j]? =some (.int .i64 z):=fun j hj=>by
 have h1:=XH (f:=rfL) (k:=2) (fun _=>rfl) (j%2) (by omega) L (j/2);rw [show j/2*2+j%2=j by omega]at h1;rw [h1,List.getElem?_eq_getElem (by omega:j/2<L.length)];rcases(show j%2=0∨j%2=1 by omega)with e | e
 ·rw [e];exact⟨_,rfl⟩
 ·rw [e];exact⟨_,rfl⟩
theorem Qbf {W:World} {B n:Nat} {e:TypeId} {s:Nat} {v v':Value} {xs:List Value} (h:W.ownsRow B e s v n xs) (hb: ∀k,v'.ownBlock=some k→k<B):v'.ownBlock=none∨v'.ownBlock≠v.ownBlock:=by
 cases hv:v'.ownBlock with
 | none=>exact Or.inl rfl
 | some g=>
  right
  intro e;have h1:=hb g hv;have h2:=(h.lt g e.symm).1;omega
theorem own_over {W:World} {B n:Nat} {e:TypeId} {s:Nat} {v v':Value} {xs:List Value} (h:W.ownsRow B e s v n xs) (hb: ∀k,v'.ownBlock=some k→k<B):v.ownBlock=none∨v.ownBlock≠v'.ownBlock:=by
 cases hv:v.ownBlock with
 | none=>exact Or.inl rfl
 | some g=>
  right
  intro e;have h1:=hb g e.symm;have h2:=(h.lt g hv).1;omega
theorem tcR_len {C R:Nat→Int} {S:Nat→ByteArray} {n:Nat} {xs:List PL}:(tcR C R S n xs).length≤120:=by
 unfold tcR;split
 ·rename_i h
  exact Nat.le_trans (tcL_len _ _ _ _) (Vf h.1).1
 ·exact Nat.zero_le _
theorem law_FnExactTouched (A:Option Addr) (n cap:Nat) (C R:Nat→Int) (S:Nat→ByteArray) (F:Option Addr) (z c:Nat) (xs:List PL) (w:World) (h:ClRow w A n C R S) (hx:RfR w F z xs) (hw: ∀u∈xs,(Lit.int .i64 u.1).wf=true∧(Lit.int .i64 u.2).wf=true) (hg:GI w):Calls Tryz.prog 5 #[.slice A n cap,.slice F z c] w fun e w'=>
  e= .returned (.bool true)∧Below w.heap.size w w':=by
 have HR:Hid (ClRow w A n C R S):=h;have HS:Hid (∀i,i<n→(S i).size≤maxLen):=fun i hi=>by obtain⟨_,_,_,_,_,_,_,hs⟩:=h.2 i hi;exact hs
 have HG:Hid (GI w):=hg;have HX:Hid (RfR w F z xs):=hx;have HW:Hid (∀u∈xs,(Lit.int .i64 u.1).wf=true∧(Lit.int .i64 u.2).wf=true):=hw;obtain⟨L,HL⟩: ∃L,Hid (tcR C R S n xs=L):=⟨_,rfl⟩;obtain⟨y,HZ⟩: ∃y,Hid (L.length=y):=⟨_,rfl⟩;have hy120:y≤120:=by rw [←HZ.out,←HL.out];exact tcR_len
 have HXI:Hid (∀j,j<y*2→ ∃q,(QP rfL L)[j]? =some (.int .i64 q)):=by rw [←HZ.out];exact Qg3 L
 have HYI:Hid (∀j,j<z*2→ ∃q,(QP rfL xs)[j]? =some (.int .i64 q)):=by rw [←HX.out.len];exact Qg3 xs
 clear h hg hx hw;go_enter Tryz.func5,Tryz.ntmps5;go_wp2_with fail
 refine(laws_szCellT _ HR.out).mono ?_;rintro e u1 ⟨l,rfl,hl,hl9,hb⟩;have KX:Hid (Below w.heap.size w u1):=hb;clear hb;by_cases hneg:l<0
 ·go_wp2_with fail
  go_ret;exact⟨rfl,KX.out⟩
 have HN:Hid (n≤1048576):=hl (by omega);have hn:n≤1048576:=HN.out;clear hl;go_wp2_with fail
 refine(laws_szRefS l _ (by omega) hl9 HX.out.lim).mono ?_;rintro e u2 ⟨l2,rfl,hl2,hb⟩;replace KX:=hd (Qc KX.out hb);clear hb;by_cases hneg2:l2<0
 ·go_wp2_with fail
  go_ret;exact⟨rfl,KX.out⟩
 have HM:Hid (z≤1048576):=hl2 (by omega);have hz:z≤1048576:=HM.out;clear hl2;go_wp2_with fail
 refine(YE _ (HR.out.below KX.out) HN.out).mono ?_;rintro e u3 ⟨v,rfl,ho,hb⟩;obtain⟨Au3,cu3,rfl,_,_⟩:=Qj ho;replace KX:=hd (Qc KX.out hb);have OC:Hid (World.ownsRow u3 u2.heap.size 48 3 (.slice Au3 n cu3) n (clX C R S n)):=ho;clear ho hb;go_wp2_with fail
 refine(laws_toRefS _ (HX.out.below KX.out) HM.out).mono ?_;rintro e u4 ⟨v,rfl,ho,hb⟩;obtain⟨Au4,cu4,rfl,_,_⟩:=Qj ho;replace KX:=hd (Qc KX.out hb);replace OC:=hd (Qe OC.out hb);have OD:Hid (World.ownsRow u4 u3.heap.size 30 2 (.slice Au4 z cu4) z (QP rfL xs)):=ho;clear ho hb
 go_wp2_with fail
 refine(spec_Touched _ (Xl OC.out HS.out) (RfR.of_own OD.out HX.out.len)).mono ?_;rintro e u5 ⟨Fu5,zz,cu5,rfl,hz0,ho,hb⟩;rw [HL.out]at hz0 ho;obtain rfl:y=zz:=by rw [←HZ.out];exact hz0
 replace KX:=hd (Qc KX.out hb);have HBu5:Hid (w.heap.size≤u5.heap.size):=KX.out.size;replace OC:=hd (Qe OC.out hb);replace OD:=hd (Qe OD.out hb);have OR:Hid (World.ownsRow u5 u4.heap.size 30 2 (.slice Fu5 y cu5) y (QP rfL L)):=ho;clear ho hb hz0;clear OC OD
 go_wp2_with fail
 refine(YE _ (HR.out.below KX.out) HN.out).mono ?_;rintro e u6 ⟨v,rfl,ho,hb⟩;obtain⟨Au6,cu6,rfl,_,_⟩:=Qj ho;replace KX:=hd (Qc KX.out hb);have HBu6:Hid (w.heap.size≤u6.heap.size):=KX.out.size;replace OR:=hd (Qe OR.out hb);have OX:Hid (World.ownsRow u6 u5.heap.size 48 3 (.slice Au6 n cu6) n (clX C R S n)):=ho
 clear ho hb;go_wp2_with fail
 refine(laws_toRefS _ (HX.out.below KX.out) HM.out).mono ?_;have BOR3: ∀k,(Value.slice Fu5 y cu5).ownBlock=some k→k<u6.heap.size:=fun k hk=>(OR.out.lt k hk).2;rintro e u7 ⟨v,rfl,ho,hb⟩;obtain⟨Au7,cu7,rfl,_,_⟩:=Qj ho;replace KX:=hd (Qc KX.out hb);replace OR:=hd (Qe OR.out hb);replace OX:=hd (Qe OX.out hb)
 have OY:Hid (World.ownsRow u7 u6.heap.size 30 2 (.slice Au7 z cu7) z (QP rfL xs)):=ho;clear ho hb;go_wp2_with fail
 have HBX:Hid (w.heap.size≤u5.heap.size):=HBu5.out;have HBY:Hid (w.heap.size≤u6.heap.size):=HBu6.out;have HBG:Hid (w.heap.size≤u7.heap.size):=KX.out.size;have BOR:Hid (∀k,(Value.slice Fu5 y cu5).ownBlock=some k→k<u7.heap.size):=fun k hk=>(OR.out.lt k hk).2;have BOX:Hid (∀k,(Value.slice Au6 n cu6).ownBlock=some k→k<u7.heap.size):=fun k hk=>(OX.out.lt k hk).2;have BOY:Hid (∀k,(Value.slice Au7 z cu7).ownBlock=some k→k<u7.heap.size):=fun k hk=>(OY.out.lt k hk).2;have BOR2:Hid (∀k,(Value.slice Fu5 y cu5).ownBlock=some k→k<u6.heap.size):=BOR3
 refine(impl_Touched _ (Xl OX.out HS.out) (HG.out.below KX.out) (RfR.of_own OY.out HX.out.len) HW.out).mono ?_;rintro e u8 ⟨Fu8,zz,cu8,rfl,hz0,ho,hb⟩;rw [HL.out]at hz0 ho;obtain rfl:y=zz:=by rw [←HZ.out];exact hz0
 replace KX:=hd (Qc KX.out hb);replace OR:=hd (Qe OR.out hb);replace OX:=hd (Qe OX.out hb);replace OY:=hd (Qe OY.out hb);have OG:Hid (World.ownsRow u8 u7.heap.size 30 2 (.slice Fu8 y cu8) y (QP rfL L)):=ho;clear ho hb hz0;go_wp2_with fail
 refine(Ja _ OG.out OR.out HXI.out).mono ?_;rintro e u9 ⟨rfl,hb⟩;replace KX:=hd (Qc KX.out hb);replace OR:=hd (Qe OR.out hb);replace OX:=hd (Qe OX.out hb);replace OY:=hd (Qe OY.out hb);replace OG:=hd (Qe OG.out hb)
 clear hb;go_wp2_with fail
 refine(YE _ (HR.out.below KX.out) HN.out).mono ?_;rintro e u10 ⟨v,rfl,ho,hb⟩;obtain⟨Au10,cu10,rfl,_,_⟩:=Qj ho;replace KX:=hd (Qc KX.out hb);replace OR:=hd (Qe OR.out hb);replace OX:=hd (Qe OX.out hb);replace OY:=hd (Qe OY.out hb)
 replace OG:=hd (Qe OG.out hb);have OT:Hid (World.ownsRow u10 u9.heap.size 48 3 (.slice Au10 n cu10) n (clX C R S n)):=ho;clear ho hb;go_wp2_with fail
 refine(MH _ (Xl OX.out HS.out) (Xl OT.out HS.out)).mono ?_;rintro e u11 ⟨rfl,hb⟩;replace KX:=hd (Qc KX.out hb);replace OR:=hd (Qe OR.out hb);replace OX:=hd (Qe OX.out hb);replace OY:=hd (Qe OY.out hb);replace OG:=hd (Qe OG.out hb)
 replace OT:=hd (Qe OT.out hb);clear hb;clear OT;go_wp2_with fail
 refine(laws_toRefS _ (HX.out.below KX.out) HM.out).mono ?_;rintro e u12 ⟨v,rfl,ho,hb⟩;obtain⟨Au12,cu12,rfl,_,_⟩:=Qj ho;replace KX:=hd (Qc KX.out hb);replace OR:=hd (Qe OR.out hb);replace OX:=hd (Qe OX.out hb);replace OY:=hd (Qe OY.out hb)
 replace OG:=hd (Qe OG.out hb);have OU:Hid (World.ownsRow u12 u11.heap.size 30 2 (.slice Au12 z cu12) z (QP rfL xs)):=ho;clear ho hb;go_wp2_with fail
 refine(Ja _ OY.out OU.out HYI.out).mono ?_;rintro e u13 ⟨rfl,hb⟩;replace KX:=hd (Qc KX.out hb);replace OR:=hd (Qe OR.out hb);replace OX:=hd (Qe OX.out hb);replace OY:=hd (Qe OY.out hb);replace OG:=hd (Qe OG.out hb)
 replace OU:=hd (Qe OU.out hb);clear hb;clear OU;go_wp2_with fail
 refine(Hl 1 _ OX.out hn (by omega) (by omega)).mono ?_;rintro e u14 ⟨rfl,hog,hgr⟩;have hbx: ∀k,(Value.slice Au6 n cu6).ownBlock=some k→w.heap.size≤k:=fun k hk=>Nat.le_trans HBX.out (OX.out.lt k hk).1;replace KX:=hd (KX.out.grown hgr KX.out.size (fun k hk=>hbx k hk));replace OR:Hid (World.ownsRow u14 u4.heap.size 30 2 (.slice Fu5 y cu5) y (QP rfL L)):=OR.out.kept hgr (Kk OR.out OX.out (by decide));replace OY:Hid (World.ownsRow u14 u6.heap.size 30 2 (.slice Au7 z cu7) z (QP rfL xs)):=OY.out.kept hgr (Kk OY.out OX.out (by decide));replace OG:Hid (World.ownsRow u14 u7.heap.size 30 2 (.slice Fu8 y cu8) y (QP rfL L)):=OG.out.kept hgr (Kk OG.out OX.out (by decide))
 clear hog hgr hbx OX BOX;obtain⟨mk,HMK⟩: ∃mk:Int,Hid ((1+(n:Int)*3)=mk):=⟨_,rfl⟩;have hmk:0≤mk∧mk≤1000000000:=by have:=HMK.out;omega
 rw [HMK.out];go_wp2_with fail
 refine(laws_markRefT mk _ OY.out hz hmk.1 hmk.2).mono ?_;rintro e u15 ⟨rfl,hog,hgr⟩;have hby: ∀k,(Value.slice Au7 z cu7).ownBlock=some k→w.heap.size≤k:=fun k hk=>Nat.le_trans HBY.out (OY.out.lt k hk).1;replace KX:=hd (KX.out.grown hgr KX.out.size (fun k hk=>hby k hk));replace OR:Hid (World.ownsRow u15 u4.heap.size 30 2 (.slice Fu5 y cu5) y (QP rfL L)):=OR.out.kept hgr (Qbf OY.out BOR2.out);replace OG:Hid (World.ownsRow u15 u7.heap.size 30 2 (.slice Fu8 y cu8) y (QP rfL L)):=OG.out.kept hgr (own_over OG.out BOY.out);clear hog hgr hby OY BOY
 obtain⟨ml,HML⟩: ∃ml:Int,Hid ((mk+((z*2:Nat):Int))=ml):=⟨_,rfl⟩;have hml: ¬ml<0:=by have:=HML.out;omega
 rw [HML.out];go_wp2_with fail
 refine(Ja _ OG.out OR.out HXI.out).mono ?_;rintro e u16 ⟨rfl,hb⟩;replace KX:=hd (Qc KX.out hb);replace OR:=hd (Qe OR.out hb);replace OG:=hd (Qe OG.out hb);clear hb;go_wp2_with fail
 refine(Ur 1 _ OG.out (by omega) (by omega) (by omega)).mono ?_;rintro e u17 ⟨rfl,⟨ys,hog,hyz⟩,hgr⟩;have hbg: ∀k,(Value.slice Fu8 y cu8).ownBlock=some k→w.heap.size≤k:=fun k hk=>Nat.le_trans HBG.out (OG.out.lt k hk).1;replace KX:=hd (KX.out.grown hgr KX.out.size (fun k hk=>hbg k hk));replace OR:Hid (World.ownsRow u17 u4.heap.size 30 2 (.slice Fu5 y cu5) y (QP rfL L)):=OR.out.kept hgr (Qbf OG.out BOR.out);replace OG:Hid (World.ownsRow u17 u7.heap.size 30 2 (.slice Fu8 y cu8) y ys):=hog;have HYZ:Hid (∀j,j<y*2→ys[j]? =some (.int .i64 (1+(j:Nat)))):=hyz
 clear hog hgr hyz hbg;obtain⟨mw,HMW⟩: ∃mw:Int,Hid ((1+((y*2:Nat):Int))=mw):=⟨_,rfl⟩;have hmw0: ¬mw<0:=by have:=HMW.out;omega
 have hmw1:(mw !=mw)=false:=by simp
 rw [HMW.out];go_wp2_with fail
 refine(JJ 1 _ OG.out HYZ.out (by omega) (by omega) (by omega)).mono ?_;rintro e u18 ⟨rfl,hb⟩;replace KX:=hd (Qc KX.out hb);replace OR:=hd (Qe OR.out hb);replace OG:=hd (Qe OG.out hb);clear hb;rw [HMW.out]
 go_wp2_with fail
 refine(YE _ (HR.out.below KX.out) HN.out).mono ?_;rintro e u19 ⟨v,rfl,ho,hb⟩;obtain⟨Au19,cu19,rfl,_,_⟩:=Qj ho;replace KX:=hd (Qc KX.out hb);replace OR:=hd (Qe OR.out hb);replace OG:=hd (Qe OG.out hb);have OC:Hid (World.ownsRow u19 u18.heap.size 48 3 (.slice Au19 n cu19) n (clX C R S n)):=ho
 clear ho hb;go_wp2_with fail
 refine(laws_toRefS _ (HX.out.below KX.out) HM.out).mono ?_;rintro e u20 ⟨v,rfl,ho,hb⟩;obtain⟨Au20,cu20,rfl,_,_⟩:=Qj ho;replace KX:=hd (Qc KX.out hb);replace OR:=hd (Qe OR.out hb);replace OG:=hd (Qe OG.out hb);replace OC:=hd (Qe OC.out hb)
 have OD:Hid (World.ownsRow u20 u19.heap.size 30 2 (.slice Au20 z cu20) z (QP rfL xs)):=ho;clear ho hb;go_wp2_with fail
 refine(impl_Touched _ (Xl OC.out HS.out) (HG.out.below KX.out) (RfR.of_own OD.out HX.out.len) HW.out).mono ?_;rintro e u21 ⟨Fu21,zz,cu21,rfl,hz0,ho,hb⟩;rw [HL.out]at hz0 ho;obtain rfl:y=zz:=by rw [←HZ.out];exact hz0
 replace KX:=hd (Qc KX.out hb);replace OR:=hd (Qe OR.out hb);replace OG:=hd (Qe OG.out hb);replace OC:=hd (Qe OC.out hb);replace OD:=hd (Qe OD.out hb);have OH:Hid (World.ownsRow u21 u20.heap.size 30 2 (.slice Fu21 y cu21) y (QP rfL L)):=ho;clear ho hb hz0
 clear OC OD;go_wp2_with fail
 refine(Ja _ OH.out OR.out HXI.out).mono ?_;rintro e u22 ⟨rfl,hb⟩;replace KX:=hd (Qc KX.out hb);replace OR:=hd (Qe OR.out hb);replace OG:=hd (Qe OG.out hb);replace OH:=hd (Qe OH.out hb);clear hb
 clear OH;go_wp2_with fail
 refine(JJ 1 _ OG.out HYZ.out (by omega) (by omega) (by omega)).mono ?_;rintro e u23 ⟨rfl,hb⟩;replace KX:=hd (Qc KX.out hb);replace OR:=hd (Qe OR.out hb);replace OG:=hd (Qe OG.out hb);clear hb;rw [HMW.out]
 go_wp2_with fail
 go_ret;exact⟨rfl,KX.out⟩
end Go.Proofs.YtekcnhfkmimodaaGreatDoor
