import Derived.Test.YtbdhinckiccniaaGreatDoorMn
import Derived.Test.YtbdhinckiccniaaGreatDoorGzd
import Derived.Test.YtbdhinckiccniaaGreatDoorGzs
import Derived.Test.YtbdhinckiccniaaGreatDoorGzw
import Derived.Test.YtbdhinckiccniaaGreatDoorGzx
import Derived.Test.YtbdhinckiccniaaGreatDoorGzeA
import Derived.Test.YtbdhinckiccniaaGreatDoorGzj
set_option linter.unusedSimpArgs false
set_option linter.unusedVariables false
set_option maxHeartbeats 8000000
set_option maxRecDepth 100000
namespace Go.Proofs.YtbdhinckiccniaaGreatDoor
open Go.RowKit Go.Maps
def inQ (a b c d p q:Int):Bool:=decide (a≤p)&&decide (p≤c)&&decide (b≤q)&&decide (q≤d)
def YP (a b c d:Int) (E:List CL):List CL:=E.filter (fun y=> !inQ a b c d y.c y.r)
theorem Qif (a b c d p q:Int) (w:World):Calls Tryz.prog 99 #[.agg #[.int .i64 a,.int .i64 b,.int .i64 c,.int .i64 d],.agg #[.int .i64 p,.int .i64 q]] w fun e w'=>
  e= .returned (.bool (inQ a b c d p q))∧Below w.heap.size w w':=by
 go_enter Tryz.func99,Tryz.ntmps99;go_wp2
 all_goals
  go_ret;refine⟨Qb ?_,by go_grown⟩;unfold inQ;rw [Bool.eq_iff_iff];simp;try omega
theorem UK (a b c d p q:Int) (w:World):Calls Tryz.prog 62 #[.agg #[.int .i64 p,.int .i64 q],.agg #[.int .i64 a,.int .i64 b,.int .i64 c,.int .i64 d]] w fun e w'=>
  e= .returned (.bool (inQ a b c d p q))∧Below w.heap.size w w':=by
 cases h1:decide (a≤p∧p≤c)
 ·have HF:Hid (inQ a b c d p q=false):=by
   show _=_;have:=of_decide_eq_false h1;unfold inQ;simp;omega
  go_enter Tryz.func62,Tryz.ntmps62;go_wp2_with (go_at_call 121;refine(QT _ _ _ _).mono ?_;rintro e w1 ⟨rfl,rfl⟩;rw [h1])
  all_goals
   go_ret;exact⟨Qb HF.out.symm,by go_grown⟩
 ·have HF:Hid (inQ a b c d p q=(decide (b≤q)&&decide (q≤d))):=by
   show _=_;have:=of_decide_eq_true h1;unfold inQ;rw [Bool.eq_iff_iff];simp;omega
  go_enter Tryz.func62,Tryz.ntmps62;go_wp2_with fail
  refine(QT _ _ _ _).mono ?_;rintro e w1 ⟨rfl,hw1⟩;obtain rfl:=hw1.symm;rw [h1];go_wp2_with fail
  refine(QT _ _ _ _).mono ?_;rintro e w2 ⟨rfl,hw2⟩;obtain rfl:=hw2.symm;go_wp2_with fail
  go_ret;exact⟨Qb HF.out.symm,by go_grown⟩
theorem Bp (a b c d p q:Int) (w:World):Calls Tryz.prog 11 #[.agg #[.int .i64 p,.int .i64 q],.agg #[.int .i64 a,.int .i64 b,.int .i64 c,.int .i64 d]] w fun e w'=>
  e= .returned (.bool (inQ a b c d p q))∧Below w.heap.size w w':=by
 go_enter Tryz.func11,Tryz.ntmps11;go_wp2
 all_goals
  go_ret;refine⟨Qb ?_,by go_grown⟩;unfold inQ;rw [Bool.eq_iff_iff];simp;try omega
theorem MB {W W':World} {b n:Nat} {D:DataW Value} (ho:W.ownsMap Tryz.prog 27 XG b n D) (hb:Below W.heap.size W W'):W'.ownsMap Tryz.prog 27 XG b n D:=by
 have hbl:=ho.lt;obtain⟨es,clock,h,Ft,hs,hD⟩:=ho;exact⟨es,clock,(hb.block b hbl).trans h,Ft,hs,hD⟩
theorem Qlw (C R:Nat→Int) (S:Nat→ByteArray) (k:Nat):clE C R S (k+1)=clE C R S k++ [⟨C k,R k,S k⟩]:=by simp [clE,List.range_succ]
theorem Dn (a b c d:Int) (C R:Nat→Int) (S:Nat→ByteArray) (k:Nat):YP a b c d (clE C R S (k+1))=YP a b c d (clE C R S k)++(if inQ a b c d (C k) (R k)=true then []else [⟨C k,R k,S k⟩]):=by
 rw [Qlw,YP,List.filter_append,YP];cases h:inQ a b c d (C k) (R k)<;>simp [h]
theorem Qdm {a b c d:Int} {C R:Nat→Int} {S:Nat→ByteArray} {k:Nat} (h: ∀i,i<k→ ¬(C i=C k∧R i=R k)):UF (C k) (R k) (YP a b c d (clE C R S k))=YP a b c d (clE C R S k):=by
 unfold UF;rw [List.filter_eq_self];intro x hx;have hx:=(List.mem_filter.1 hx).1;obtain⟨i,hi,rfl⟩:=List.mem_map.1 hx;have:=h i (List.mem_range.1 hi);rw [Bool.not_eq_true',decide_eq_false_iff_not]
 exact this
theorem QH {B:Nat} {W W':World} (hb:Below B W W') {b o:Nat} {v:Value} (hl:b<B) (hc:W.cell? ⟨b,o,none⟩=some v):W'.cell? ⟨b,o,none⟩=some v:=(hb.cell (p:=⟨b,o,none⟩) hl).trans hc
theorem KI {A:Option Addr} {n cap:Nat} {C R:Nat→Int} {S:Nat→ByteArray} {kl:Nat→Lit} {a b c d:Int} (w:World) (h:ClRow w A n C R S) (hn:n≤120)
  (hkl: ∀i,i<n→keyOf Tryz.prog 27 (.agg #[.int .i64 (C i),.int .i64 (R i)])=some (kl i)) (hap: ∀i j,i<j→j<n→ ¬(C i=C j∧R i=R j)):
  Calls Tryz.prog 53 #[.slice A n cap,.agg #[.int .i64 a,.int .i64 b,.int .i64 c,.int .i64 d]] w fun e w'=> ∃(B m:Nat) (D:DataW Value),e= .returned (.map (some B))∧w.heap.size≤B∧w'.ownsMap Tryz.prog 27 XG B m D∧CmD D (YP a b c d (clE C R S n))∧Below w.heap.size w w':=by
 have HR:Hid (ClRow w A n C R S):=h;have HK:Hid (∀i,i<n→keyOf Tryz.prog 27 (.agg #[.int .i64 (C i),.int .i64 (R i)])=some (kl i)):=hkl;have HA:Hid (∀i j,i<j→j<n→ ¬(C i=C j∧R i=R j)):=hap;clear h hkl hap;have hmm:= @run_makeMap Tryz.prog;go_enter Tryz.func53,Tryz.ntmps53;go_wp2_with fail
 obtain⟨X,HX⟩: ∃X,Hid (w.alloc (.cells #[.int .i64 a,.int .i64 b,.int .i64 c,.int .i64 d] 29)=X):=⟨_,rfl⟩;rw [HX.out];have ZX:Hid (X.heap.size=w.heap.size+1):=by show _=_;rw [←HX.out];simp
 have x0:X.cell? ⟨w.heap.size,0,none⟩=some (.int .i64 a):=by rw [←HX.out];go_simp
 have x1:X.cell? ⟨w.heap.size,1,none⟩=some (.int .i64 b):=by rw [←HX.out];go_simp
 have x2:X.cell? ⟨w.heap.size,2,none⟩=some (.int .i64 c):=by rw [←HX.out];go_simp
 have x3:X.cell? ⟨w.heap.size,3,none⟩=some (.int .i64 d):=by rw [←HX.out];go_simp
 have KX:Hid (Below w.heap.size w X):=by rw [←HX.out];show Below _ _ _;go_grown
 have RX:=hd (HR.out.below KX.out);clear HX HR;have HX0:Hid (X.cell? ⟨w.heap.size,0,none⟩=some (.int .i64 a)∧X.cell? ⟨w.heap.size,1,none⟩=some (.int .i64 b)∧X.cell? ⟨w.heap.size,2,none⟩=some (.int .i64 c)∧X.cell? ⟨w.heap.size,3,none⟩=some (.int .i64 d)):=⟨x0,x1,x2,x3⟩;clear x0 x1 x2 x3;go_loopw [11] (fun i wr=> ∃(k m:Nat) (D:DataW Value),k≤n∧i= .int .i64 k∧m≤k∧wr.ownsMap Tryz.prog 27 XG (w.heap.size+1) m D∧CmD D (YP a b c d (clE C R S k))∧Below X.heap.size X wr) (fun i _=>n-(intOf i).toNat)
 case atStart=>exact⟨0,0,_,Nat.zero_le _,rfl,Nat.le_refl _,(by have h9:=World.ownsMap_made X Tryz.prog 27 XG;rw [ZX.out]at h9;exact h9),CmD.nil,by go_grown⟩
 case round=>
  obtain⟨k,m,D,hk,rfl,hm,hown,hcm,hbel⟩:=hrel;have HW:Hid (wr.ownsMap Tryz.prog 27 XG (w.heap.size+1) m D):=hown;have HC:Hid (CmD D (YP a b c d (clE C R S k))):=hcm;have HB:Hid (Below X.heap.size X wr):=hbel;clear hown hcm;by_cases hlt:k<n
  ·obtain⟨br,o,rfl,hl,c0,c1,c2,_⟩:=RX.out.2 k hlt;obtain⟨y0,y1,y2,y3⟩:=HX0.out;have hs:=hbel.size;have zX:w.heap.size<X.heap.size:=by have:=ZX.out;omega
   have zr:w.heap.size<wr.heap.size:=by omega
   replace c0:=QH hbel hl c0;replace c1:=QH hbel hl c1;replace c2:=QH hbel hl c2;replace y0:=QH hbel (by omega) y0;replace y1:=QH hbel (by omega) y1;replace y2:=QH hbel (by omega) y2;replace y3:=QH hbel (by omega) y3
   clear hbel;have hl2:br<wr.heap.size:=Nat.lt_of_lt_of_le hl hs;have h0:(0:Int)≤(k:Int):=by omega
   have h1:(k:Int)<(n:Int):=by omega
   have HO:=Dn a b c d C R S k;go_wp2_with fail
   refine(Qif a b c d (C k) (R k) _).mono ?_;rintro e w1 ⟨rfl,hb⟩;cases hq:inQ a b c d (C k) (R k)
   ·rw [hq,if_neg (by simp)]at HO;have HO':Hid (YP a b c d (clE C R S (k+1))=YP a b c d (clE C R S k)++ [⟨C k,R k,S k⟩]):=HO;have HW1:Hid (w1.ownsMap Tryz.prog 27 XG (w.heap.size+1) m D):=MB (HW.out.alloc _) hb;have HB1:Hid (Below X.heap.size X w1):=(HB.out.alloc hs _).trans (hb.mono (by go_size));have z1:wr.heap.size<w1.heap.size:=Nat.lt_of_lt_of_le (by go_size) hb.size;have d0:w1.cell? ⟨wr.heap.size,0,none⟩=some (.int .i64 (C k)):=QH hb (by go_size) (by go_simp);have d1:w1.cell? ⟨wr.heap.size,1,none⟩=some (.int .i64 (R k)):=QH hb (by go_size) (by go_simp)
    have d2:w1.cell? ⟨wr.heap.size,2,none⟩=some (.string (S k)):=QH hb (by go_size) (by go_simp);clear hb HO hq HW HB
    go_wp2_with (first
     | (at_mapUpdate;refine wpList_mapUpdate_own _ rfl _ _ _ 59 rfl 27 37 keyedRef Tryz.underlying59 XG (w.heap.size+1) m _ rfl HW1.out (by unfold maxLen;omega) _ _ (kl k) rfl rfl (HK.out k hlt) _ [] rfl ?_;intro w2 hown1 hgrow1)
     | go_in)
    have R2:Below X.heap.size X w2:=Below.grown HB1.out hgrow1 (by omega) (fun j hj=>by cases hj;have:=ZX.out;omega)
    have C2:CmD (D.put (kl k) (.held (.agg #[.int .i64 (C k),.int .i64 (R k),.string (S k)]))) (YP a b c d (clE C R S (k+1))):=by
     have h9:=HC.out.on HW1.out.isMap (x:=⟨C k,R k,S k⟩) (HK.out k hlt);rw [Qdm (fun i hi=>HA.out i k hi hlt)]at h9;rw [HO'.out];exact h9
    go_roundw
    case rel=>exact⟨k+1,m+1,_,by omega,by go_num,by omega,hown1,C2,R2⟩
    case measure=>simp [intOf];omega
   ·rw [hq,if_pos rfl,List.append_nil]at HO;have HO':Hid (YP a b c d (clE C R S (k+1))=YP a b c d (clE C R S k)):=HO;have HW1:Hid (w1.ownsMap Tryz.prog 27 XG (w.heap.size+1) m D):=MB (HW.out.alloc _) hb;have HB1:Hid (Below X.heap.size X w1):=(HB.out.alloc hs _).trans (hb.mono (by go_size));clear hb HO hq HW HB;go_wp2_with fail
    go_roundw
    case rel=>exact⟨k+1,m,D,by omega,by go_num,by omega,HW1.out,by rw [HO'.out];exact HC.out,HB1.out⟩
    case measure=>simp [intOf];omega
  ·have h1: ¬(k:Int)<(n:Int):=by omega
   obtain rfl:k=n:=by omega
   go_wp2_with fail
   refine bodyPost_ret (v:= .map (some (w.heap.size+1))) ?_ rfl ⟨w.heap.size+1,rfl,by omega,m,D,HW.out,HC.out,KX.out.trans (HB.out.mono (by have:=ZX.out;omega))⟩;simp (maxDischargeDepth:=9) [results,Tryz.results53,go_sem, *]
def MU (a b c d:Int) (C R:Nat→Int) (S:Nat→ByteArray) (n:Nat):Option (List CL):=if Yk a b c d=true then some (YP a b c d (clE C R S n))else none
theorem Qb0 (a b c d:Int) (C R:Nat→Int) (S:Nat→ByteArray) (n:Nat):(YP a b c d (clE C R S n)).length≤n:=by
 have h:=List.length_filter_le (fun y:CL=> !inQ a b c d y.c y.r) (clE C R S n);rw [VU]at h;exact h
theorem Uh {A:Option Addr} {n cap:Nat} {C R:Nat→Int} {S:Nat→ByteArray} {a b c d:Int} (w:World) (h:ClRow w A n C R S) (hn:n≤10000):
  Calls Tryz.prog 25 #[.slice A n cap,.agg #[.int .i64 2,.int .i64 0,.int .i64 0,.string ⟨#[]⟩,.int .i64 a,.int .i64 b,.int .i64 c,.int .i64 d,.int .i64 0,.int .i64 0]] w fun e w'=>EnR w.heap.size w' (MU a b c d C R S n) e∧Below w.heap.size w w':=by
 have HR:Hid (ClRow w A n C R S):=h;clear h;obtain⟨ao,HAO⟩: ∃ao,Hid (Yk a b c d=ao):=⟨_,rfl⟩;go_enter Tryz.func25,Tryz.ntmps25;go_wp2_with fail
 obtain⟨X,HX⟩: ∃X,Hid (w.alloc (.cells #[.int .i64 2,.int .i64 0,.int .i64 0,.string ⟨#[]⟩,.int .i64 a,.int .i64 b,.int .i64 c,.int .i64 d,.int .i64 0,.int .i64 0] 32)=X):=⟨_,rfl⟩;rw [HX.out];have zX:X.heap.size=w.heap.size+1:=by rw [←HX.out];simp
 have x0:X.cell? ⟨w.heap.size,4,none⟩=some (.int .i64 a):=by rw [←HX.out];go_simp
 have x1:X.cell? ⟨w.heap.size,5,none⟩=some (.int .i64 b):=by rw [←HX.out];go_simp
 have x2:X.cell? ⟨w.heap.size,6,none⟩=some (.int .i64 c):=by rw [←HX.out];go_simp
 have x3:X.cell? ⟨w.heap.size,7,none⟩=some (.int .i64 d):=by rw [←HX.out];go_simp
 have KX:Hid (Below w.heap.size w X):=by rw [←HX.out];show Below _ _ _;go_grown
 have RX:=hd (HR.out.below KX.out);clear HX HR;obtain⟨g,HG⟩: ∃g,Hid (w.heap.size=g):=⟨_,rfl⟩;rw [HG.out]at x0 x1 x2 x3 zX ⊢;refine(GR a b c d _).mono ?_;rintro e w1 ⟨rfl,hb⟩;rw [HAO.out]
 replace x0:=QH hb (by omega) x0;replace x1:=QH hb (by omega) x1;replace x2:=QH hb (by omega) x2;replace x3:=QH hb (by omega) x3;have z1:g<w1.heap.size:=by have:=hb.size;omega
 have KW:=hd (Qc KX.out hb);have R1:=hd (RX.out.below hb);clear hb KX RX;cases ao
 ·go_wp2_with fail
  refine bodyPost_ret (v:= .tuple #[.slice none 0 0,.bool false]) ?_ rfl ⟨?_,?_⟩
  ·simp (maxDischargeDepth:=9) [results,Tryz.results25,go_sem, *]
  ·unfold MU;rw [HAO.out];exact rfl
  ·exact KW.out
 go_wp2_with fail
 have HX1:Hid (w1.cell? ⟨g,4,none⟩=some (.int .i64 a)∧w1.cell? ⟨g,5,none⟩=some (.int .i64 b)∧w1.cell? ⟨g,6,none⟩=some (.int .i64 c)∧w1.cell? ⟨g,7,none⟩=some (.int .i64 d)):=⟨x0,x1,x2,x3⟩;clear x0 x1 x2 x3;go_loopw [6,7] (fun o i wr=> ∃(k m:Nat) (F:Option Addr) (cc:Nat) (L:List CL),k≤n∧i= .int .i64 k∧o= .slice F m cc∧L=YP a b c d (clE C R S k)∧L.length=m∧wr.ownsRow w1.heap.size 37 3 (.slice F m cc) m (Za CL.cs L)∧Below w1.heap.size w1 wr) (fun _ i _=>n-(intOf i).toNat)
 case atStart=>exact⟨0,0,_,0,[],Nat.zero_le _,rfl,rfl,rfl,rfl,GJ (Nat.le_refl _) rfl,by go_grown⟩
 case round=>
  obtain⟨k,m,F,cc,L,hk,rfl,rfl,hL,hLm,hown,hbel⟩:=hrel;have HO:Hid (wr.ownsRow w1.heap.size 37 3 (.slice F m cc) m (Za CL.cs L)):=hown;have HB:Hid (Below w1.heap.size w1 wr):=hbel;have HL:Hid (L=YP a b c d (clE C R S k)):=hL;have HM:Hid (L.length=m):=hLm;have hmk:m≤k:=by rw [←hLm,hL];exact Qb0 a b c d C R S k
  clear hown hL hLm;by_cases hlt:k<n
  ·obtain⟨br,o,rfl,hl,c0,c1,c2,_⟩:=R1.out.2 k hlt;obtain⟨y0,y1,y2,y3⟩:=HX1.out;have hs:=hbel.size;have zr:g<wr.heap.size:=by omega
   replace c0:=QH hbel hl c0;replace c1:=QH hbel hl c1;replace c2:=QH hbel hl c2;replace y0:=QH hbel (by omega) y0;replace y1:=QH hbel (by omega) y1;replace y2:=QH hbel (by omega) y2;replace y3:=QH hbel (by omega) y3
   clear hbel;have hl2:br<wr.heap.size:=Nat.lt_of_lt_of_le hl hs;have h0:(0:Int)≤(k:Int):=by omega
   have h1:(k:Int)<(n:Int):=by omega
   have HP:=Dn a b c d C R S k;obtain⟨iq,HQ⟩: ∃iq,Hid (inQ a b c d (C k) (R k)=iq):=⟨_,rfl⟩;go_wp2_with fail
   go_region_held3 (fun w'=>(∀bq oq,bq<wr.heap.size→w'.cell? ⟨bq,oq,none⟩=wr.cell? ⟨bq,oq,none⟩)∧wr.heap.size≤w'.heap.size∧Below wr.heap.size wr w')
    (exact Qp (by go_size) (by go_grown))
    (first
    | (go_at_call 62;refine(UK a b c d (C k) (R k) _).mono ?_;rintro e wy ⟨rfl,hb⟩;rw [HQ.out];obtain⟨hk1,hz1⟩:=Qg (B:=wr.heap.size) (X:=wr) (by go_grown) (by go_size) hb;have hCy:=fun b o h=>hk1.cell (p:=⟨b,o,none⟩) h;clear hb))
   cases iq
   ·have HP':Hid (YP a b c d (clE C R S (k+1))=L++ [⟨C k,R k,S k⟩]):=by show _=_;rw [HP,HQ.out,if_neg (by simp),HL.out]
    have e0:=QH hk1 hl2 c0;have e1:=QH hk1 hl2 c1;have e2:=QH hk1 hl2 c2;replace hl2:br<wy.heap.size:=Nat.lt_of_lt_of_le hl2 hz1;have HOy:=hd (Qf HO.out hk1);have HBy:=hd (Qc HB.out hk1);have hsy:w1.heap.size≤wy.heap.size:=Nat.le_trans hs hz1
    clear c0 c1 c2 y0 y1 y2 y3 HP HO HB hCy
    go_wp2_with (first
     | (at_builtin;refine QC rfl _ _ rfl w1.heap.size (.slice F m cc) m L rfl (HOy.out.alloc _) (C k) (R k) (S k) wy.heap.size rfl (by simp [go_sem, *]) (by simp [go_sem, *]) (by simp [go_sem, *]) (by omega) (by simp;omega) ?_)
     | fail)
    intro va w7 ho hg;obtain⟨F7,h7,rfl,_,_⟩:=Qo ho;have K7:Hid (Below w1.heap.size w1 w7):=(HBy.out.alloc hsy _).grown hg (by simp;omega) (fun j hj=>(HOy.out.lt j hj).1);have HO7:Hid (w7.ownsRow w1.heap.size 37 3 (.slice F7 (m+1) h7) (m+1) (Za CL.cs (L++ [⟨C k,R k,S k⟩]))):=ho;clear ho hg;go_wp2_with fail
    go_roundw
    case rel=>exact⟨k+1,m+1,F7,h7,_,by omega,by go_num,rfl,HP'.out.symm,by simp [HM.out],HO7.out,K7.out⟩
    case measure=>simp [intOf];omega
   ·have HP':Hid (YP a b c d (clE C R S (k+1))=L):=by show _=_;rw [HP,HQ.out,if_pos rfl,HL.out,List.append_nil]
    have HOy:=hd (Qf HO.out hk1);have HBy:=hd (Qc HB.out hk1);clear c0 c1 c2 y0 y1 y2 y3 HP HO HB hCy;go_wp2_with fail
    go_roundw
    case rel=>exact⟨k+1,m,F,cc,L,by omega,by go_num,rfl,HP'.out.symm,HM.out,HOy.out,HBy.out⟩
    case measure=>simp [intOf];omega
  ·have h1: ¬(k:Int)<(n:Int):=by omega
   obtain rfl:k=n:=by omega
   go_wp2_with fail
   refine bodyPost_ret (v:= .tuple #[.slice F m cc,.bool true]) ?_ rfl ⟨?_,?_⟩
   ·simp (maxDischargeDepth:=9) [results,Tryz.results25,go_sem, *]
   ·unfold MU;rw [HAO.out,if_pos rfl,←HL.out];refine⟨F,cc,m,rfl,HM.out,?_⟩;exact Go.Proofs.ownsRow_base_a HO.out KW.out.size
   ·exact Qc KW.out HB.out
end Go.Proofs.YtbdhinckiccniaaGreatDoor
namespace Go.Proofs.YtbdhinckiccniaaGreatDoor
open Go.RowKit
theorem Qj9 {M:List CL} (h:M.Pairwise (fun a b=>ltC a b=true)) (hr: ∀z∈M,Qh z.c z.r=true):XN (ZE M) (ZD M) M.length=true:=by
 refine List.all_eq_true.2 fun i hi=> ?_;have hi':=List.mem_range.1 hi;unfold QS;have e1:ZE M i=M[i].c∧ZD M i=M[i].r:=by unfold ZE ZD;rw [List.getElem?_eq_getElem hi'];exact⟨rfl,rfl⟩
 rw [Bool.and_eq_true];refine⟨by rw [e1.1,e1.2];exact hr _ (List.getElem_mem hi'),?_⟩;by_cases h0:i=0
 ·simp [h0]
 ·have e2:ZE M (i-1)=(M[i-1]'(by omega)).c∧ZD M (i-1)=(M[i-1]'(by omega)).r:=by unfold ZE ZD;rw [List.getElem?_eq_getElem (by omega)];exact⟨rfl,rfl⟩
  rw [Bool.or_eq_true];refine Or.inr ?_;rw [e1.1,e1.2,e2.1,e2.2];exact List.pairwise_iff_getElem.1 h (i-1) i (by omega) hi' (by omega)
theorem Gu {M:List CL} {j:Nat} (hj:j<M.length):ZE M j=M[j].c∧ZD M j=M[j].r∧Yg M j=M[j].s:=by
 unfold ZE ZD Yg;rw [List.getElem?_eq_getElem hj];exact⟨rfl,rfl,rfl⟩
theorem Mf {C R:Nat→Int} {S:Nat→ByteArray} {p q:Int}: ∀n:Nat,(∀i,i<n→ ¬(C i=p∧R i=q))→NP C R S p q n=⟨#[]⟩
 | 0,_=>rfl
 | n+1,h=>by rw [NP,if_neg (h n (by omega)),Mf n (fun i hi=>h i (by omega))]
theorem Qjo {M:List CL} (h:M.Pairwise (fun a b=>ltC a b=true)) {k:Nat} (hk:k<M.length): ∀m,k<m→m≤M.length→NP (ZE M) (ZD M) (Yg M) (ZE M k) (ZD M k) m=Yg M k:=by
 intro m;induction m with
 | zero=>intro h1;omega
 | succ m ih=>
  intro h1 h2;by_cases e:k=m
  ·subst e;rw [NP,if_pos ⟨rfl,rfl⟩]
  ·have h3:=List.pairwise_iff_getElem.1 h k m hk (by omega) (by omega);have c1:=Gu hk;have c2:=Gu (show m<M.length by omega);simp only [ltC,Yi,decide_eq_true_eq]at h3;rw [NP,if_neg (by rw [c1.1,c1.2.1,c2.1,c2.2.1];omega)];exact ih (by omega) (by omega)
theorem Qhe {M:List CL} (h:M.Pairwise (fun a b=>ltC a b=true)) {z:CL} (hz:z∈M):NP (ZE M) (ZD M) (Yg M) z.c z.r M.length=z.s:=by
 obtain⟨j,hj,rfl⟩:=List.mem_iff_getElem.1 hz;have c1:=Gu hj;have h9:=Qjo h hj M.length hj (Nat.le_refl _);rw [c1.1,c1.2.1,c1.2.2]at h9;exact h9
theorem Qkd {a b c d:Int} {E:List CL} {z:CL}:z∈YP a b c d E↔z∈E∧inQ a b c d z.c z.r=false:=by
 unfold YP;rw [List.mem_filter];simp
theorem Qdl (a b c d:Int) (E:List CL):YP a b c d (YP a b c d E)=YP a b c d E:=by
 unfold YP;rw [List.filter_filter];simp
structure ClrM (a b c d:Int) (C R:Nat→Int) (S:Nat→ByteArray) (n:Nat) (M:List CL):Prop where
 ok:Qx (ZE M) (ZD M) (Yg M) M.length=true
 at_: ∀i,i<n→Qbk (ZE M) (ZD M) (Yg M) M.length (C i) (R i)=if inQ a b c d (C i) (R i)=true then⟨#[]⟩else S i
 len:M.length≤n
 again:YP a b c d M=M
 sub: ∀z∈M,∃i,i<n∧z=⟨C i,R i,S i⟩
theorem Qco {a b c d:Int} {C R:Nat→Int} {S:Nat→ByteArray} {n:Nat} (h:Qx C R S n=true):ClrM a b c d C R S n (YP a b c d (clE C R S n)):=by
 obtain⟨r0,r1,r2⟩:=MW h
 have hv: ∀i,i<n→Yl S i=true:=by
  unfold Qx at h;simp only [Bool.and_eq_true]at h;exact fun i hi=>List.all_eq_true.1 h.2 i (List.mem_range.2 hi)
 have hlen:=Qb0 a b c d C R S n;have hag:=Qdl a b c d (clE C R S n);obtain⟨M,HM⟩: ∃M,YP a b c d (clE C R S n)=M:=⟨_,rfl⟩;have hmem: ∀z,z∈M↔z∈clE C R S n∧inQ a b c d z.c z.r=false:=fun z=>by rw [←HM];exact Qkd
 have hpw:M.Pairwise (fun a b=>ltC a b=true):=by rw [←HM];exact r2.filter _
 rw [HM]at hlen hag ⊢
 have hsub: ∀z∈M,∃i,i<n∧z=⟨C i,R i,S i⟩:=fun z hz=>by
  obtain⟨i,hi,rfl⟩:=List.mem_map.1 ((hmem z).1 hz).1;exact⟨i,List.mem_range.1 hi,rfl⟩
 have hok:Qx (ZE M) (ZD M) (Yg M) M.length=true:=by
  refine Nx (by omega) (Qj9 hpw (fun z hz=> ?_)) (List.all_eq_true.2 fun i hi=> ?_)
  ·obtain⟨i,hi,rfl⟩:=hsub z hz;exact r1 i hi
  ·have hi':=List.mem_range.1 hi;have c1:=Gu hi';obtain⟨j,hj,e⟩:=hsub _ (List.getElem_mem hi');have h9:=hv j hj;unfold Yl at h9 ⊢;rw [c1.2.2,e];exact h9
 refine⟨hok,fun i hi=> ?_,hlen,hag,hsub⟩;unfold Qbk;rw [hok,if_pos rfl];cases hq:inQ a b c d (C i) (R i)with
 | true=>
  rw [if_pos rfl];refine Mf _ (fun j hj e=> ?_);have c1:=Gu hj;have h9:=((hmem _).1 (List.getElem_mem hj)).2;rw [←c1.1,←c1.2.1,e.1,e.2,hq]at h9;cases h9
 | false=>
  rw [if_neg (by simp)];exact Qhe hpw (z:=⟨C i,R i,S i⟩) ((hmem _).2 ⟨List.mem_map.2 ⟨i,List.mem_range.2 hi,rfl⟩,hq⟩)
end Go.Proofs.YtbdhinckiccniaaGreatDoor
