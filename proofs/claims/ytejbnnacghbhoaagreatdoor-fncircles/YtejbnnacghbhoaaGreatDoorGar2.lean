import Derived.Test.YtejbnnacghbhoaaGreatDoorGaa
import Derived.Test.YtejbnnacghbhoaaGreatDoorGzd
import Derived.Test.YtejbnnacghbhoaaGreatDoorGaf
import Derived.Test.YtejbnnacghbhoaaGreatDoorMn
import Derived.Deep.AppendLies
set_option linter.unusedSimpArgs false
set_option linter.unusedVariables false
set_option maxHeartbeats 8000000
set_option maxRecDepth 100000
namespace Go.Proofs.YtejbnnacghbhoaaGreatDoor
open Go.RowKit
theorem Qju:(Tryz.prog.info? 118).map (fun i=>(i.zero,i.size,i.bytes))=some (some (.agg #[.int .i64 0,.int .i64 0,.int .i64 0,.int .i64 0]),4,32):=by kernel_rfl
def Qdz (x:FN):List Value:=if x.k=2 then [.int .i64 x.ac,.int .i64 x.ar,.int .i64 x.ac,.int .i64 x.ar]else if x.k=3 then [.int .i64 x.ac,.int .i64 x.ar,.int .i64 x.bc,.int .i64 x.br]else []
def Vd (F:Nat→FN) (k:Nat):List Value:=(List.range k).flatMap fun i=>Qdz (F i)
def XM (F:Nat→FN):Nat→Nat
 | 0=>0
 | k+1=>XM F k+if(F k).k=2∨(F k).k=3 then 1 else 0
theorem Gp (F:Nat→FN) (k:Nat):Vd F (k+1)=Vd F k++Qdz (F k):=by simp [Vd,List.range_succ,List.flatMap_append]
theorem Me (F:Nat→FN): ∀k,XM F k≤k
 | 0=>Nat.le_refl _
 | k+1=>by have:=Me F k;rw [XM];split<;>omega
def NY (F:Nat→FN) (n:Nat):Nat:=if Zc F n then XM F n else 0
def Qdv (F:Nat→FN) (n:Nat):List Value:=if Zc F n then Vd F n else []
theorem Qkh {F:Nat→FN} {n:Nat} (h:Zc F n=true):n≤60:=by
 simp only [Zc,Bool.and_eq_true,decide_eq_true_eq]at h;omega
theorem Qn0 (F:Nat→FN) (n:Nat):NY F n≤60:=by
 unfold NY;split
 ·rename_i h;have:=Me F n;have:=Qkh h;omega
 ·omega
theorem Qak {w wi w1:World} {e:TypeId} {size n:Nat} {v:Value} {xs:List Value} {o:Obj} (hown:wi.ownsRow w.heap.size e size v n xs) (hbel:Below w.heap.size w wi)
  (hg:(wi.alloc o).grownBy w1 v.ownBlock):Below w.heap.size w w1:=by
 have ha:Below w.heap.size w (wi.alloc o):=hbel.alloc hbel.size o;have hs:(wi.alloc o).heap.size=wi.heap.size+1:=by simp
 exact ha.grown hg (by have:=hbel.size;omega) (fun k hk=>(hown.lt k hk).1)
theorem Ox {A:Option Addr} {n cap:Nat} {F:Nat→FN} (w:World) (h:FnRow w A n F) (hn:n≤1048576) (hkn: ∀i,i<n→(F i).kids.length≤1048576) (hft:FT w):
  Calls Tryz.prog 74 #[.slice A n cap] w fun e w'=> ∃v,e= .returned v∧w'.ownsRow w.heap.size 118 4 v (NY F n) (Qdv F n)∧Below w.heap.size w w':=by
 have HR:Hid (FnRow w A n F):=h;have HKN:Hid (∀i,i<n→(F i).kids.length≤1048576):=hkn;have HFT:Hid (FT w):=hft;clear h hkn hft;obtain⟨i0,hi,iz0,iz1,iz2⟩:=info_parts Qju;cases ho:Zc F n
 ·have HO:Hid (Zc F n=false):=ho;clear ho;go_enter Tryz.func74,Tryz.ntmps74;go_wp2_with fail
  refine(ZJ _ HR.out hn HKN.out HFT.out).mono ?_;rintro e w1 ⟨rfl,hb⟩;rw [HO.out];go_wp2_with fail
  go_ret;exact⟨_,rfl,by rw [NY,Qdv,HO.out];exact World.ownsRow_nil _ _ _ _,hb⟩
 have HO:Hid (Zc F n=true):=ho;have hn60:=Qkh ho;clear ho;go_enter Tryz.func74,Tryz.ntmps74;go_wp2_with fail
 refine(ZJ _ HR.out hn HKN.out HFT.out).mono ?_;rintro e w1 ⟨rfl,hb⟩;rw [HO.out];have HB1:Hid (Below w.heap.size w w1):=hb;clear hb;go_wp2_with fail
 go_loopw [3,11] (fun v i wr=> ∃k:Nat,k≤n∧i= .int .i64 k∧wr.ownsRow w.heap.size 118 4 v (XM F k) (Vd F k)∧Below w.heap.size w wr) (fun _ i _=>n-(intOf i).toNat)
 case atStart=>exact⟨0,Nat.zero_le _,rfl,World.ownsRow_nil _ _ _ _,HB1.out⟩
 case round=>
  clear HB1;obtain⟨k,hk,rfl,hown,hbel⟩:=hrel;have HW:Hid (wr.ownsRow w.heap.size 118 4 u3 (XM F k) (Vd F k)):=hown;have HB:Hid (Below w.heap.size w wr):=hbel;have HBS:Hid (w.heap.size≤wr.heap.size):=hbel.size;have hnk:=Me F k;clear hown
  by_cases hlt:k<n
  ·obtain⟨b,o,KA,kc,rfl,hl,hnd,hki,hs⟩:=HR.out.2 k hlt;obtain⟨c0,c1,c2,c3,c4,c5,c6,c7,c8,c9,c10,c11,c12,c13⟩:=hnd.below hl (W':=wr) hbel;clear hnd hki hbel;have h0:(0:Int)≤(k:Int):=by omega
   have h1:(k:Int)<(n:Int):=by omega
   obtain⟨x,HX⟩: ∃x,Hid (F k=x):=⟨_,rfl⟩;have HSN:Hid (XM F (k+1)=XM F k+if x.k=2∨x.k=3 then 1 else 0):=by show _=_;rw [XM,HX.out]
   have HSL:Hid (Vd F (k+1)=Vd F k++Qdz x):=by show _=_;rw [Gp,HX.out]
   rw [HX.out]at c0 c1 c2 c3 c4 c5 c6 c7 c8 c9 c10 c11 c12 c13;obtain⟨xk,xo,xck,xcn,xcs,xac,xar,xaf,xag,xbc,xbr,xbf,xbg,xkids⟩:=x;simp only at c0 c1 c2 c3 c4 c5 c6 c7 c8 c9 c10 c11 c12 c13;by_cases h2:xk=2
   ·subst h2;go_wp2_with fail
    refine(Ht _ _ _ _ _ _ _ _ _ _ _ _ _).mono ?_;rintro e w2 ⟨rfl,hb⟩;have HW2:=hd (Qi (HW.out.alloc _) hb);have HB2:=hd (Qc (HB.out.alloc HB.out.size _) hb);have hs2:w.heap.size≤w2.heap.size:=HB2.out.size;clear hb c0 c1 c2 c3 c4 c5 c6 c7 c8 c9 c10 c11 c12 c13
    go_wp2_with (first
     | (at_builtin;refine wpList_append_own _ rfl _ _ 64 rfl w.heap.size 118 i0 (.agg #[.int .i64 0,.int .i64 0,.int .i64 0,.int .i64 0]) 4 32 Tryz.underlying64 hi iz0 iz1 iz2 rfl (by decide) _ _ _ rfl (HW2.out.alloc _) ⟨w2.heap.size,0,none⟩ 1 1 [.int .i64 xac,.int .i64 xar,.int .i64 xac,.int .i64 xar] rfl rfl ?c1 ?c2 ?c3 ?c4 ?c5 ?_)
     | go_in)
    case c1=>
     intro q u hq;match q,hq with
     | 0,hq=>simp at hq;subst hq;simp [Addr.add]
     | 1,hq=>simp at hq;subst hq;simp [Addr.add]
     | 2,hq=>simp at hq;subst hq;simp [Addr.add]
     | 3,hq=>simp at hq;subst hq;simp [Addr.add]
    case c2=>intro u hu;simp at hu;rcases hu with rfl | rfl | rfl | rfl<;>rfl
    case c3=>unfold maxLen;omega
    case c4=>omega
    case c5=>simp;omega
    intro v' w3 hown' hgrow _;have R3:Hid (Below w.heap.size w w3):=Qak HW2.out HB2.out hgrow
    have HW3:Hid (w3.ownsRow w.heap.size 118 4 v' (XM F (k+1)) (Vd F (k+1))):=by
     show World.ownsRow _ _ _ _ _ _ _;rw [HSN.out,HSL.out];exact hown'
    clear hown' hgrow HW2;go_wp2_with fail
    go_roundw
    case rel=>exact⟨k+1,by omega,by go_num,HW3.out,R3.out⟩
    case measure=>simp [intOf];omega
   by_cases h3:xk=3
   ·subst h3;go_wp2_with fail
    refine(XH _ _ _ _ _ _ _ _ _ _ _ _ _).mono ?_;rintro e w2 ⟨rfl,hb⟩;have HW2:=hd (Qi (HW.out.alloc _) hb);have HB2:=hd (Qc (HB.out.alloc HB.out.size _) hb);have hs2:w.heap.size≤w2.heap.size:=HB2.out.size;clear hb c0 c1 c2 c3 c4 c5 c6 c7 c8 c9 c10 c11 c12 c13
    go_wp2_with (first
     | (at_builtin;refine wpList_append_own _ rfl _ _ 64 rfl w.heap.size 118 i0 (.agg #[.int .i64 0,.int .i64 0,.int .i64 0,.int .i64 0]) 4 32 Tryz.underlying64 hi iz0 iz1 iz2 rfl (by decide) _ _ _ rfl (HW2.out.alloc _) ⟨w2.heap.size,0,none⟩ 1 1 [.int .i64 xac,.int .i64 xar,.int .i64 xbc,.int .i64 xbr] rfl rfl ?c1 ?c2 ?c3 ?c4 ?c5 ?_)
     | go_in)
    case c1=>
     intro q u hq;match q,hq with
     | 0,hq=>simp at hq;subst hq;simp [Addr.add]
     | 1,hq=>simp at hq;subst hq;simp [Addr.add]
     | 2,hq=>simp at hq;subst hq;simp [Addr.add]
     | 3,hq=>simp at hq;subst hq;simp [Addr.add]
    case c2=>intro u hu;simp at hu;rcases hu with rfl | rfl | rfl | rfl<;>rfl
    case c3=>unfold maxLen;omega
    case c4=>omega
    case c5=>simp;omega
    intro v' w3 hown' hgrow _;have R3:Hid (Below w.heap.size w w3):=Qak HW2.out HB2.out hgrow
    have HW3:Hid (w3.ownsRow w.heap.size 118 4 v' (XM F (k+1)) (Vd F (k+1))):=by
     show World.ownsRow _ _ _ _ _ _ _;rw [HSN.out,HSL.out];exact hown'
    clear hown' hgrow HW2;go_wp2_with fail
    go_roundw
    case rel=>exact⟨k+1,by omega,by go_num,HW3.out,R3.out⟩
    case measure=>simp [intOf];omega
   ·have e2:(xk==2)=false:=by simpa using h2
    have e3:(xk==3)=false:=by simpa using h3
    have HW3:Hid (wr.ownsRow w.heap.size 118 4 u3 (XM F (k+1)) (Vd F (k+1))):=by
     show World.ownsRow _ _ _ _ _ _ _;rw [HSN.out,HSL.out,if_neg (fun h=>h.elim h2 h3),Qdz,if_neg h2,if_neg h3,List.append_nil];exact HW.out
    go_wp2_with fail
    go_roundw
    case rel=>exact⟨k+1,by omega,by go_num,HW3.out.alloc _,HB.out.alloc HB.out.size _⟩
    case measure=>simp [intOf];omega
  ·have h1: ¬(k:Int)<(n:Int):=by omega
   obtain rfl:k=n:=by omega
   clear hbel;go_wp2_with fail
   go_ret;exact⟨_,rfl,by rw [NY,Qdv,HO.out];exact HW.out,HB.out⟩
theorem own_empty {W:World} {B g:Nat} {e:TypeId} {size:Nat} (hB:B≤W.heap.size) (hg:g=W.heap.size):(W.alloc (.cells #[] e)).ownsRow B e size (.slice (some ⟨g,0,none⟩) 0 0) 0 []:=by
 subst hg;exact World.ownsRow_made W #[] 0 hB (Nat.zero_le _) (by simp)
theorem Om {A:Option Addr} {n cap:Nat} {F:Nat→FN} (w:World) (h:FnRow w A n F) (hn:n≤1048576) (hkn: ∀i,i<n→(F i).kids.length≤1048576):
  Calls Tryz.prog 120 #[.slice A n cap] w fun e w'=> ∃v,e= .returned v∧w'.ownsRow w.heap.size 118 4 v (NY F n) (Qdv F n)∧Below w.heap.size w w':=by
 have HR:Hid (FnRow w A n F):=h;have HKN:Hid (∀i,i<n→(F i).kids.length≤1048576):=hkn;clear h hkn;obtain⟨i0,hi,iz0,iz1,iz2⟩:=info_parts Qju;cases ho:Zc F n
 ·have HO:Hid (Zc F n=false):=ho;clear ho;go_enter Tryz.func120,Tryz.ntmps120;go_wp2_with fail
  refine(ZH _ (HR.out.below (by go_grown)) hn HKN.out).mono ?_;rintro e w1 ⟨rfl,hb⟩;rw [HO.out];have HV:Hid (w1.ownsRow w.heap.size 118 4 (.slice (some ⟨w.heap.size,0,none⟩) 0 0) 0 []):=by exact Qi (own_empty (Nat.le_refl _) rfl) hb
  have HB1:Hid (Below w.heap.size w w1):=Qc (by go_grown) hb;clear hb;go_wp2_with fail
  go_ret;exact⟨_,rfl,by rw [NY,Qdv,HO.out];exact HV.out,HB1.out⟩
 have HO:Hid (Zc F n=true):=ho;have hn60:=Qkh ho;clear ho;go_enter Tryz.func120,Tryz.ntmps120;go_wp2_with fail
 refine(ZH _ (HR.out.below (by go_grown)) hn HKN.out).mono ?_;rintro e w1 ⟨rfl,hb⟩;rw [HO.out];have HV:Hid (w1.ownsRow w.heap.size 118 4 (.slice (some ⟨w.heap.size,0,none⟩) 0 0) 0 []):=by exact Qi (own_empty (Nat.le_refl _) rfl) hb
 have HB1:Hid (Below w.heap.size w w1):=Qc (by go_grown) hb;clear hb;go_wp2_with fail
 go_loopw [3,4] (fun v i wr=> ∃k:Nat,k≤n∧i= .int .i64 k∧wr.ownsRow w.heap.size 118 4 v (XM F k) (Vd F k)∧Below w.heap.size w wr) (fun _ i _=>n-(intOf i).toNat)
 case atStart=>exact⟨0,Nat.zero_le _,rfl,HV.out,HB1.out⟩
 case round=>
  clear HB1 HV;obtain⟨k,hk,rfl,hown,hbel⟩:=hrel;have HW:Hid (wr.ownsRow w.heap.size 118 4 u3 (XM F k) (Vd F k)):=hown;have HB:Hid (Below w.heap.size w wr):=hbel;have HBS:Hid (w.heap.size≤wr.heap.size):=hbel.size;have hnk:=Me F k;clear hown
  by_cases hlt:k<n
  ·obtain⟨b,o,KA,kc,rfl,hl,hnd,hki,hs⟩:=HR.out.2 k hlt;obtain⟨c0,c1,c2,c3,c4,c5,c6,c7,c8,c9,c10,c11,c12,c13⟩:=hnd.below hl (W':=wr) hbel;clear hnd hki hbel;have hl2:b<wr.heap.size:=Nat.lt_of_lt_of_le hl HBS.out;have h0:(0:Int)≤(k:Int):=by omega
   have h1:(k:Int)<(n:Int):=by omega
   obtain⟨x,HX⟩: ∃x,Hid (F k=x):=⟨_,rfl⟩;have HSN:Hid (XM F (k+1)=XM F k+if x.k=2∨x.k=3 then 1 else 0):=by show _=_;rw [XM,HX.out]
   have HSL:Hid (Vd F (k+1)=Vd F k++Qdz x):=by show _=_;rw [Gp,HX.out]
   rw [HX.out]at c0 c1 c2 c3 c4 c5 c6 c7 c8 c9 c10 c11 c12 c13;obtain⟨xk,xo,xck,xcn,xcs,xac,xar,xaf,xag,xbc,xbr,xbf,xbg,xkids⟩:=x;simp only at c0 c1 c2 c3 c4 c5 c6 c7 c8 c9 c10 c11 c12 c13;by_cases h2:xk=2
   ·subst h2;go_wp2_with fail
    refine wp_region_held_drew (S:=(fun w'=>(∀bq oq,bq<w.heap.size→w'.cell? ⟨bq,oq,none⟩=wr.cell? ⟨bq,oq,none⟩)∧w.heap.size≤w'.heap.size∧Below w.heap.size wr w')) (by kernel_rfl) (Qq HBS.out (by have hbs:=HBS.out;go_grown)) (fun hHeld=> ?_);refine tkA 0 ?_;refine tkB 1 ?_;refine tkA 2 ?_;refine tkB 3 ?_;refine tkA 4 ?_;refine tkB 5 ?_
    refine tkA 6 ?_;refine tkB 7 ?_;refine tkA 8 ?_;refine tkB 9 ?_;refine tkA 10 ?_;refine tkB 11 ?_;refine tkA 12 ?_
    refine tkB 13 ?_;refine rqA 14 (fun Kq hKq=> ?_);go_simp;refine hkB hKq (Qq HBS.out (by have hbs:=HBS.out;go_grown)) fun hHeld=> ?_;clear hKq Kq;refine rqA 15 (fun Kq hKq=> ?_);refine step_append_lies _ (by rfl) _ _ _ (by rfl) w.heap.size 118 i0 _ 4 32 Tryz.underlying64 hi iz0 iz1 iz2 rfl (by omega) u3 (XM F k) (Vd F k) (by rfl) ((HW.out.alloc _).drew) ⟨wr.heap.size,0,none⟩ 1 1 [.int .i64 xac,.int .i64 xar,.int .i64 xac,.int .i64 xar] (by rfl) (by rfl) (World.news_of_block (cs:= #[.int .i64 xac,.int .i64 xar,.int .i64 xac,.int .i64 xar]) (t:=118) (fr:=(0,0)) (heap_alloc_new wr _)) (by simp [Value.oneCell']) (by omega) (by unfold maxLen;omega) (by omega) (by have:=HBS.out;simp;omega) (wr.heap.size+1) (by simp) ?_
    intro gg gcap w3 hown3 hgrow hat hlt3;have R0:Below w.heap.size wr ((wr.alloc (.cells #[.int .i64 xac,.int .i64 xar,.int .i64 xac,.int .i64 xar] 118)).drew):=by have hbs:=HBS.out;go_grown
    have R3:Hid (Below w.heap.size wr w3):=R0.grown hgrow (by have:=HBS.out;simp;omega) (fun q hq=>(HW.out.lt q hq).1);clear R0;refine hkB hKq (Qq HBS.out R3.out) fun hHeld=> ?_;clear hKq Kq;refine tkB 16 ?_;refine wpAnyH_done (by kernel_rfl) ?_ _
    have HW3:Hid (w3.ownsRow w.heap.size 118 4 (.slice (some ⟨gg,0,none⟩) (XM F k+1) gcap) (XM F (k+1)) (Vd F (k+1))):=by
     show World.ownsRow _ _ _ _ _ _ _;rw [HSN.out,HSL.out];exact hown3
    clear hown3 hgrow hat;go_wp2_with fail
    go_roundw
    case rel=>exact⟨k+1,by omega,by go_num,HW3.out,HB.out.trans R3.out⟩
    case measure=>simp [intOf];omega
   by_cases h3:xk=3
   ·subst h3;go_wp2_with fail
    refine wp_region_held_drew (S:=(fun w'=>(∀bq oq,bq<w.heap.size→w'.cell? ⟨bq,oq,none⟩=wr.cell? ⟨bq,oq,none⟩)∧w.heap.size≤w'.heap.size∧Below w.heap.size wr w')) (by kernel_rfl) (Qq HBS.out (by have hbs:=HBS.out;go_grown)) (fun hHeld=> ?_);refine tkA 0 ?_;refine tkB 1 ?_;refine tkA 2 ?_;refine tkB 3 ?_;refine tkA 4 ?_;refine tkB 5 ?_
    refine tkA 6 ?_;refine tkB 7 ?_;refine tkA 8 ?_;refine tkB 9 ?_;refine tkA 10 ?_;refine tkB 11 ?_;refine tkA 12 ?_
    refine tkB 13 ?_;refine rqA 14 (fun Kq hKq=> ?_);go_simp;refine hkB hKq (Qq HBS.out (by have hbs:=HBS.out;go_grown)) fun hHeld=> ?_;clear hKq Kq;refine rqA 15 (fun Kq hKq=> ?_);refine step_append_lies _ (by rfl) _ _ _ (by rfl) w.heap.size 118 i0 _ 4 32 Tryz.underlying64 hi iz0 iz1 iz2 rfl (by omega) u3 (XM F k) (Vd F k) (by rfl) ((HW.out.alloc _).drew) ⟨wr.heap.size,0,none⟩ 1 1 [.int .i64 xac,.int .i64 xar,.int .i64 xbc,.int .i64 xbr] (by rfl) (by rfl) (World.news_of_block (cs:= #[.int .i64 xac,.int .i64 xar,.int .i64 xbc,.int .i64 xbr]) (t:=118) (fr:=(0,0)) (heap_alloc_new wr _)) (by simp [Value.oneCell']) (by omega) (by unfold maxLen;omega) (by omega) (by have:=HBS.out;simp;omega) (wr.heap.size+1) (by simp) ?_
    intro gg gcap w3 hown3 hgrow hat hlt3;have R0:Below w.heap.size wr ((wr.alloc (.cells #[.int .i64 xac,.int .i64 xar,.int .i64 xbc,.int .i64 xbr] 118)).drew):=by have hbs:=HBS.out;go_grown
    have R3:Hid (Below w.heap.size wr w3):=R0.grown hgrow (by have:=HBS.out;simp;omega) (fun q hq=>(HW.out.lt q hq).1);clear R0;refine hkB hKq (Qq HBS.out R3.out) fun hHeld=> ?_;clear hKq Kq;refine tkB 16 ?_;refine wpAnyH_done (by kernel_rfl) ?_ _
    have HW3:Hid (w3.ownsRow w.heap.size 118 4 (.slice (some ⟨gg,0,none⟩) (XM F k+1) gcap) (XM F (k+1)) (Vd F (k+1))):=by
     show World.ownsRow _ _ _ _ _ _ _;rw [HSN.out,HSL.out];exact hown3
    clear hown3 hgrow hat;go_wp2_with fail
    go_roundw
    case rel=>exact⟨k+1,by omega,by go_num,HW3.out,HB.out.trans R3.out⟩
    case measure=>simp [intOf];omega
   ·have e2:(xk==2)=false:=by simpa using h2
    have e3:(xk==3)=false:=by simpa using h3
    have HW3:Hid (wr.ownsRow w.heap.size 118 4 u3 (XM F (k+1)) (Vd F (k+1))):=by
     show World.ownsRow _ _ _ _ _ _ _;rw [HSN.out,HSL.out,if_neg (fun h=>h.elim h2 h3),Qdz,if_neg h2,if_neg h3,List.append_nil];exact HW.out
    go_wp2_with fail
    go_roundw
    case rel=>exact⟨k+1,by omega,by go_num,HW3.out,HB.out⟩
    case measure=>simp [intOf];omega
  ·have h1: ¬(k:Int)<(n:Int):=by omega
   obtain rfl:k=n:=by omega
   clear hbel;go_wp2_with fail
   go_ret;exact⟨_,rfl,by rw [NY,Qdv,HO.out];exact HW.out,HB.out⟩
end Go.Proofs.YtejbnnacghbhoaaGreatDoor
