import Derived.Test.YtekcnhfkmimodaaGreatDoorGze
import Derived.Test.YtekcnhfkmimodaaGreatDoorMn
import Derived.Test.YtekcnhfkmimodaaGreatDoorJa
set_option linter.unusedSimpArgs false
set_option linter.unusedVariables false
set_option maxHeartbeats 8000000
set_option maxRecDepth 100000
namespace Go.Proofs.YtekcnhfkmimodaaGreatDoor
open Go.RowKit
theorem in_limL {s t:ByteArray} (h:inF s=some t):t.size≤200:=by
 unfold inF at h;split at h
 ·unfold lim at h;split at h
  ·split at h
   ·cases h;assumption
   ·cases h
  ·cases h
 ·cases h
theorem own_lim {s:ByteArray} (h:UX s=true):s.size≤200:=by
 unfold UX at h;split at h
 ·rename_i t ht
  have e1:t.toList=s.toList:=eq_of_beq h
  have e2:t.data.toList.length=s.data.toList.length:=by
   rw [ByteArray.toList_eq,ByteArray.toList_eq]at e1;rw [e1]
  have h8:=in_limL ht;have e3:t.size=s.size:=by simpa using e2
  omega
 ·cases h
end Go.Proofs.YtekcnhfkmimodaaGreatDoor
namespace Go.Proofs.YtekcnhfkmimodaaGreatDoor
open Go.RowKit Go.Maps
theorem Qet {L:List AR} {f:AR→Bool} {j:Nat} {x:AR} (hj:j<L.length) (hx:L.getD j (0,0,0,0)=x):(L.take (j+1)).any f=((L.take j).any f || f x):=by
 rw [List.getD_eq_getElem?_getD,List.getElem?_eq_getElem hj]at hx;have hx:L[j]=x:=hx;rw [List.take_add_one,List.getElem?_eq_getElem hj,hx,List.any_append];simp
theorem Mv {A:Option Addr} {n cap:Nat} {C R:Nat→Int} {S:Nat→ByteArray} (p q:Int) (w:World) (h:ClRow w A n C R S) (hn:n≤120) (hrs:Ym C R n=true) (hsz:(Yf C R S p q n).size≤200):
  Calls Tryz.prog 24 #[.slice A n cap,.agg #[.int .i64 p,.int .i64 q]] w fun e w'=> ∃F z c,e= .returned (.slice F z c)∧(leL C R (lnA (Yf C R S p q n)) n).length=z∧w'.ownsRow w.heap.size 30 2 (.slice F z c) z (QP rfL (leL C R (lnA (Yf C R S p q n)) n))∧Below w.heap.size w w':=by
 have HR:Hid (ClRow w A n C R S):=h;have HRS:Hid (Ym C R n=true):=hrs;obtain⟨s,HS⟩: ∃s,Hid (Yf C R S p q n=s):=⟨_,rfl⟩;rw [HS.out]at hsz ⊢;obtain⟨L,HL⟩: ∃L,Hid (lnA s=L):=⟨_,rfl⟩;rw [HL.out];clear h hrs
 go_enter Tryz.func24,Tryz.ntmps24;go_upto_region 2 with fail
 obtain⟨X,HX⟩: ∃X,Hid ((w.alloc (.cells #[.int .i64 p,.int .i64 q] 30)).alloc (.cells #[] 30)=X):=⟨_,rfl⟩;rw [HX.out];have x0:X.cell? ⟨w.heap.size,0,none⟩=some (.int .i64 p):=by rw [←HX.out];simp
 have x1:X.cell? ⟨w.heap.size,1,none⟩=some (.int .i64 q):=by rw [←HX.out];simp
 have xl:w.heap.size<X.heap.size:=by rw [←HX.out];simp;omega
 have BX:Hid (Below w.heap.size w X):=by show Below _ _ _;rw [←HX.out];exact((Below.refl _ _).alloc (Nat.le_refl _) _).alloc (by simp) _
 have OX:Hid (X.ownsRow w.heap.size 30 2 (.slice (some ⟨w.heap.size+1,0,none⟩) 0 0) 0 []):=by show World.ownsRow _ _ _ _ _ _ _;rw [←HX.out];exact Vb (by simp) (by simp)
 clear HX;go_wp2_with fail
 refine(Qa3 p q _ (HR.out.below BX.out) HRS.out).mono ?_;rintro e w1 ⟨rfl,hb⟩;rw [HS.out];have B1:=hd (Qc BX.out hb);have O1:=hd (Qe OX.out hb);clear hb OX BX x0 x1 xl;go_wp2_with fail
 refine(Mw s _ hsz).mono ?_;rintro e w2 ⟨A2,m,c2,rfl,hml,har,h60,hb⟩;rw [HL.out]at hml har;have HM:Hid (L.length=m):=hml;have HAR:=hd (Zl har B1.out.size);have B2:=hd (Qc B1.out hb);have O2:=hd (Qe O1.out hb)
 have HR2:=hd (HR.out.below B2.out);clear har hml hb O1 B1;go_wp2_with fail
 go_loopw [5,7] (fun v i wr=> ∃(k:Nat) (F:Option Addr) (z c:Nat),k≤n∧v= .slice F z c∧(leL C R L k).length=z∧i= .int .i64 k∧wr.ownsRow w.heap.size 30 2 (.slice F z c) z (QP rfL (leL C R L k))∧Below w.heap.size w wr∧ClRow wr A n C R S∧wr.ownsRow w.heap.size 69 4 (.slice A2 m c2) m (QP arC L)) (fun _ i _=>n-(intOf i).toNat)
 case atStart=>exact⟨0,_,0,0,Nat.zero_le _,rfl,rfl,rfl,O2.out,B2.out,HR2.out,HAR.out⟩
 case round=>
  obtain⟨k,F,z,c,hk,rfl,hzl,rfl,hown,hbel,hcl,har⟩:=hrel;have OW:Hid (wr.ownsRow w.heap.size 30 2 (.slice F z c) z (QP rfL (leL C R L k))):=hown;have HZL:Hid ((leL C R L k).length=z):=hzl;have BL:Hid (Below w.heap.size w wr):=hbel;have HC:Hid (ClRow wr A n C R S):=hcl;have HAO:Hid (wr.ownsRow w.heap.size 69 4 (.slice A2 m c2) m (QP arC L)):=har;have HA:Hid (ArR wr A2 m L):=ArR.of_own har HM.out
  have hz120:z≤120:=by rw [←hzl];exact Nat.le_trans (Gp C R L k) (by omega)
  clear hown hzl hbel hcl har;by_cases hlt:k<n
  ·obtain⟨b,o,rfl,hl,c0,c1,c2',_⟩:=HC.out.2 k hlt;have h0:(0:Int)≤(k:Int):=by omega
   have h1:(k:Int)<(n:Int):=by omega
   go_wp2_with fail
   obtain⟨wo,HWO⟩: ∃wo,wo=wr:=⟨_,rfl⟩;subst HWO;go_loopw [8,9] (fun d i wi=> ∃j:Nat,j≤m∧d= .bool ((L.take j).any (YF (C k) (R k)))∧i= .int .i64 j∧Below wo.heap.size wo wi) (fun _ i _=>m-(intOf i).toNat)
   case atStart=>exact⟨0,Nat.zero_le _,rfl,rfl,Below.refl _ _⟩
   case round=>
    obtain⟨j,hj,rfl,rfl,hbi⟩:=hrel;have BI:Hid (Below wo.heap.size wo wr):=hbi;replace c0:=(hbi.cell (p:=⟨b,_,none⟩) hl).trans c0;replace c1:=(hbi.cell (p:=⟨b,_,none⟩) hl).trans c1;have hl2:b<wr.heap.size:=Nat.lt_of_lt_of_le hl hbi.size;by_cases hlt':j<m
    ·obtain⟨b',o',rfl,hl',a0,a1,a2,a3⟩:=HA.out.at_ j hlt';rw [←hbi.cell (p:=⟨_,_,none⟩) hl']at a0 a1 a2 a3;have hl3:b'<wr.heap.size:=Nat.lt_of_lt_of_le hl' hbi.size;have j0:(0:Int)≤(j:Int):=by omega
     have j1:(j:Int)<(m:Int):=by omega
     obtain⟨x,HX⟩: ∃x,Hid (L.getD j (0,0,0,0)=x):=⟨_,rfl⟩;rw [HX.out]at a0 a1 a2 a3;have HT:Hid ((L.take (j+1)).any (YF (C k) (R k))=((L.take j).any (YF (C k) (R k)) || YF (C k) (R k) x)):=Qet (by rw [HM.out];exact hlt') HX.out;clear hbi hl hl' c2';cases hd:(L.take j).any (YF (C k) (R k))
     ·cases hin:YF (C k) (R k) x
      ·have HE:Hid ((L.take (j+1)).any (YF (C k) (R k))=false):=by show _=_;rw [HT.out,hd,hin];rfl
       clear hd HT;go_wp2_with fail
       refine wp_region_held_drew (S:=(fun w'=>(∀bq oq,bq<wr.heap.size→w'.cell? ⟨bq,oq,none⟩=wr.cell? ⟨bq,oq,none⟩)∧wr.heap.size≤w'.heap.size∧Below wr.heap.size wr w')) (by kernel_rfl) (Qn (by go_size) (by go_grown)) (fun hHeld=> ?_);refine tkA 0 ?_;refine tkB 1 ?_;refine tkA 2 ?_;refine tkB 3 ?_;refine tkA 4 ?_;refine tkB 5 ?_
       refine tkA 6 ?_;refine tkB 7 ?_;refine tkA 8 ?_;refine tkB 9 ?_;refine tkB 10 ?_;refine rqA 11 (fun Kq hKq=> ?_);go_simp
       (refine(XT x (C k) (R k) _).mono ?_;rintro e wy ⟨rfl,hb⟩;rw [hin];obtain⟨hk1,hz1⟩:=Qh (B:=wr.heap.size) (X:=wr) (by go_grown) (by go_size) hb;have hCy:=fun b o h=>hk1.cell (p:=⟨b,o,none⟩) h;clear hb)
       refine hkB hKq (Qn (by go_size) (by go_grown)) fun hHeld=> ?_;clear hKq Kq;refine tkA 12 ?_;refine tkB 13 ?_;refine wpAnyH_done (by kernel_rfl) ?_ _;go_wp2_with fail
       go_roundw
       case rel=>exact⟨j+1,by omega,by rw [HE.out],by go_num,Qc BI.out (by go_grown)⟩
       case measure=>simp [intOf];omega
      ·have HE:Hid ((L.take (j+1)).any (YF (C k) (R k))=true):=by show _=_;rw [HT.out,hd,hin];rfl
       clear hd HT;go_wp2_with fail
       refine wp_region_held_drew (S:=(fun w'=>(∀bq oq,bq<wr.heap.size→w'.cell? ⟨bq,oq,none⟩=wr.cell? ⟨bq,oq,none⟩)∧wr.heap.size≤w'.heap.size∧Below wr.heap.size wr w')) (by kernel_rfl) (Qn (by go_size) (by go_grown)) (fun hHeld=> ?_);refine tkA 0 ?_;refine tkB 1 ?_;refine tkA 2 ?_;refine tkB 3 ?_;refine tkA 4 ?_;refine tkB 5 ?_
       refine tkA 6 ?_;refine tkB 7 ?_;refine tkA 8 ?_;refine tkB 9 ?_;refine tkB 10 ?_;refine rqA 11 (fun Kq hKq=> ?_);go_simp
       (refine(XT x (C k) (R k) _).mono ?_;rintro e wy ⟨rfl,hb⟩;rw [hin];obtain⟨hk1,hz1⟩:=Qh (B:=wr.heap.size) (X:=wr) (by go_grown) (by go_size) hb;have hCy:=fun b o h=>hk1.cell (p:=⟨b,o,none⟩) h;clear hb)
       refine hkB hKq (Qn (by go_size) (by go_grown)) fun hHeld=> ?_;clear hKq Kq;refine tkA 12 ?_;refine tkB 13 ?_;refine wpAnyH_done (by kernel_rfl) ?_ _;go_wp2_with fail
       go_roundw
       case rel=>exact⟨j+1,by omega,by rw [HE.out],by go_num,Qc BI.out (by go_grown)⟩
       case measure=>simp [intOf];omega
     ·have HE:Hid ((L.take (j+1)).any (YF (C k) (R k))=true):=by show _=_;rw [HT.out,hd];rfl
      clear hd HT;go_wp2_with fail
      refine wp_region_held_drew (S:=(fun w'=>(∀bq oq,bq<wr.heap.size→w'.cell? ⟨bq,oq,none⟩=wr.cell? ⟨bq,oq,none⟩)∧wr.heap.size≤w'.heap.size∧Below wr.heap.size wr w')) (by kernel_rfl) (Qn (by go_size) (by go_grown)) (fun hHeld=> ?_);refine tkA 0 ?_;refine tkB 1 ?_;refine tnA 2 ?_;refine tnB 3 ?_;refine tnA 4 ?_;refine tnB 5 ?_
      refine tnA 6 ?_;refine tnB 7 ?_;refine tnA 8 ?_;refine tnB 9 ?_;refine tnA 10 ?_;refine tnB 11 ?_;refine tkA 12 ?_
      refine tkB 13 ?_;refine wpAnyH_done (by kernel_rfl) ?_ _;go_wp2_with fail
      go_roundw
      case rel=>exact⟨j+1,by omega,by rw [HE.out],by go_num,Qc BI.out (by go_grown)⟩
      case measure=>simp [intOf];omega
    ·have h2: ¬(j:Int)<(m:Int):=by omega
     obtain rfl:j=m:=by omega
     have HTA:Hid ((L.take j).any (YF (C k) (R k))=L.any (YF (C k) (R k))):=by show _=_;rw [←HM.out,List.take_length]
     rw [HTA.out];have OI:=hd (Qe OW.out hbi);have BLI:=hd (Qc BL.out hbi);have HCI:=hd (HC.out.below hbi);have HAI:=hd (Qe HAO.out hbi);have hus:=BLI.out.size;clear hbi OW BL HC HA HAO HTA BI
     cases hin:L.any (YF (C k) (R k))
     ·have HE:Hid (leL C R L (k+1)=leL C R L k):=Qff hin;clear hin;go_wp2_with fail
      go_roundw
      case rel=>exact⟨k+1,F,z,c,by omega,rfl,by rw [HE.out];exact HZL.out,by go_num,by rw [HE.out];exact OI.out,BLI.out,HCI.out,HAI.out⟩
      case measure=>simp [intOf];omega
     ·have HE:Hid (leL C R L (k+1)=leL C R L k++ [(C k,R k)]):=ES hin;clear hin
      go_wp2_with (first
       | (at_builtin;refine Ju rfl _ _ rfl w.heap.size (.slice F z c) z (leL C R L k) rfl (OI.out.alloc _) (C k,R k) wr.heap.size rfl (by simp [go_sem]) (by simp [go_sem]) (by omega) (by simp;omega) ?_)
       | fail)
      intro v2 w9 ho hg;have hba:Below wr.heap.size wr (wr.alloc (.cells #[.int .i64 (C k),.int .i64 (R k)] 30)):=(Below.refl _ _).alloc (Nat.le_refl _) _;have B9:Hid (Below w.heap.size w w9):=(BLI.out.alloc hus _).grown hg (by simp;omega) (fun j hj=>(OI.out.lt j hj).1);have HC9:=hd (HR.out.below B9.out);have HA9:Hid (w9.ownsRow w.heap.size 69 4 (.slice A2 j c2) j (QP arC L)):=(HAI.out.alloc _).kept hg (Kk HAI.out OI.out (by decide));obtain⟨F2,d2,rfl,_,_⟩:=Qj ho;have O9:Hid (w9.ownsRow w.heap.size 30 2 (.slice F2 (z+1) d2) (z+1) (QP rfL (leL C R L (k+1)))):=by rw [HE.out];exact ho
      clear ho hg hba;go_wp2_with fail
      go_roundw
      case rel=>exact⟨k+1,F2,z+1,d2,by omega,rfl,by rw [HE.out,List.length_append,HZL.out];rfl,by go_num,O9.out,B9.out,HC9.out,HA9.out⟩
      case measure=>simp [intOf];omega
  ·have h1: ¬(k:Int)<(n:Int):=by omega
   obtain rfl:k=n:=by omega
   go_wp2_with fail
   go_ret;exact⟨F,z,c,rfl,HZL.out,OW.out,BL.out⟩
def lnR (C R:Nat→Int) (S:Nat→ByteArray) (n:Nat) (p q:Int):List (Int × Int):=if Zg C R S n=true then leL C R (lnA (Yf C R S p q n)) n else []
theorem UI {C R:Nat→Int} {S:Nat→ByteArray} {n:Nat} (h:Zg C R S n=true):(∀i,i<n→(S i).size≤200)∧ ∀p q,∀k,k≤n→(Yf C R S p q k).size≤200:=by
 have h1: ∀i,i<n→(S i).size≤200:=fun i hi=>by
  unfold Zg at h;simp only [Bool.and_eq_true]at h;have h9:=List.all_eq_true.1 h.2 i (List.mem_range.2 hi);unfold Yj at h9;rw [Bool.and_eq_true]at h9;exact own_lim h9.2
 refine⟨h1,fun p q k=> ?_⟩;induction k with
 | zero=>intro _;exact Nat.zero_le _
 | succ k ih=>
  intro hk;rw [Yf];split
  ·exact h1 k (by omega)
  ·exact ih (by omega)
theorem MD {A:Option Addr} {n cap:Nat} {C R:Nat→Int} {S:Nat→ByteArray} (p q:Int) (w:World) (h:ClRow w A n C R S):
  Calls Tryz.prog 7 #[.slice A n cap,.agg #[.int .i64 p,.int .i64 q]] w fun e w'=> ∃F z c,e= .returned (.slice F z c)∧(lnR C R S n p q).length=z∧w'.ownsRow w.heap.size 30 2 (.slice F z c) z (QP rfL (lnR C R S n p q))∧Below w.heap.size w w':=by
 have HR:Hid (ClRow w A n C R S):=h;clear h;go_enter Tryz.func7,Tryz.ntmps7;go_upto_region 1 with fail
 obtain⟨X,HX⟩: ∃X,Hid (w.alloc (.cells #[.int .i64 p,.int .i64 q] 30)=X):=⟨_,rfl⟩;rw [HX.out];have x0:X.cell? ⟨w.heap.size,0,none⟩=some (.int .i64 p):=by rw [←HX.out];simp
 have x1:X.cell? ⟨w.heap.size,1,none⟩=some (.int .i64 q):=by rw [←HX.out];simp
 have xl:w.heap.size<X.heap.size:=by rw [←HX.out];simp
 have BX:Hid (Below w.heap.size w X):=by show Below _ _ _;rw [←HX.out];exact(Below.refl _ _).alloc (Nat.le_refl _) _
 clear HX;go_wp2_with fail
 refine(MA _ (HR.out.below BX.out)).mono ?_;rintro e w1 ⟨rfl,hb⟩;have B1:=hd (Qc BX.out hb);replace x0:=(hb.cell (p:=⟨w.heap.size,0,none⟩) xl).trans x0;replace x1:=(hb.cell (p:=⟨w.heap.size,1,none⟩) xl).trans x1;replace xl:=Nat.lt_of_lt_of_le xl hb.size;clear hb BX
 cases hok:Zg C R S n
 ·have HE:Hid (lnR C R S n p q= []):=by show _=_;unfold lnR;rw [hok];rfl
  clear hok;go_wp2_with fail
  go_ret;refine⟨some ⟨w1.heap.size,0,none⟩,0,0,rfl,by rw [HE.out];rfl,?_,B1.out.alloc B1.out.size _⟩;rw [HE.out];exact Vb B1.out.size rfl
 ·have HE:Hid (lnR C R S n p q=leL C R (lnA (Yf C R S p q n)) n):=by show _=_;unfold lnR;rw [hok,if_pos rfl]
  obtain⟨hn,hrs⟩:=Vf hok;have hsz:=(UI hok).2 p q n (Nat.le_refl _);clear hok;go_wp2_with fail
  refine(Mv p q _ (HR.out.below B1.out) hn hrs hsz).mono ?_;rintro e w2 ⟨F,z,c,rfl,hz,ho,hb⟩;have O2:=hd (Zl ho B1.out.size);have HZ:Hid ((leL C R (lnA (Yf C R S p q n)) n).length=z):=hz;have B2:=hd (Qc B1.out hb);clear hb ho hz hsz;go_wp2_with fail
  go_ret;exact⟨F,z,c,rfl,by rw [HE.out];exact HZ.out,by rw [HE.out];exact O2.out,B2.out⟩
theorem Qa1 {H:Type} {P:Program} {w:World} {ops:Array Oper} {o:Oper} {a:Act} {K:Act→World→Prop} {Q:Exit→Act→World→Prop} {E:Prop}
  (hg:o.guard=none) (m x v:Operand) (t:TypeId) (hop:o.op=Op.mapUpdate t m x v)
  (k e:TypeId) (K':Keyed P k) (ht:P.underlying t=some (.map k e)) (R:Value→Option (DataW H × List MemPlace)) (b n:Nat) (D:DataW H)
  (hm:a.eval m= .map (some b)) (hown:w.ownsMap P k R b n D) (hn:n<maxLen) (key val:Value) (kl:Lit) (hx:a.eval x=key) (hv:a.eval v=val) (hkey:keyOf P k key=some kl)
  (d:DataW H) (ps:List MemPlace) (hval:R val=some (d,ps))
  (h: ∀w',w'.ownsMap P k R b (n+1) (D.put kl d)→w.grownBy w' (some b)→K (a.put o.dst undef) w'):
  if Region.wanted o (yielded ops a.tmps)=true then Oper.wp P o a w K Q else E:=by
 have hw:Region.wanted o (yielded ops a.tmps)=true:=by simp [Region.wanted,hg]
 rw [if_pos hw];obtain⟨w',hrun,r1,r2⟩:=hown.update K' ht hn hkey hval;have hfin:=h w' r1 r2;unfold Oper.wp;simp [execOp,hop,hm,hx,hv,hrun,Result.andThen];exact hfin
theorem Gj {W:World} {B n mb:Nat} {e:TypeId} {s:Nat} {v:Value} {xs:List Value} (h:W.ownsRow B e s v n xs) (hb:mb<B):v.ownBlock=none∨v.ownBlock≠some mb:=by
 cases hv:v.ownBlock with
 | none=>exact Or.inl rfl
 | some g=>
  right
  intro e;have:=(h.lt g hv).1;cases e
  omega
def zLn:Value:= .agg #[.slice none 0 0,.slice none 0 0,.slice none 0 0]
def LnY (C R:Nat→Int) (B:Nat) (W:World) (n:Nat) (s:ByteArray) (v:Value):Prop:= ∃vn A m c F z d,v= .agg #[vn,.slice A m c,.slice F z d]∧(lnA s).length=m∧W.ownsRow B 69 4 (.slice A m c) m (QP arC (lnA s))∧(leL C R (lnA s) n).length=z∧W.ownsRow B 30 2 (.slice F z d) z (QP rfL (leL C R (lnA s) n))
def LnV (C R:Nat→Int) (B:Nat) (W:World) (n:Nat) (s:ByteArray) (v:Value):Prop:=(lnF s=none→v=zLn)∧(lnF s≠none→LnY C R B W n s v)
def LnS (C R:Nat→Int) (S:Nat→ByteArray) (B:Nat) (W:World) (n k:Nat) (D:DataW Value):Prop:= ∀p q l,keyOf Tryz.prog 30 (.agg #[.int .i64 p,.int .i64 q])=some l→ ∃v,D.atKey l (.held zLn)= .held v∧LnV C R B W n (Yf C R S p q k) v
theorem LnY.kept {C R:Nat→Int} {B n:Nat} {W W':World} {s:ByteArray} {v:Value} {mb:Nat} (h:LnY C R B W n s v) (hg:W.grownBy W' (some mb)) (hB:mb<B):LnY C R B W' n s v:=by
 obtain⟨vn,A,m,c,F,z,d,e,h1,h2,h3,h4⟩:=h;exact⟨vn,A,m,c,F,z,d,e,h1,h2.kept hg (Gj h2 hB),h3,h4.kept hg (Gj h4 hB)⟩
theorem LnY.below {C R:Nat→Int} {B n:Nat} {W W':World} {s:ByteArray} {v:Value} (h:LnY C R B W n s v) (hb:Below W.heap.size W W'):LnY C R B W' n s v:=by
 obtain⟨vn,A,m,c,F,z,d,e,h1,h2,h3,h4⟩:=h;exact⟨vn,A,m,c,F,z,d,e,h1,Qe h2 hb,h3,Qe h4 hb⟩
theorem LnS.kept {C R:Nat→Int} {S:Nat→ByteArray} {B n k:Nat} {W W':World} {D:DataW Value} {mb:Nat} (h:LnS C R S B W n k D) (hg:W.grownBy W' (some mb)) (hB:mb<B):LnS C R S B W' n k D:=fun p q l hl=>by
 obtain⟨v,e,h1,h2⟩:=h p q l hl;exact⟨v,e,h1,fun hn=>(h2 hn).kept hg hB⟩
theorem LnS.below {C R:Nat→Int} {S:Nat→ByteArray} {B n k:Nat} {W W':World} {D:DataW Value} (h:LnS C R S B W n k D) (hb:Below W.heap.size W W'):LnS C R S B W' n k D:=fun p q l hl=>by
 obtain⟨v,e,h1,h2⟩:=h p q l hl;exact⟨v,e,h1,fun hn=>(h2 hn).below hb⟩
theorem EQ:lnF ⟨#[]⟩=none:=rfl
theorem Ox {C R:Nat→Int} {S:Nat→ByteArray} {p q:Int}: ∀k:Nat,(∀i,i<k→ ¬(C i=p∧R i=q))→Yf C R S p q k=⟨#[]⟩
 | 0,_=>rfl
 | k+1,h=>by rw [Yf,if_neg (h k (by omega)),Ox k (fun i hi=>h i (by omega))]
theorem LnS.skip {C R:Nat→Int} {S:Nat→ByteArray} {B n k:Nat} {W:World} {D:DataW Value} (h:LnS C R S B W n k D) (hdq: ∀i,i<k→ ¬(C i=C k∧R i=R k)) (hs:lnF (S k)=none):LnS C R S B W n (k+1) D:=fun p q l hl=>by
 obtain⟨v,e,h1,h2⟩:=h p q l hl;refine⟨v,e,?_⟩;by_cases hm:C k=p∧R k=q
 ·have hn:Yf C R S p q k=⟨#[]⟩:=Ox k (fun i hi=>by rw [←hm.1,←hm.2];exact hdq i hi);rw [hn]at h1;rw [Yf,if_pos hm];exact⟨fun _=>h1 EQ,fun h9=>absurd hs h9⟩
 ·rw [Yf,if_neg hm];exact⟨h1,h2⟩
theorem LnS.put {C R:Nat→Int} {S:Nat→ByteArray} {B n k:Nat} {W:World} {D:DataW Value} {kk:Lit} {v:Value} (hD:IsMap D) (hk:keyOf Tryz.prog 30 (.agg #[.int .i64 (C k),.int .i64 (R k)])=some kk) (h:LnS C R S B W n k D) (hv:LnY C R B W n (S k) v) (hs:lnF (S k)≠none):LnS C R S B W n (k+1) (D.put kk (.held v)):=fun p q l hl=>by
 by_cases hm:C k=p∧R k=q
 ·rw [Yf,if_pos hm];rw [hm.1,hm.2,hl]at hk;cases hk
  exact⟨v,by rw [atKey_put_same hD (keyedRef.key hl)],fun h9=>absurd h9 hs,fun _=>hv⟩
 ·rw [Yf,if_neg hm]
  have hne:l≠kk:=fun e2=>by
   rw [←e2]at hk;have:=keyedRef.inj hk hl;simp at this;exact hm this
  obtain⟨v',e,hv'⟩:=h p q l hl;exact⟨v',by rw [atKey_put_other hne];exact e,hv'⟩
theorem Qjt (w:World):(zeroValue 53).run Tryz.prog w= .ok zLn w:=by kernel_rfl
theorem Qjg (a b c:Value) (w:World):(Instr.field 53 (.agg #[a,b,c]) 2).run Tryz.prog w= .ok c w:=by
 first | kernel_rfl | rfl | simp [Instr.field,go_sem]
theorem Qc7 {C R:Nat→Int} {n k:Nat} (h:Ym C R n=true) (hk:k<n): ∀i,i<k→ ¬(C i=C k∧R i=R k):=fun i hi e=>by
 have:=of_decide_eq_true (Er h k hk i hi);omega
theorem Qh0 {C R:Nat→Int} {S:Nat→ByteArray} {B n z mb:Nat} {W:World} {D:DataW Value} {p q:Int} {l:Lit} (hown:W.ownsMap Tryz.prog 30 Nc mb z D) (hs:LnS C R S B W n n D) (hl:keyOf Tryz.prog 30 (.agg #[.int .i64 p,.int .i64 q])=some l):
  ∃v F zz c,(Instr.lookup 55 (.map (some mb)) (.agg #[.int .i64 p,.int .i64 q]) false).run Tryz.prog W= .ok v W∧(∀w',(Instr.field 53 v 2).run Tryz.prog w'= .ok (.slice F zz c) w')∧(leL C R (lnA (Yf C R S p q n)) n).length=zz∧W.ownsRow B 30 2 (.slice F zz c) zz (QP rfL (leL C R (lnA (Yf C R S p q n)) n)):=by
 obtain⟨v,hat,h1,h2⟩:=hs p q l hl;obtain⟨u,ps,hr,hu⟩:=hown.lookup keyedRef Tryz.underlying55 (Qjt W) (rfl:Nc _=some (.held _,[])) hl;rw [hat]at hu;unfold Nc at hu;simp at hu;rw [hu.1]at hr;by_cases hf:lnF (Yf C R S p q n)=none
 ·have hv:=h1 hf;subst hv;have hA:lnA (Yf C R S p q n)= []:=by unfold lnA;rw [hf]
  have hE: ∀k,leL C R [] k= []:=fun k=>by
   induction k with
   | zero=>rfl
   | succ k ih=>rw [leL,ih];rfl
  rw [hA,hE];exact⟨_,none,0,0,hr,fun w'=>Qjg _ _ _ w',rfl,World.ownsRow_nil _ _ _ _⟩
 ·obtain⟨vn,A,m,c,F,zz,d,rfl,_,_,h3,h4⟩:=h2 hf;exact⟨_,F,zz,d,hr,fun w'=>Qjg _ _ _ w',h3,h4⟩
theorem Kz {A:Option Addr} {n cap:Nat} {C R:Nat→Int} {S:Nat→ByteArray} (w:World) (h:ClRow w A n C R S) (hok:Zg C R S n=true) (hg:GI w):
  Calls Tryz.prog 27 #[.slice A n cap] w fun e w'=>e= .returned (.map (some w.heap.size))∧(∃z D,z≤n∧w'.ownsMap Tryz.prog 30 Nc w.heap.size z D∧LnS C R S (w.heap.size+1) w' n n D)∧Below w.heap.size w w':=by
 have HR:Hid (ClRow w A n C R S):=h;have HG:Hid (GI w):=hg;obtain⟨hn,hrs⟩:=Vf hok;obtain⟨kl,hkl⟩:=Qg2 (Qc6 hrs);have HK:Hid (∀i,i<n→keyOf Tryz.prog 30 (.agg #[.int .i64 (C i),.int .i64 (R i)])=some (kl i)):=hkl;have HOF:Hid (∀k,k<n→ ∀i,i<k→ ¬(C i=C k∧R i=R k)):=fun k hk=>Qc7 hrs hk;have HSZ:Hid (∀i,i<n→(S i).size≤200):=(UI hok).1
 have hmm:= @run_makeMap Tryz.prog;clear h hg hkl hrs hok;go_enter Tryz.func27,Tryz.ntmps27;go_wp2_with fail
 go_loopw [12] (fun i wr=> ∃(k z:Nat) (D:DataW Value),k≤n∧z≤k∧i= .int .i64 k∧wr.ownsMap Tryz.prog 30 Nc w.heap.size z D∧IsMap D∧LnS C R S (w.heap.size+1) wr n k D∧Below w.heap.size w wr∧w.heap.size<wr.heap.size) (fun i _=>n-(intOf i).toNat)
 case atStart=>exact⟨0,0,_,Nat.zero_le _,Nat.le_refl _,rfl,World.ownsMap_made _ _ _ _,⟨_,rfl⟩,fun p q l _=>⟨zLn,rfl,fun _=>rfl,fun h=>absurd EQ h⟩,by go_grown,by simp⟩
 case round=>
  obtain⟨k,z,D,hk,hz,rfl,hm,hD,hs,hbel,hws⟩:=hrel;have M0:Hid (wr.ownsMap Tryz.prog 30 Nc w.heap.size z D):=hm;have HD:Hid (IsMap D):=hD;have E0:Hid (LnS C R S (w.heap.size+1) wr n k D):=hs;have B0:Hid (Below w.heap.size w wr):=hbel;have HWS:Hid (w.heap.size<wr.heap.size):=hws;clear hm hD hs
  by_cases hlt:k<n
  ·obtain⟨b,o,rfl,hl,c0,c1,c2,_⟩:=HR.out.2 k hlt;rw [←hbel.cell (p:=⟨_,_,none⟩) hl]at c0 c1 c2;have hl2:b<wr.heap.size:=Nat.lt_of_lt_of_le hl hbel.size;have h0:(0:Int)≤(k:Int):=by omega
   have h1:(k:Int)<(n:Int):=by omega
   clear hbel hws;have hws:Hid (w.heap.size<wr.heap.size):=HWS.out;go_upto_region 5 with fail
   obtain⟨X,HX⟩: ∃X,Hid (wr.alloc (.cells #[.int .i64 (C k),.int .i64 (R k),.string (S k)] 48)=X):=⟨_,rfl⟩;rw [HX.out];have x0:X.cell? ⟨wr.heap.size,0,none⟩=some (.int .i64 (C k)):=by rw [←HX.out];simp
   have x1:X.cell? ⟨wr.heap.size,1,none⟩=some (.int .i64 (R k)):=by rw [←HX.out];simp
   have x2:X.cell? ⟨wr.heap.size,2,none⟩=some (.string (S k)):=by rw [←HX.out];simp
   have xl:wr.heap.size<X.heap.size:=by rw [←HX.out];simp
   have hbX:Below wr.heap.size wr X:=by rw [←HX.out];exact(Below.refl _ _).alloc (Nat.le_refl _) _
   have BX:=hd (Qc B0.out hbX);have MX:Hid (X.ownsMap Tryz.prog 30 Nc w.heap.size z D):=M0.out.kept (Yx none hbX) (by simp);have EX:=hd (E0.out.below hbX);clear HX hbX c0 c1 c2 M0 E0 B0;go_wp2_with fail
   refine(Hp (S k) _ (HSZ.out k hlt) (HG.out.below BX.out)).mono ?_;rintro e w1 ⟨hb,hf⟩;have B1:=hd (Qc BX.out hb);have M1:Hid (w1.ownsMap Tryz.prog 30 Nc w.heap.size z D):=MX.out.kept (Yx none hb) (by simp);have E1:=hd (EX.out.below hb);replace x0:=(hb.cell (p:=⟨wr.heap.size,0,none⟩) xl).trans x0;replace x1:=(hb.cell (p:=⟨wr.heap.size,1,none⟩) xl).trans x1
   replace xl:=Nat.lt_of_lt_of_le xl hb.size;clear hb BX MX EX x2;rcases hf with⟨h1',rfl⟩ | ⟨o1,A1,c1,h1',h2',rfl,hfr⟩
   ·have HE:Hid (LnS C R S (w.heap.size+1) w1 n (k+1) D):=E1.out.skip (HOF.out k hlt) h1';clear h1';go_wp2_with fail
    go_roundw
    case rel=>exact⟨k+1,z,D,by omega,by omega,by go_num,M1.out,HD.out,HE.out,B1.out,by have:=hws.out;omega⟩
    case measure=>simp [intOf];omega
   ·have HO:Hid (lnF (S k)≠none):=by show _≠_;rw [h1'];exact fun h=>by cases h
    have HLA:Hid (lnA (S k)=arA (ouF o1) o1.length):=by show _=_;unfold lnA;rw [h1']
    obtain⟨hl60,hsm⟩:=Jp h2';have HSM:Hid (∀i,i<o1.length→(ouF o1 i).cs.size≤maxLen∧(ouF o1 i).kids.length≤1048576):=hsm;have HFR:Hid (FnRow w1 A1 o1.length (ouF o1)):=hfr;obtain⟨on,HON⟩: ∃on,Hid (o1.length=on):=⟨_,rfl⟩;rw [HON.out]at HFR HSM hl60 ⊢;clear h1' h2' hsm hfr;go_wp2_with fail
    refine(MP _ HFR.out (by omega) (fun i hi=>(HSM.out i hi).2) (HG.out.below B1.out).gt.ft).mono ?_;rintro e w2 ⟨v,rfl,ho,hb⟩;obtain⟨A2,d2,rfl,_,_⟩:=Qj ho;obtain⟨m2,HM2'⟩: ∃m2,Hid (Mp (ouF o1) on=m2):=⟨_,rfl⟩;obtain⟨e1,e2⟩:=DH (ouF o1) on;rw [HM2'.out]at ho e2 ⊢;rw [←e1]at ho
    rw [HON.out]at HLA;have HM2:Hid ((lnA (S k)).length=m2):=by show _=_;rw [HLA.out];exact e2
    have O2:Hid (w2.ownsRow (w.heap.size+1) 69 4 (.slice A2 m2 d2) m2 (QP arC (lnA (S k)))):=by rw [HLA.out];exact Zl ho (by have:=hws.out;omega)
    have HA2:Hid (ArR w2 A2 m2 (lnA (S k))):=ArR.of_own O2.out HM2.out;have B2:=hd (Qc B1.out hb);have M2:Hid (w2.ownsMap Tryz.prog 30 Nc w.heap.size z D):=M1.out.kept (Yx none hb) (by simp);have E2:=hd (E1.out.below hb);replace x0:=(hb.cell (p:=⟨wr.heap.size,0,none⟩) xl).trans x0;replace x1:=(hb.cell (p:=⟨wr.heap.size,1,none⟩) xl).trans x1;replace xl:=Nat.lt_of_lt_of_le xl hb.size
    have hsw:Hid (w.heap.size<w2.heap.size):=by have:=hws.out;show w.heap.size<w2.heap.size;omega
    clear hb ho e1 e2 B1 M1 E1;go_wp2_with fail
    refine wp_region_held_drew (S:=fun w'=>w'.cell? ⟨wr.heap.size,0,none⟩=some (.int .i64 (C k))∧w'.cell? ⟨wr.heap.size,1,none⟩=some (.int .i64 (R k))∧wr.heap.size<w'.heap.size∧Below w.heap.size w w') (by kernel_rfl) ⟨x0,x1,xl,B2.out.drew⟩ (fun hHeld=> ?_);refine tjA 0 ?_ rfl (by kernel_rfl) (by rfl) ?_ ?_;rotate_left
    ·(intro wq hSw;obtain⟨hq0,hq1,hq2,hq3⟩:=hSw;go_simp<;>with_reducible rfl)
    try simp only [Act.put,List.getElem_toArray,List.getElem_cons_zero,List.getElem_cons_succ,List.setIfInBounds_toArray,List.set_cons_zero,List.set_cons_succ]
    refine tjA 1 ?_ rfl (by kernel_rfl) (by rfl) ?_ ?_;rotate_left
    ·(intro wq hSw;obtain⟨hq0,hq1,hq2,hq3⟩:=hSw;go_simp<;>with_reducible rfl)
    try simp only [Act.put,List.getElem_toArray,List.getElem_cons_zero,List.getElem_cons_succ,List.setIfInBounds_toArray,List.set_cons_zero,List.set_cons_succ]
    refine tjA 2 ?_ rfl (by kernel_rfl) (by rfl) ?_ ?_;rotate_left
    ·(intro wq hSw;obtain⟨hq0,hq1,hq2,hq3⟩:=hSw;go_simp<;>with_reducible rfl)
    try simp only [Act.put,List.getElem_toArray,List.getElem_cons_zero,List.getElem_cons_succ,List.setIfInBounds_toArray,List.set_cons_zero,List.set_cons_succ]
    refine tjA 3 ?_ rfl (by kernel_rfl) (by rfl) ?_ ?_;rotate_left
    ·(intro wq hSw;obtain⟨hq0,hq1,hq2,hq3⟩:=hSw;go_simp<;>with_reducible rfl)
    try simp only [Act.put,List.getElem_toArray,List.getElem_cons_zero,List.getElem_cons_succ,List.setIfInBounds_toArray,List.set_cons_zero,List.set_cons_succ]
    refine tjA 4 ?_ rfl (by kernel_rfl) (by rfl) ?_ ?_;rotate_left
    ·(intro wq hSw;obtain⟨hq0,hq1,hq2,hq3⟩:=hSw;go_simp<;>with_reducible rfl)
    try simp only [Act.put,List.getElem_toArray,List.getElem_cons_zero,List.getElem_cons_succ,List.setIfInBounds_toArray,List.set_cons_zero,List.set_cons_succ]
    refine tjA 5 ?_ rfl (by kernel_rfl) (by rfl) ?_ ?_;rotate_left
    ·(intro wq hSw;obtain⟨hq0,hq1,hq2,hq3⟩:=hSw;go_simp<;>with_reducible rfl)
    try simp only [Act.put,List.getElem_toArray,List.getElem_cons_zero,List.getElem_cons_succ,List.setIfInBounds_toArray,List.set_cons_zero,List.set_cons_succ]
    refine tjA 6 ?_ rfl (by kernel_rfl) (by rfl) ?_ ?_;rotate_left
    ·(intro wq hSw;obtain⟨hq0,hq1,hq2,hq3⟩:=hSw;go_simp<;>with_reducible rfl)
    try simp only [Act.put,List.getElem_toArray,List.getElem_cons_zero,List.getElem_cons_succ,List.setIfInBounds_toArray,List.set_cons_zero,List.set_cons_succ]
    refine rqA 7 (fun Kq hKq=> ?_);go_simp;refine(VT w2.drew (HR.out.below B2.out.drew) (HA2.out.below (Below.refl _ _).drew) hn).mono ?_;rintro e v1 ⟨G,z9,c9,rfl,hz9,ho9,hb⟩;have hb2:Below w2.heap.size w2 v1:=Qc (Below.refl _ _).drew hb;have y0:=(hb2.cell (p:=⟨wr.heap.size,0,none⟩) xl).trans x0;have y1:=(hb2.cell (p:=⟨wr.heap.size,1,none⟩) xl).trans x1
    have yl:wr.heap.size<v1.heap.size:=Nat.lt_of_lt_of_le xl hb2.size;have BV:=hd (Qc B2.out hb2);have MV:Hid (v1.ownsMap Tryz.prog 30 Nc w.heap.size z D):=M2.out.kept (Yx none hb2) (by simp);have EV:=hd (E2.out.below hb2);have AV:=hd (Qe O2.out hb2);have OV:Hid (v1.ownsRow (w.heap.size+1) 30 2 (.slice G z9 c9) z9 (QP rfL (leL C R (lnA (S k)) n))):=Zl ho9 (by have:=hsw.out;show w.heap.size+1≤w2.heap.size;omega);have HZ9:Hid ((leL C R (lnA (S k)) n).length=z9):=hz9
    refine hKq.out _ _ ?_ (fun hHeld=> ?_)
    ·exact⟨y0,y1,yl,BV.out⟩
    clear hKq Kq hb hb2 ho9 hz9 M2 E2 O2;try simp only [Act.put,List.getElem_toArray,List.getElem_cons_zero,List.getElem_cons_succ,List.setIfInBounds_toArray,List.set_cons_zero,List.set_cons_succ]
    refine tjA 8 ?_ rfl (by kernel_rfl) (by rfl) ?_ ?_;rotate_left
    ·(intro wq hSw;obtain⟨hq0,hq1,hq2,hq3⟩:=hSw;go_simp<;>with_reducible rfl)
    try simp only [Act.put,List.getElem_toArray,List.getElem_cons_zero,List.getElem_cons_succ,List.setIfInBounds_toArray,List.set_cons_zero,List.set_cons_succ]
    refine rqA 9 (fun Kq hKq=> ?_);refine Qa1 (by rfl) _ _ _ 55 (by rfl) 30 53 keyedRef Tryz.underlying55 Nc w.heap.size z D (by rfl) MV.out (by unfold maxLen;omega) _ (.agg #[.slice A1 on c1,.slice A2 m2 d2,.slice G z9 c9]) (kl k) (by rfl) (by rfl) (HK.out k hlt) _ [] rfl ?_;intro v2 ho2 hg2;have hne:wr.heap.size≠w.heap.size:=by have:=hws.out;omega
    have t0:=hg2.cell y0 (fun e=>hne (Option.some.inj e));have t1:=hg2.cell y1 (fun e=>hne (Option.some.inj e));have BV2:Hid (Below w.heap.size w v2):=BV.out.grown hg2 BV.out.size (fun j hj=>by cases hj;exact Nat.le_refl _);have HDP:Hid (IsMap (D.put (kl k) (.held (.agg #[.slice A1 on c1,.slice A2 m2 d2,.slice G z9 c9])))):=by obtain⟨es,rfl⟩:=HD.out;exact⟨_,rfl⟩
    have E9:Hid (LnS C R S (w.heap.size+1) v2 n (k+1) (D.put (kl k) (.held (.agg #[.slice A1 on c1,.slice A2 m2 d2,.slice G z9 c9])))):=LnS.put HD.out (HK.out k hlt) (EV.out.kept hg2 (Nat.lt_succ_self _)) ⟨_,A2,m2,d2,G,z9,c9,rfl,HM2.out,AV.out.kept hg2 (Gj AV.out (Nat.lt_succ_self _)),HZ9.out,OV.out.kept hg2 (Gj OV.out (Nat.lt_succ_self _))⟩ HO.out;refine hKq.out _ _ ?_ (fun hHeld=> ?_)
    ·exact⟨t0,t1,Nat.lt_of_lt_of_le yl hg2.size,BV2.out⟩
    clear hKq Kq;try simp only [Act.put,List.getElem_toArray,List.getElem_cons_zero,List.getElem_cons_succ,List.setIfInBounds_toArray,List.set_cons_zero,List.set_cons_succ]
    refine wpAnyH_done (by kernel_rfl) ?_ _;go_wp2_with fail
    go_roundw
    case rel=>exact⟨k+1,z+1,_,by omega,by omega,by go_num,ho2,HDP.out,E9.out,BV2.out,by have:=hws.out;have:=hg2.size;omega⟩
    case measure=>simp [intOf];omega
  ·have h1: ¬(k:Int)<(n:Int):=by omega
   obtain rfl:k=n:=by omega
   go_wp2_with fail
   go_ret;exact⟨rfl,⟨z,hz,D,M0.out,E0.out⟩,hbel⟩
theorem Vm {A:Option Addr} {n cap:Nat} {C R:Nat→Int} {S:Nat→ByteArray} (p q:Int) (w:World) (h:ClRow w A n C R S) (hg:GI w) (hp:(Lit.int .i64 p).wf=true) (hq:(Lit.int .i64 q).wf=true):
  Calls Tryz.prog 10 #[.slice A n cap,.agg #[.int .i64 p,.int .i64 q]] w fun e w'=> ∃F z c,e= .returned (.slice F z c)∧(lnR C R S n p q).length=z∧w'.ownsRow w.heap.size 30 2 (.slice F z c) z (QP rfL (lnR C R S n p q))∧Below w.heap.size w w':=by
 have HR:Hid (ClRow w A n C R S):=h;have HG:Hid (GI w):=hg;obtain⟨l,hl⟩:=ET p q hp hq;have HKL:Hid (keyOf Tryz.prog 30 (.agg #[.int .i64 p,.int .i64 q])=some l):=hl;clear h hg hl;go_enter Tryz.func10,Tryz.ntmps10;go_upto_region 1 with fail
 obtain⟨X,HX⟩: ∃X,Hid (w.alloc (.cells #[.int .i64 p,.int .i64 q] 30)=X):=⟨_,rfl⟩;rw [HX.out];have x0:X.cell? ⟨w.heap.size,0,none⟩=some (.int .i64 p):=by rw [←HX.out];simp
 have x1:X.cell? ⟨w.heap.size,1,none⟩=some (.int .i64 q):=by rw [←HX.out];simp
 have xl:w.heap.size<X.heap.size:=by rw [←HX.out];simp
 have BX:Hid (Below w.heap.size w X):=by show Below _ _ _;rw [←HX.out];exact(Below.refl _ _).alloc (Nat.le_refl _) _
 clear HX;go_wp2_with fail
 refine(MM _ (HR.out.below BX.out) (HG.out.below BX.out)).mono ?_;rintro e w1 ⟨rfl,hb⟩;have B1:=hd (Qc BX.out hb);replace x0:=(hb.cell (p:=⟨w.heap.size,0,none⟩) xl).trans x0;replace x1:=(hb.cell (p:=⟨w.heap.size,1,none⟩) xl).trans x1;replace xl:=Nat.lt_of_lt_of_le xl hb.size;clear hb BX
 cases hok:Zg C R S n
 ·have HE:Hid (lnR C R S n p q= []):=by show _=_;unfold lnR;rw [hok];rfl
  clear hok;go_wp2_with fail
  go_ret;exact⟨none,0,0,rfl,by rw [HE.out];rfl,by rw [HE.out];exact World.ownsRow_nil _ _ _ _,B1.out⟩
 ·have HE:Hid (lnR C R S n p q=leL C R (lnA (Yf C R S p q n)) n):=by show _=_;unfold lnR;rw [hok,if_pos rfl]
  have HOK:Hid (Zg C R S n=true):=hok;clear hok;go_wp2_with fail
  refine wp_region_held_drew (S:=fun w'=>w'.cell? ⟨w.heap.size,0,none⟩=some (.int .i64 p)∧w'.cell? ⟨w.heap.size,1,none⟩=some (.int .i64 q)∧Below w.heap.size w w') (by kernel_rfl) ⟨x0,x1,B1.out.drew⟩ (fun hHeld=> ?_);refine tjA 0 ?_ rfl (by kernel_rfl) (by rfl) ?_ ?_;rotate_left
  ·(intro wq hSw;obtain⟨hq0,hq1,hq3⟩:=hSw;go_simp<;>with_reducible rfl)
  try simp only [Act.put,List.getElem_toArray,List.getElem_cons_zero,List.getElem_cons_succ,List.setIfInBounds_toArray,List.set_cons_zero,List.set_cons_succ]
  refine tjA 2 ?_ rfl (by kernel_rfl) (by rfl) ?_ ?_;rotate_left
  ·(intro wq hSw;obtain⟨hq0,hq1,hq3⟩:=hSw;go_simp<;>with_reducible rfl)
  try simp only [Act.put,List.getElem_toArray,List.getElem_cons_zero,List.getElem_cons_succ,List.setIfInBounds_toArray,List.set_cons_zero,List.set_cons_succ]
  refine rqA 1 (fun Kq hKq=> ?_);go_simp;refine(Kz w1.drew (HR.out.below B1.out.drew) HOK.out (HG.out.below B1.out.drew)).mono ?_;rintro e v1 ⟨rfl,⟨z,D,hz,hm,hs⟩,hb⟩;have hb2:Below w1.heap.size w1 v1:=Qc (Below.refl _ _).drew hb;have y0:=(hb2.cell (p:=⟨w.heap.size,0,none⟩) xl).trans x0;have y1:=(hb2.cell (p:=⟨w.heap.size,1,none⟩) xl).trans x1
  have BV:=hd (Qc B1.out hb2);obtain⟨v,F,zz,c,hrun,hfl,hln,hown⟩:=Qh0 hm hs HKL.out;have OV:Hid (v1.ownsRow w.heap.size 30 2 (.slice F zz c) zz (QP rfL (leL C R (lnA (Yf C R S p q n)) n))):=Zl hown (by have:=B1.out.size;show w.heap.size≤w1.heap.size+1;omega);rw [World.size_drew]at hrun;have hfv:=hfl v1;have HLN:Hid ((leL C R (lnA (Yf C R S p q n)) n).length=zz):=hln;refine hKq.out _ _ ?_ (fun hHeld=> ?_)
  ·exact⟨y0,y1,BV.out⟩
  clear hKq Kq hb hb2 hm hs hown hln;try simp only [Act.put,List.getElem_toArray,List.getElem_cons_zero,List.getElem_cons_succ,List.setIfInBounds_toArray,List.set_cons_zero,List.set_cons_succ]
  refine rqA 3 (fun Kq hKq=> ?_);go_simp;refine hKq.out _ _ ?_ (fun hHeld=> ?_)
  ·exact⟨y0,y1,BV.out⟩
  clear hKq Kq;try simp only [Act.put,List.getElem_toArray,List.getElem_cons_zero,List.getElem_cons_succ,List.setIfInBounds_toArray,List.set_cons_zero,List.set_cons_succ]
  refine rqA 4 (fun Kq hKq=> ?_);go_simp;refine hKq.out _ _ ?_ (fun hHeld=> ?_)
  ·exact⟨y0,y1,BV.out⟩
  clear hKq Kq;try simp only [Act.put,List.getElem_toArray,List.getElem_cons_zero,List.getElem_cons_succ,List.setIfInBounds_toArray,List.set_cons_zero,List.set_cons_succ]
  refine tjA 5 ?_ rfl (by kernel_rfl) (by rfl) ?_ ?_;rotate_left
  ·(intro wq hSw;obtain⟨hq0,hq1,hq3⟩:=hSw;go_simp<;>with_reducible rfl)
  try simp only [Act.put,List.getElem_toArray,List.getElem_cons_zero,List.getElem_cons_succ,List.setIfInBounds_toArray,List.set_cons_zero,List.set_cons_succ]
  refine wpAnyH_done (by kernel_rfl) ?_ _;go_wp2_with fail
  go_ret;exact⟨F,zz,c,rfl,by rw [HE.out];exact HLN.out,by rw [HE.out];exact OV.out,BV.out⟩
theorem cyL {W w':World} {b o:Nat} {x:Value} (hb:Below W.heap.size W w') (c:W.cell? ⟨b,o,none⟩=some x):w'.cell? ⟨b,o,none⟩=some x:=
 (hb.cell (p:=⟨b,o,none⟩) (World.block_lt_of_cell? W ⟨b,o,none⟩ c)).trans c
theorem Qg3 (L:List (Int × Int)): ∀j,j<L.length*2→ ∃z,(QP rfL L)[j]? =some (.int .i64 z):=fun j hj=>by
 have h1:=XH Qg4 (j%2) (by omega) L (j/2);rw [show j/2*2+j%2=j by omega]at h1;rw [h1,List.getElem?_eq_getElem (by omega:j/2<L.length)];rcases(show j%2=0∨j%2=1 by omega)with e | e
 ·rw [e];exact⟨_,rfl⟩
 ·rw [e];exact⟨_,rfl⟩
theorem Qbf {W:World} {B n:Nat} {e:TypeId} {s:Nat} {v v':Value} {xs:List Value} (h:W.ownsRow B e s v n xs) (hb: ∀k,v'.ownBlock=some k→k<B):v'.ownBlock=none∨v'.ownBlock≠v.ownBlock:=by
 cases hv:v'.ownBlock with
 | none=>exact Or.inl rfl
 | some g=>
  right
  intro e;have h1:=hb g hv;have h2:=(h.lt g e.symm).1;omega
theorem Qh1 {C R:Nat→Int} {S:Nat→ByteArray} {n:Nat} {p q:Int}:(lnR C R S n p q).length≤120:=by
 unfold lnR;split
 ·rename_i h
  exact Nat.le_trans (Gp _ _ _ _) (Vf h).1
 ·exact Nat.zero_le _
theorem DN (A:Option Addr) (n cap:Nat) (C R:Nat→Int) (S:Nat→ByteArray) (p q:Int) (w:World) (h:ClRow w A n C R S) (hp:(Lit.int .i64 p).wf=true) (hq:(Lit.int .i64 q).wf=true) (hg:GI w):Calls Tryz.prog 3 #[.slice A n cap,.agg #[.int .i64 p,.int .i64 q]] w fun e w'=>
  e= .returned (.bool true)∧Below w.heap.size w w':=by
 have HR:Hid (ClRow w A n C R S):=h;have HS:Hid (∀i,i<n→(S i).size≤maxLen):=fun i hi=>by obtain⟨_,_,_,_,_,_,_,hs⟩:=h.2 i hi;exact hs
 have HG:Hid (GI w):=hg;have HP:Hid ((Lit.int .i64 p).wf=true):=hp;have HQ:Hid ((Lit.int .i64 q).wf=true):=hq;obtain⟨L,HL⟩: ∃L,Hid (lnR C R S n p q=L):=⟨_,rfl⟩;obtain⟨z,HZ⟩: ∃z,Hid (L.length=z):=⟨_,rfl⟩;have hz120:z≤120:=by rw [←HZ.out,←HL.out];exact Qh1
 have HXI:Hid (∀j,j<z*2→ ∃y,(QP rfL L)[j]? =some (.int .i64 y)):=by rw [←HZ.out];exact Qg3 L
 clear h hg hp hq;go_enter Tryz.func3,Tryz.ntmps3;go_upto_region 2 with fail
 obtain⟨u0,HU⟩: ∃u0,Hid (w.alloc (.cells #[.int .i64 p,.int .i64 q] 24)=u0):=⟨_,rfl⟩;rw [HU.out];have a0:u0.cell? ⟨w.heap.size,0,none⟩=some (.int .i64 p):=by rw [←HU.out];simp
 have a1:u0.cell? ⟨w.heap.size,1,none⟩=some (.int .i64 q):=by rw [←HU.out];simp
 have KX:Hid (Below w.heap.size w u0):=by show Below _ _ _;rw [←HU.out];exact(Below.refl _ _).alloc (Nat.le_refl _) _
 clear HU;go_wp2_with fail
 refine(MG _ (HR.out.below KX.out)).mono ?_;rintro e u1 ⟨l,rfl,hl,hb⟩;replace KX:=hd (Qc KX.out hb);replace a0:=cyL hb a0;replace a1:=cyL hb a1;clear hb;by_cases hneg:l<0
 ·go_wp2_with fail
  go_ret;exact⟨rfl,KX.out⟩
 have HN:Hid (n≤1048576):=hl (by omega);have hn:n≤1048576:=HN.out;clear hl;go_wp2_with fail
 refine wp_region_held_drew (S:=fun w'=>w'.cell? ⟨w.heap.size,0,none⟩=some (.int .i64 p)∧w'.cell? ⟨w.heap.size,1,none⟩=some (.int .i64 q)) (by kernel_rfl) ⟨a0,a1⟩ (fun hHeld=> ?_);refine tjA 0 ?_ rfl (by kernel_rfl) (by rfl) ?_ ?_;rotate_left
 ·(intro wq hSw;obtain⟨hq0,hq1⟩:=hSw;go_simp<;>with_reducible rfl)
 try simp only [Act.put,List.getElem_toArray,List.getElem_cons_zero,List.getElem_cons_succ,List.setIfInBounds_toArray,List.set_cons_zero,List.set_cons_succ]
 refine tjA 2 ?_ rfl (by kernel_rfl) (by rfl) ?_ ?_;rotate_left
 ·(intro wq hSw;obtain⟨hq0,hq1⟩:=hSw;go_simp<;>with_reducible rfl)
 try simp only [Act.put,List.getElem_toArray,List.getElem_cons_zero,List.getElem_cons_succ,List.setIfInBounds_toArray,List.set_cons_zero,List.set_cons_succ]
 refine rqA 1 (fun Kq hKq=> ?_);go_simp;have K0:Below u1.heap.size u1 u1.drew:=(Below.refl _ _).drew;refine(YE u1.drew (HR.out.below (Qc KX.out K0)) HN.out).mono ?_;rintro e y1 ⟨v,rfl,ho,hb⟩;obtain⟨Ay,cy,rfl,_,_⟩:=Qj ho;have RY:Hid (ClRow y1 Ay n C R S):=Xl ho HS.out
 replace K0:Below u1.heap.size u1 y1:=Qc K0 hb;refine hKq.out _ _ ?_ (fun hHeld=> ?_)
 ·exact⟨cyL K0 a0,cyL K0 a1⟩
 clear hKq Kq hb ho;try simp only [Act.put,List.getElem_toArray,List.getElem_cons_zero,List.getElem_cons_succ,List.setIfInBounds_toArray,List.set_cons_zero,List.set_cons_succ]
 refine rqA 3 (fun Kq hKq=> ?_);go_simp;refine(XA _ _ _).mono ?_;rintro e y2 ⟨rfl,hb⟩;replace RY:=hd (RY.out.below hb);replace K0:Below u1.heap.size u1 y2:=Qc K0 hb;refine hKq.out _ _ ?_ (fun hHeld=> ?_)
 ·exact⟨cyL K0 a0,cyL K0 a1⟩
 clear hKq Kq hb;try simp only [Act.put,List.getElem_toArray,List.getElem_cons_zero,List.getElem_cons_succ,List.setIfInBounds_toArray,List.set_cons_zero,List.set_cons_succ]
 refine rqA 4 (fun Kq hKq=> ?_);go_simp;refine(MD p q _ RY.out).mono ?_;rintro e y3 ⟨F0,zz,c0,rfl,hz0,ho,hb⟩;rw [HL.out]at hz0 ho;obtain rfl:z=zz:=by rw [←HZ.out];exact hz0
 have OR:=hd (Zl ho K0.size);replace K0:Below u1.heap.size u1 y3:=Qc K0 hb;refine hKq.out _ _ ?_ (fun hHeld=> ?_)
 ·exact⟨cyL K0 a0,cyL K0 a1⟩
 clear hKq Kq hb ho hz0 RY;try simp only [Act.put,List.getElem_toArray,List.getElem_cons_zero,List.getElem_cons_succ,List.setIfInBounds_toArray,List.set_cons_zero,List.set_cons_succ]
 refine tjA 5 ?_ rfl (by kernel_rfl) (by rfl) ?_ ?_;rotate_left
 ·(intro wq hSw;obtain⟨hq0,hq1⟩:=hSw;go_simp<;>with_reducible rfl)
 try simp only [Act.put,List.getElem_toArray,List.getElem_cons_zero,List.getElem_cons_succ,List.setIfInBounds_toArray,List.set_cons_zero,List.set_cons_succ]
 refine wpAnyH_done (by kernel_rfl) ?_ _;clear hHeld;replace KX:=hd (Qc KX.out K0);replace a0:=cyL K0 a0;replace a1:=cyL K0 a1;clear K0;have a0y3:Hid (y3.cell? ⟨w.heap.size,0,none⟩=some (.int .i64 p)):=a0
 have BOR:Hid (∀k,(Value.slice F0 z c0).ownBlock=some k→k<y3.heap.size):=fun k hk=>(OR.out.lt k hk).2;go_wp2_with fail
 refine(YE _ (HR.out.below KX.out) HN.out).mono ?_;rintro e u2 ⟨v,rfl,ho,hb⟩;obtain⟨Ax,cx,rfl,_,_⟩:=Qj ho;have OX:Hid (u2.ownsRow y3.heap.size 48 3 (.slice Ax n cx) n (clX C R S n)):=ho;clear ho;replace KX:=hd (Qc KX.out hb);replace OR:=hd (Qe OR.out hb)
 replace a0:=cyL hb a0;replace a1:=cyL hb a1;clear hb;go_wp2_with fail
 refine(XA _ _ _).mono ?_;rintro e u3 ⟨rfl,hb⟩;replace KX:=hd (Qc KX.out hb);replace OR:=hd (Qe OR.out hb);replace OX:=hd (Qe OX.out hb);replace a0:=cyL hb a0;replace a1:=cyL hb a1
 clear hb;go_wp2_with fail
 refine(Vm p q _ (Xl OX.out HS.out) (HG.out.below KX.out) HP.out HQ.out).mono ?_;rintro e u4 ⟨F1,zz,c1,rfl,hz1,ho,hb⟩;rw [HL.out]at hz1 ho;obtain rfl:z=zz:=by rw [←HZ.out];exact hz1
 have OG:Hid (u4.ownsRow u3.heap.size 30 2 (.slice F1 z c1) z (QP rfL L)):=ho;clear ho hz1;have a0u3:Hid (u3.cell? ⟨w.heap.size,0,none⟩=some (.int .i64 p)):=a0;have BOR3:Hid (∀k,(Value.slice F0 z c0).ownBlock=some k→k<u3.heap.size):=fun k hk=>(OR.out.lt k hk).2;replace KX:=hd (Qc KX.out hb);replace OR:=hd (Qe OR.out hb);replace OX:=hd (Qe OX.out hb)
 replace a0:=cyL hb a0;replace a1:=cyL hb a1;clear hb;go_wp2_with fail
 refine(Ja _ OG.out OR.out HXI.out).mono ?_;rintro e u5 ⟨rfl,hb⟩;replace KX:=hd (Qc KX.out hb);replace OR:=hd (Qe OR.out hb);replace OX:=hd (Qe OX.out hb);replace OG:=hd (Qe OG.out hb);replace a0:=cyL hb a0
 replace a1:=cyL hb a1;clear hb;go_wp2_with fail
 refine(YE _ (HR.out.below KX.out) HN.out).mono ?_;rintro e u6 ⟨v,rfl,ho,hb⟩;obtain⟨At,ct,rfl,_,_⟩:=Qj ho;have RT:Hid (ClRow u6 At n C R S):=Xl ho HS.out;clear ho;replace KX:=hd (Qc KX.out hb);replace OR:=hd (Qe OR.out hb)
 replace OX:=hd (Qe OX.out hb);replace OG:=hd (Qe OG.out hb);replace a0:=cyL hb a0;replace a1:=cyL hb a1;clear hb;go_wp2_with fail
 refine(MH _ (Xl OX.out HS.out) RT.out).mono ?_;rintro e u7 ⟨rfl,hb⟩;clear RT;replace KX:=hd (Qc KX.out hb);replace OR:=hd (Qe OR.out hb);replace OX:=hd (Qe OX.out hb);replace OG:=hd (Qe OG.out hb)
 replace a0:=cyL hb a0;replace a1:=cyL hb a1;clear hb;go_wp2_with fail
 refine(Hl 1 _ OX.out hn (by omega) (by omega)).mono ?_;rintro e u8 ⟨rfl,hog,hgr⟩;have hbx: ∀k,(Value.slice Ax n cx).ownBlock=some k→w.heap.size<k:=fun k hk=>Nat.lt_of_lt_of_le (World.block_lt_of_cell? _ ⟨w.heap.size,0,none⟩ a0y3.out) (OX.out.lt k hk).1;replace KX:=hd (KX.out.grown hgr KX.out.size (fun k hk=>Nat.le_of_lt (hbx k hk)));replace OR:Hid (u8.ownsRow u1.heap.size 30 2 (.slice F0 z c0) z (QP rfL L)):=OR.out.kept hgr (Kk OR.out OX.out (by decide));replace OG:Hid (u8.ownsRow u3.heap.size 30 2 (.slice F1 z c1) z (QP rfL L)):=OG.out.kept hgr (Kk OG.out OX.out (by decide));replace a0:=hgr.cell a0 (fun e=>Nat.lt_irrefl _ (hbx _ e.symm))
 replace a1:=hgr.cell a1 (fun e=>Nat.lt_irrefl _ (hbx _ e.symm));clear hog hgr hbx OX;obtain⟨mk,HMK⟩: ∃mk:Int,Hid ((1+(n:Int)*3)=mk):=⟨_,rfl⟩;have hmk: ¬mk<0:=by have:=HMK.out;omega
 rw [HMK.out];go_wp2_with fail
 refine(Ja _ OG.out OR.out HXI.out).mono ?_;rintro e u9 ⟨rfl,hb⟩;replace KX:=hd (Qc KX.out hb);replace OR:=hd (Qe OR.out hb);replace OG:=hd (Qe OG.out hb);replace a0:=cyL hb a0;replace a1:=cyL hb a1
 clear hb;go_wp2_with fail
 refine(Ur 1 _ OG.out (by omega) (by omega) (by omega)).mono ?_;rintro e ua ⟨rfl,⟨ys,hog,hyz⟩,hgr⟩;have hbg: ∀k,(Value.slice F1 z c1).ownBlock=some k→w.heap.size<k:=fun k hk=>Nat.lt_of_lt_of_le (World.block_lt_of_cell? _ ⟨w.heap.size,0,none⟩ a0u3.out) (OG.out.lt k hk).1;replace KX:=hd (KX.out.grown hgr KX.out.size (fun k hk=>Nat.le_of_lt (hbg k hk)));replace OR:Hid (ua.ownsRow u1.heap.size 30 2 (.slice F0 z c0) z (QP rfL L)):=OR.out.kept hgr (Qbf OG.out BOR3.out);replace a0:=hgr.cell a0 (fun e=>Nat.lt_irrefl _ (hbg _ e.symm));replace a1:=hgr.cell a1 (fun e=>Nat.lt_irrefl _ (hbg _ e.symm))
 replace OG:Hid (ua.ownsRow u3.heap.size 30 2 (.slice F1 z c1) z ys):=hog;have HYZ:Hid (∀j,j<z*2→ys[j]? =some (.int .i64 (1+(j:Nat)))):=hyz;clear hog hgr hyz hbg;obtain⟨mw,HMW⟩: ∃mw:Int,Hid ((1+((z*2:Nat):Int))=mw):=⟨_,rfl⟩;have hmw0: ¬mw<0:=by have:=HMW.out;omega
 have hmw1:(mw !=mw)=false:=by simp
 rw [HMW.out];go_wp2_with fail
 refine(JJ 1 _ OG.out HYZ.out (by omega) (by omega) (by omega)).mono ?_;rintro e ub ⟨rfl,hb⟩;replace KX:=hd (Qc KX.out hb);replace OR:=hd (Qe OR.out hb);replace OG:=hd (Qe OG.out hb);replace a0:=cyL hb a0;replace a1:=cyL hb a1
 clear hb;rw [HMW.out];go_wp2_with fail
 refine wp_region_held_drew (S:=fun w'=>w'.cell? ⟨w.heap.size,0,none⟩=some (.int .i64 p)∧w'.cell? ⟨w.heap.size,1,none⟩=some (.int .i64 q)) (by kernel_rfl) ⟨a0,a1⟩ (fun hHeld=> ?_);refine tjA 0 ?_ rfl (by kernel_rfl) (by rfl) ?_ ?_;rotate_left
 ·(intro wq hSw;obtain⟨hq0,hq1⟩:=hSw;go_simp<;>with_reducible rfl)
 try simp only [Act.put,List.getElem_toArray,List.getElem_cons_zero,List.getElem_cons_succ,List.setIfInBounds_toArray,List.set_cons_zero,List.set_cons_succ]
 refine tjA 2 ?_ rfl (by kernel_rfl) (by rfl) ?_ ?_;rotate_left
 ·(intro wq hSw;obtain⟨hq0,hq1⟩:=hSw;go_simp<;>with_reducible rfl)
 try simp only [Act.put,List.getElem_toArray,List.getElem_cons_zero,List.getElem_cons_succ,List.setIfInBounds_toArray,List.set_cons_zero,List.set_cons_succ]
 refine rqA 1 (fun Kq hKq=> ?_);go_simp;have K0:Below ub.heap.size ub ub.drew:=(Below.refl _ _).drew;refine(YE ub.drew (HR.out.below (Qc KX.out K0)) HN.out).mono ?_;rintro e y1 ⟨v,rfl,ho,hb⟩;obtain⟨Ay,cy,rfl,_,_⟩:=Qj ho;have RY:Hid (ClRow y1 Ay n C R S):=Xl ho HS.out
 replace K0:Below ub.heap.size ub y1:=Qc K0 hb;refine hKq.out _ _ ?_ (fun hHeld=> ?_)
 ·exact⟨cyL K0 a0,cyL K0 a1⟩
 clear hKq Kq hb ho;try simp only [Act.put,List.getElem_toArray,List.getElem_cons_zero,List.getElem_cons_succ,List.setIfInBounds_toArray,List.set_cons_zero,List.set_cons_succ]
 refine rqA 3 (fun Kq hKq=> ?_);go_simp;refine(XA _ _ _).mono ?_;rintro e y2 ⟨rfl,hb⟩;replace RY:=hd (RY.out.below hb);replace K0:Below ub.heap.size ub y2:=Qc K0 hb;refine hKq.out _ _ ?_ (fun hHeld=> ?_)
 ·exact⟨cyL K0 a0,cyL K0 a1⟩
 clear hKq Kq hb;try simp only [Act.put,List.getElem_toArray,List.getElem_cons_zero,List.getElem_cons_succ,List.setIfInBounds_toArray,List.set_cons_zero,List.set_cons_succ]
 refine rqA 4 (fun Kq hKq=> ?_);go_simp;refine(Vm p q _ RY.out (HG.out.below (Qc KX.out K0)) HP.out HQ.out).mono ?_;rintro e y3 ⟨F2,zz,c2,rfl,hz0,ho,hb⟩;rw [HL.out]at hz0 ho;obtain rfl:z=zz:=by rw [←HZ.out];exact hz0
 have OH:=hd (Zl ho K0.size);replace K0:Below ub.heap.size ub y3:=Qc K0 hb;refine hKq.out _ _ ?_ (fun hHeld=> ?_)
 ·exact⟨cyL K0 a0,cyL K0 a1⟩
 clear hKq Kq hb ho hz0 RY;try simp only [Act.put,List.getElem_toArray,List.getElem_cons_zero,List.getElem_cons_succ,List.setIfInBounds_toArray,List.set_cons_zero,List.set_cons_succ]
 refine tjA 5 ?_ rfl (by kernel_rfl) (by rfl) ?_ ?_;rotate_left
 ·(intro wq hSw;obtain⟨hq0,hq1⟩:=hSw;go_simp<;>with_reducible rfl)
 try simp only [Act.put,List.getElem_toArray,List.getElem_cons_zero,List.getElem_cons_succ,List.setIfInBounds_toArray,List.set_cons_zero,List.set_cons_succ]
 refine wpAnyH_done (by kernel_rfl) ?_ _;clear hHeld;replace KX:=hd (Qc KX.out K0);replace OR:=hd (Qe OR.out K0);replace OG:=hd (Qe OG.out K0);clear K0 a0 a1;go_wp2_with fail
 refine(Ja _ OH.out OR.out HXI.out).mono ?_;rintro e uc ⟨rfl,hb⟩;replace KX:=hd (Qc KX.out hb);replace OR:=hd (Qe OR.out hb);replace OG:=hd (Qe OG.out hb);clear hb;go_wp2_with fail
 refine(JJ 1 _ OG.out HYZ.out (by omega) (by omega) (by omega)).mono ?_;rintro e ud ⟨rfl,hb⟩;replace KX:=hd (Qc KX.out hb);clear hb;rw [HMW.out];go_wp2_with fail
 go_ret;exact⟨rfl,KX.out⟩
end Go.Proofs.YtekcnhfkmimodaaGreatDoor
