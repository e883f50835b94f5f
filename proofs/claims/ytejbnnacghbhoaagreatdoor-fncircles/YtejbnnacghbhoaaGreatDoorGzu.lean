import Derived.Test.YtejbnnacghbhoaaGreatDoorMn
import Derived.Test.YtejbnnacghbhoaaGreatDoorGzt
import Derived.Test.YtejbnnacghbhoaaGreatDoorGzs
import Derived.Test.YtejbnnacghbhoaaGreatDoorGze
set_option linter.unusedSimpArgs false
set_option linter.unusedVariables false
set_option maxHeartbeats 8000000
set_option maxRecDepth 100000
namespace Go.Proofs.YtejbnnacghbhoaaGreatDoor
open Go.RowKit Go.Maps
theorem Qiv {L:List AR} {f:AR→Bool} {j:Nat} {x:AR} (hj:j<L.length) (hx:L.getD j (0,0,0,0)=x):(L.take (j+1)).any f=((L.take j).any f || f x):=by
 rw [List.getD_eq_getElem?_getD,List.getElem?_eq_getElem hj]at hx;have hx:L[j]=x:=hx;rw [List.take_add_one,List.getElem?_eq_getElem hj,hx,List.any_append];simp
theorem Jd {A:Option Addr} {n cap:Nat} {C R:Nat→Int} {S:Nat→ByteArray} (p q:Int) (w:World) (h:ClRow w A n C R S) (hn:n≤120) (hrs:Yv C R n=true) (hsz:(Yy C R S p q n).size≤200):
  Calls Tryz.prog 42 #[.slice A n cap,.agg #[.int .i64 p,.int .i64 q]] w fun e w'=> ∃F z c,e= .returned (.slice F z c)∧(leL C R (lnA (Yy C R S p q n)) n).length=z∧w'.ownsRow w.heap.size 26 2 (.slice F z c) z (QC rfL (leL C R (lnA (Yy C R S p q n)) n))∧Below w.heap.size w w':=by
 have HR:Hid (ClRow w A n C R S):=h;have HRS:Hid (Yv C R n=true):=hrs;obtain⟨s,HS⟩: ∃s,Hid (Yy C R S p q n=s):=⟨_,rfl⟩;rw [HS.out]at hsz ⊢;obtain⟨L,HL⟩: ∃L,Hid (lnA s=L):=⟨_,rfl⟩;rw [HL.out];clear h hrs
 go_enter Tryz.func42,Tryz.ntmps42;go_upto_region 2 with fail
 obtain⟨X,HX⟩: ∃X,Hid ((w.alloc (.cells #[.int .i64 p,.int .i64 q] 26)).alloc (.cells #[] 26)=X):=⟨_,rfl⟩;rw [HX.out];have x0:X.cell? ⟨w.heap.size,0,none⟩=some (.int .i64 p):=by rw [←HX.out];simp
 have x1:X.cell? ⟨w.heap.size,1,none⟩=some (.int .i64 q):=by rw [←HX.out];simp
 have xl:w.heap.size<X.heap.size:=by rw [←HX.out];simp;omega
 have BX:Hid (Below w.heap.size w X):=by show Below _ _ _;rw [←HX.out];exact((Below.refl _ _).alloc (Nat.le_refl _) _).alloc (by simp) _
 have OX:Hid (X.ownsRow w.heap.size 26 2 (.slice (some ⟨w.heap.size+1,0,none⟩) 0 0) 0 []):=by show World.ownsRow _ _ _ _ _ _ _;rw [←HX.out];exact Ki (by simp) (by simp)
 clear HX;go_wp2_with fail
 refine(Qee p q _ (HR.out.below BX.out) HRS.out).mono ?_;rintro e w1 ⟨rfl,hb⟩;rw [HS.out];have B1:=hd (Qc BX.out hb);have O1:=hd (Qi OX.out hb);clear hb OX BX x0 x1 xl;go_wp2_with fail
 refine(Oh s _ hsz).mono ?_;rintro e w2 ⟨A2,m,c2,rfl,hml,har,h60,hb⟩;rw [HL.out]at hml har;have HM:Hid (L.length=m):=hml;have HAR:=hd (ZP har B1.out.size);have B2:=hd (Qc B1.out hb);have O2:=hd (Qi O1.out hb)
 have HR2:=hd (HR.out.below B2.out);clear har hml hb O1 B1;go_wp2_with fail
 go_loopw [5,7] (fun v i wr=> ∃(k:Nat) (F:Option Addr) (z c:Nat),k≤n∧v= .slice F z c∧(leL C R L k).length=z∧i= .int .i64 k∧wr.ownsRow w.heap.size 26 2 (.slice F z c) z (QC rfL (leL C R L k))∧Below w.heap.size w wr∧ClRow wr A n C R S∧wr.ownsRow w.heap.size 118 4 (.slice A2 m c2) m (QC arC L)) (fun _ i _=>n-(intOf i).toNat)
 case atStart=>exact⟨0,_,0,0,Nat.zero_le _,rfl,rfl,rfl,O2.out,B2.out,HR2.out,HAR.out⟩
 case round=>
  obtain⟨k,F,z,c,hk,rfl,hzl,rfl,hown,hbel,hcl,har⟩:=hrel;have OW:Hid (wr.ownsRow w.heap.size 26 2 (.slice F z c) z (QC rfL (leL C R L k))):=hown;have HZL:Hid ((leL C R L k).length=z):=hzl;have BL:Hid (Below w.heap.size w wr):=hbel;have HC:Hid (ClRow wr A n C R S):=hcl;have HAO:Hid (wr.ownsRow w.heap.size 118 4 (.slice A2 m c2) m (QC arC L)):=har;have HA:Hid (ArR wr A2 m L):=ArR.of_own har HM.out
  have hz120:z≤120:=by rw [←hzl];exact Nat.le_trans (UM C R L k) (by omega)
  clear hown hzl hbel hcl har;by_cases hlt:k<n
  ·obtain⟨b,o,rfl,hl,c0,c1,c2',_⟩:=HC.out.2 k hlt;have h0:(0:Int)≤(k:Int):=by omega
   have h1:(k:Int)<(n:Int):=by omega
   go_wp2_with fail
   obtain⟨wo,HWO⟩: ∃wo,wo=wr:=⟨_,rfl⟩;subst HWO;go_loopw [8,9] (fun d i wi=> ∃j:Nat,j≤m∧d= .bool ((L.take j).any (YT (C k) (R k)))∧i= .int .i64 j∧Below wo.heap.size wo wi) (fun _ i _=>m-(intOf i).toNat)
   case atStart=>exact⟨0,Nat.zero_le _,rfl,rfl,Below.refl _ _⟩
   case round=>
    obtain⟨j,hj,rfl,rfl,hbi⟩:=hrel;have BI:Hid (Below wo.heap.size wo wr):=hbi;replace c0:=(hbi.cell (p:=⟨b,_,none⟩) hl).trans c0;replace c1:=(hbi.cell (p:=⟨b,_,none⟩) hl).trans c1;have hl2:b<wr.heap.size:=Nat.lt_of_lt_of_le hl hbi.size;by_cases hlt':j<m
    ·obtain⟨b',o',rfl,hl',a0,a1,a2,a3⟩:=HA.out.at_ j hlt';rw [←hbi.cell (p:=⟨_,_,none⟩) hl']at a0 a1 a2 a3;have hl3:b'<wr.heap.size:=Nat.lt_of_lt_of_le hl' hbi.size;have j0:(0:Int)≤(j:Int):=by omega
     have j1:(j:Int)<(m:Int):=by omega
     obtain⟨x,HX⟩: ∃x,Hid (L.getD j (0,0,0,0)=x):=⟨_,rfl⟩;rw [HX.out]at a0 a1 a2 a3;have HT:Hid ((L.take (j+1)).any (YT (C k) (R k))=((L.take j).any (YT (C k) (R k)) || YT (C k) (R k) x)):=Qiv (by rw [HM.out];exact hlt') HX.out;clear hbi hl hl' c2';cases hd:(L.take j).any (YT (C k) (R k))
     ·cases hin:YT (C k) (R k) x
      ·have HE:Hid ((L.take (j+1)).any (YT (C k) (R k))=false):=by show _=_;rw [HT.out,hd,hin];rfl
       clear hd HT;go_wp2_with fail
       refine wp_region_held_drew (S:=(fun w'=>(∀bq oq,bq<wr.heap.size→w'.cell? ⟨bq,oq,none⟩=wr.cell? ⟨bq,oq,none⟩)∧wr.heap.size≤w'.heap.size∧Below wr.heap.size wr w')) (by kernel_rfl) (Qq (by go_size) (by go_grown)) (fun hHeld=> ?_);refine tkA 0 ?_;refine tkB 1 ?_;refine tkA 2 ?_;refine tkB 3 ?_;refine tkA 4 ?_;refine tkB 5 ?_
       refine tkA 6 ?_;refine tkB 7 ?_;refine tkA 8 ?_;refine tkB 9 ?_;refine tkB 10 ?_;refine rqA 11 (fun Kq hKq=> ?_);go_simp
       (refine(JG x (C k) (R k) _).mono ?_;rintro e wy ⟨rfl,hb⟩;rw [hin];obtain⟨hk1,hz1⟩:=Qh (B:=wr.heap.size) (X:=wr) (by go_grown) (by go_size) hb;have hCy:=fun b o h=>hk1.cell (p:=⟨b,o,none⟩) h;clear hb)
       refine hkB hKq (Qq (by go_size) (by go_grown)) fun hHeld=> ?_;clear hKq Kq;refine tkA 12 ?_;refine tkB 13 ?_;refine wpAnyH_done (by kernel_rfl) ?_ _;go_wp2_with fail
       go_roundw
       case rel=>exact⟨j+1,by omega,by rw [HE.out],by go_num,Qc BI.out (by go_grown)⟩
       case measure=>simp [intOf];omega
      ·have HE:Hid ((L.take (j+1)).any (YT (C k) (R k))=true):=by show _=_;rw [HT.out,hd,hin];rfl
       clear hd HT;go_wp2_with fail
       refine wp_region_held_drew (S:=(fun w'=>(∀bq oq,bq<wr.heap.size→w'.cell? ⟨bq,oq,none⟩=wr.cell? ⟨bq,oq,none⟩)∧wr.heap.size≤w'.heap.size∧Below wr.heap.size wr w')) (by kernel_rfl) (Qq (by go_size) (by go_grown)) (fun hHeld=> ?_);refine tkA 0 ?_;refine tkB 1 ?_;refine tkA 2 ?_;refine tkB 3 ?_;refine tkA 4 ?_;refine tkB 5 ?_
       refine tkA 6 ?_;refine tkB 7 ?_;refine tkA 8 ?_;refine tkB 9 ?_;refine tkB 10 ?_;refine rqA 11 (fun Kq hKq=> ?_);go_simp
       (refine(JG x (C k) (R k) _).mono ?_;rintro e wy ⟨rfl,hb⟩;rw [hin];obtain⟨hk1,hz1⟩:=Qh (B:=wr.heap.size) (X:=wr) (by go_grown) (by go_size) hb;have hCy:=fun b o h=>hk1.cell (p:=⟨b,o,none⟩) h;clear hb)
       refine hkB hKq (Qq (by go_size) (by go_grown)) fun hHeld=> ?_;clear hKq Kq;refine tkA 12 ?_;refine tkB 13 ?_;refine wpAnyH_done (by kernel_rfl) ?_ _;go_wp2_with fail
       go_roundw
       case rel=>exact⟨j+1,by omega,by rw [HE.out],by go_num,Qc BI.out (by go_grown)⟩
       case measure=>simp [intOf];omega
     ·have HE:Hid ((L.take (j+1)).any (YT (C k) (R k))=true):=by show _=_;rw [HT.out,hd];rfl
      clear hd HT;go_wp2_with fail
      refine wp_region_held_drew (S:=(fun w'=>(∀bq oq,bq<wr.heap.size→w'.cell? ⟨bq,oq,none⟩=wr.cell? ⟨bq,oq,none⟩)∧wr.heap.size≤w'.heap.size∧Below wr.heap.size wr w')) (by kernel_rfl) (Qq (by go_size) (by go_grown)) (fun hHeld=> ?_);refine tkA 0 ?_;refine tkB 1 ?_;refine tnA 2 ?_;refine tnB 3 ?_;refine tnA 4 ?_;refine tnB 5 ?_
      refine tnA 6 ?_;refine tnB 7 ?_;refine tnA 8 ?_;refine tnB 9 ?_;refine tnA 10 ?_;refine tnB 11 ?_;refine tkA 12 ?_
      refine tkB 13 ?_;refine wpAnyH_done (by kernel_rfl) ?_ _;go_wp2_with fail
      go_roundw
      case rel=>exact⟨j+1,by omega,by rw [HE.out],by go_num,Qc BI.out (by go_grown)⟩
      case measure=>simp [intOf];omega
    ·have h2: ¬(j:Int)<(m:Int):=by omega
     obtain rfl:j=m:=by omega
     have HTA:Hid ((L.take j).any (YT (C k) (R k))=L.any (YT (C k) (R k))):=by show _=_;rw [←HM.out,List.take_length]
     rw [HTA.out];have OI:=hd (Qi OW.out hbi);have BLI:=hd (Qc BL.out hbi);have HCI:=hd (HC.out.below hbi);have HAI:=hd (Qi HAO.out hbi);have hus:=BLI.out.size;clear hbi OW BL HC HA HAO HTA BI
     cases hin:L.any (YT (C k) (R k))
     ·have HE:Hid (leL C R L (k+1)=leL C R L k):=Qjm hin;clear hin;go_wp2_with fail
      go_roundw
      case rel=>exact⟨k+1,F,z,c,by omega,rfl,by rw [HE.out];exact HZL.out,by go_num,by rw [HE.out];exact OI.out,BLI.out,HCI.out,HAI.out⟩
      case measure=>simp [intOf];omega
     ·have HE:Hid (leL C R L (k+1)=leL C R L k++ [(C k,R k)]):=Qdd hin;clear hin
      go_wp2_with (first
       | (at_builtin;refine Vp rfl _ _ rfl w.heap.size (.slice F z c) z (leL C R L k) rfl (OI.out.alloc _) (C k,R k) wr.heap.size rfl (by simp [go_sem]) (by simp [go_sem]) (by omega) (by simp;omega) ?_)
       | fail)
      intro v2 w9 ho hg;have hba:Below wr.heap.size wr (wr.alloc (.cells #[.int .i64 (C k),.int .i64 (R k)] 26)):=(Below.refl _ _).alloc (Nat.le_refl _) _;have B9:Hid (Below w.heap.size w w9):=(BLI.out.alloc hus _).grown hg (by simp;omega) (fun j hj=>(OI.out.lt j hj).1);have HC9:=hd (HR.out.below B9.out);have HA9:Hid (w9.ownsRow w.heap.size 118 4 (.slice A2 j c2) j (QC arC L)):=(HAI.out.alloc _).kept hg (Qes HAI.out OI.out (by decide));obtain⟨F2,d2,rfl,_,_⟩:=Qu ho;have O9:Hid (w9.ownsRow w.heap.size 26 2 (.slice F2 (z+1) d2) (z+1) (QC rfL (leL C R L (k+1)))):=by rw [HE.out];exact ho
      clear ho hg hba;go_wp2_with fail
      go_roundw
      case rel=>exact⟨k+1,F2,z+1,d2,by omega,rfl,by rw [HE.out,List.length_append,HZL.out];rfl,by go_num,O9.out,B9.out,HC9.out,HA9.out⟩
      case measure=>simp [intOf];omega
  ·have h1: ¬(k:Int)<(n:Int):=by omega
   obtain rfl:k=n:=by omega
   go_wp2_with fail
   go_ret;exact⟨F,z,c,rfl,HZL.out,OW.out,BL.out⟩
def lnR (C R:Nat→Int) (S:Nat→ByteArray) (n:Nat) (p q:Int):List (Int × Int):=if QD C R S n=true then leL C R (lnA (Yy C R S p q n)) n else []
theorem Gf {C R:Nat→Int} {S:Nat→ByteArray} {n:Nat} (h:QD C R S n=true):(∀i,i<n→(S i).size≤200)∧ ∀p q,∀k,k≤n→(Yy C R S p q k).size≤200:=by
 have h1: ∀i,i<n→(S i).size≤200:=fun i hi=>by
  unfold QD at h;simp only [Bool.and_eq_true]at h;have h9:=List.all_eq_true.1 h.2 i (List.mem_range.2 hi);unfold YG at h9;rw [Bool.and_eq_true]at h9;exact Ql2 h9.2
 refine⟨h1,fun p q k=> ?_⟩;induction k with
 | zero=>intro _;exact Nat.zero_le _
 | succ k ih=>
  intro hk;rw [Yy];split
  ·exact h1 k (by omega)
  ·exact ih (by omega)
theorem Qkl {A:Option Addr} {n cap:Nat} {C R:Nat→Int} {S:Nat→ByteArray} (p q:Int) (w:World) (h:ClRow w A n C R S):
  Calls Tryz.prog 13 #[.slice A n cap,.agg #[.int .i64 p,.int .i64 q]] w fun e w'=> ∃F z c,e= .returned (.slice F z c)∧(lnR C R S n p q).length=z∧w'.ownsRow w.heap.size 26 2 (.slice F z c) z (QC rfL (lnR C R S n p q))∧Below w.heap.size w w':=by
 have HR:Hid (ClRow w A n C R S):=h;clear h;go_enter Tryz.func13,Tryz.ntmps13;go_upto_region 1 with fail
 obtain⟨X,HX⟩: ∃X,Hid (w.alloc (.cells #[.int .i64 p,.int .i64 q] 26)=X):=⟨_,rfl⟩;rw [HX.out];have x0:X.cell? ⟨w.heap.size,0,none⟩=some (.int .i64 p):=by rw [←HX.out];simp
 have x1:X.cell? ⟨w.heap.size,1,none⟩=some (.int .i64 q):=by rw [←HX.out];simp
 have xl:w.heap.size<X.heap.size:=by rw [←HX.out];simp
 have BX:Hid (Below w.heap.size w X):=by show Below _ _ _;rw [←HX.out];exact(Below.refl _ _).alloc (Nat.le_refl _) _
 clear HX;go_wp2_with fail
 refine(Jf _ (HR.out.below BX.out)).mono ?_;rintro e w1 ⟨rfl,hb⟩;have B1:=hd (Qc BX.out hb);replace x0:=(hb.cell (p:=⟨w.heap.size,0,none⟩) xl).trans x0;replace x1:=(hb.cell (p:=⟨w.heap.size,1,none⟩) xl).trans x1;replace xl:=Nat.lt_of_lt_of_le xl hb.size;clear hb BX
 cases hok:QD C R S n
 ·have HE:Hid (lnR C R S n p q= []):=by show _=_;unfold lnR;rw [hok];rfl
  clear hok;go_wp2_with fail
  go_ret;refine⟨some ⟨w1.heap.size,0,none⟩,0,0,rfl,by rw [HE.out];rfl,?_,B1.out.alloc B1.out.size _⟩;rw [HE.out];exact Ki B1.out.size rfl
 ·have HE:Hid (lnR C R S n p q=leL C R (lnA (Yy C R S p q n)) n):=by show _=_;unfold lnR;rw [hok,if_pos rfl]
  obtain⟨hn,hrs⟩:=YO hok;have hsz:=(Gf hok).2 p q n (Nat.le_refl _);clear hok;go_wp2_with fail
  refine(Jd p q _ (HR.out.below B1.out) hn hrs hsz).mono ?_;rintro e w2 ⟨F,z,c,rfl,hz,ho,hb⟩;have O2:=hd (ZP ho B1.out.size);have HZ:Hid ((leL C R (lnA (Yy C R S p q n)) n).length=z):=hz;have B2:=hd (Qc B1.out hb);clear hb ho hz hsz;go_wp2_with fail
  go_ret;exact⟨F,z,c,rfl,by rw [HE.out];exact HZ.out,by rw [HE.out];exact O2.out,B2.out⟩
theorem Qec {H:Type} {P:Program} {w:World} {ops:Array Oper} {o:Oper} {a:Act} {K:Act→World→Prop} {Q:Exit→Act→World→Prop} {E:Prop}
  (hg:o.guard=none) (m x v:Operand) (t:TypeId) (hop:o.op=Op.mapUpdate t m x v)
  (k e:TypeId) (K':Keyed P k) (ht:P.underlying t=some (.map k e)) (R:Value→Option (DataW H × List MemPlace)) (b n:Nat) (D:DataW H)
  (hm:a.eval m= .map (some b)) (hown:w.ownsMap P k R b n D) (hn:n<maxLen) (key val:Value) (kl:Lit) (hx:a.eval x=key) (hv:a.eval v=val) (hkey:keyOf P k key=some kl)
  (d:DataW H) (ps:List MemPlace) (hval:R val=some (d,ps))
  (h: ∀w',w'.ownsMap P k R b (n+1) (D.put kl d)→w.grownBy w' (some b)→K (a.put o.dst undef) w'):
  if Region.wanted o (yielded ops a.tmps)=true then Oper.wp P o a w K Q else E:=by
 have hw:Region.wanted o (yielded ops a.tmps)=true:=by simp [Region.wanted,hg]
 rw [if_pos hw];obtain⟨w',hrun,r1,r2⟩:=hown.update K' ht hn hkey hval;have hfin:=h w' r1 r2;unfold Oper.wp;simp [execOp,hop,hm,hx,hv,hrun,Result.andThen];exact hfin
theorem UB {W:World} {B n mb:Nat} {e:TypeId} {s:Nat} {v:Value} {xs:List Value} (h:W.ownsRow B e s v n xs) (hb:mb<B):v.ownBlock=none∨v.ownBlock≠some mb:=by
 cases hv:v.ownBlock with
 | none=>exact Or.inl rfl
 | some g=>
  right
  intro e;have:=(h.lt g hv).1;cases e
  omega
def zLn:Value:= .agg #[.slice none 0 0,.slice none 0 0,.slice none 0 0]
def LnY (C R:Nat→Int) (B:Nat) (W:World) (n:Nat) (s:ByteArray) (v:Value):Prop:= ∃vn A m c F z d,v= .agg #[vn,.slice A m c,.slice F z d]∧(lnA s).length=m∧W.ownsRow B 118 4 (.slice A m c) m (QC arC (lnA s))∧(leL C R (lnA s) n).length=z∧W.ownsRow B 26 2 (.slice F z d) z (QC rfL (leL C R (lnA s) n))
def LnV (C R:Nat→Int) (B:Nat) (W:World) (n:Nat) (s:ByteArray) (v:Value):Prop:=(lnF s=none→v=zLn)∧(lnF s≠none→LnY C R B W n s v)
def LnS (C R:Nat→Int) (S:Nat→ByteArray) (B:Nat) (W:World) (n k:Nat) (D:DataW Value):Prop:= ∀p q l,keyOf Tryz.prog 26 (.agg #[.int .i64 p,.int .i64 q])=some l→ ∃v,D.atKey l (.held zLn)= .held v∧LnV C R B W n (Yy C R S p q k) v
theorem LnY.kept {C R:Nat→Int} {B n:Nat} {W W':World} {s:ByteArray} {v:Value} {mb:Nat} (h:LnY C R B W n s v) (hg:W.grownBy W' (some mb)) (hB:mb<B):LnY C R B W' n s v:=by
 obtain⟨vn,A,m,c,F,z,d,e,h1,h2,h3,h4⟩:=h;exact⟨vn,A,m,c,F,z,d,e,h1,h2.kept hg (UB h2 hB),h3,h4.kept hg (UB h4 hB)⟩
theorem LnY.below {C R:Nat→Int} {B n:Nat} {W W':World} {s:ByteArray} {v:Value} (h:LnY C R B W n s v) (hb:Below W.heap.size W W'):LnY C R B W' n s v:=by
 obtain⟨vn,A,m,c,F,z,d,e,h1,h2,h3,h4⟩:=h;exact⟨vn,A,m,c,F,z,d,e,h1,Qi h2 hb,h3,Qi h4 hb⟩
theorem LnS.kept {C R:Nat→Int} {S:Nat→ByteArray} {B n k:Nat} {W W':World} {D:DataW Value} {mb:Nat} (h:LnS C R S B W n k D) (hg:W.grownBy W' (some mb)) (hB:mb<B):LnS C R S B W' n k D:=fun p q l hl=>by
 obtain⟨v,e,h1,h2⟩:=h p q l hl;exact⟨v,e,h1,fun hn=>(h2 hn).kept hg hB⟩
theorem LnS.below {C R:Nat→Int} {S:Nat→ByteArray} {B n k:Nat} {W W':World} {D:DataW Value} (h:LnS C R S B W n k D) (hb:Below W.heap.size W W'):LnS C R S B W' n k D:=fun p q l hl=>by
 obtain⟨v,e,h1,h2⟩:=h p q l hl;exact⟨v,e,h1,fun hn=>(h2 hn).below hb⟩
theorem Qda:lnF ⟨#[]⟩=none:=rfl
theorem Eg {C R:Nat→Int} {S:Nat→ByteArray} {p q:Int}: ∀k:Nat,(∀i,i<k→ ¬(C i=p∧R i=q))→Yy C R S p q k=⟨#[]⟩
 | 0,_=>rfl
 | k+1,h=>by rw [Yy,if_neg (h k (by omega)),Eg k (fun i hi=>h i (by omega))]
theorem LnS.skip {C R:Nat→Int} {S:Nat→ByteArray} {B n k:Nat} {W:World} {D:DataW Value} (h:LnS C R S B W n k D) (hd: ∀i,i<k→ ¬(C i=C k∧R i=R k)) (hs:lnF (S k)=none):LnS C R S B W n (k+1) D:=fun p q l hl=>by
 obtain⟨v,e,h1,h2⟩:=h p q l hl;refine⟨v,e,?_⟩;by_cases hm:C k=p∧R k=q
 ·have hn:Yy C R S p q k=⟨#[]⟩:=Eg k (fun i hi=>by rw [←hm.1,←hm.2];exact hd i hi);rw [hn]at h1;rw [Yy,if_pos hm];exact⟨fun _=>h1 Qda,fun h9=>absurd hs h9⟩
 ·rw [Yy,if_neg hm];exact⟨h1,h2⟩
theorem LnS.put {C R:Nat→Int} {S:Nat→ByteArray} {B n k:Nat} {W:World} {D:DataW Value} {kk:Lit} {v:Value} (hD:IsMap D) (hk:keyOf Tryz.prog 26 (.agg #[.int .i64 (C k),.int .i64 (R k)])=some kk) (h:LnS C R S B W n k D) (hv:LnY C R B W n (S k) v) (hs:lnF (S k)≠none):LnS C R S B W n (k+1) (D.put kk (.held v)):=fun p q l hl=>by
 by_cases hm:C k=p∧R k=q
 ·rw [Yy,if_pos hm];rw [hm.1,hm.2,hl]at hk;cases hk
  exact⟨v,by rw [atKey_put_same hD (keyedRef.key hl)],fun h9=>absurd h9 hs,fun _=>hv⟩
 ·rw [Yy,if_neg hm]
  have hne:l≠kk:=fun e2=>by
   rw [←e2]at hk;have:=keyedRef.inj hk hl;simp at this;exact hm this
  obtain⟨v',e,hv'⟩:=h p q l hl;exact⟨v',by rw [atKey_put_other hne];exact e,hv'⟩
theorem Qi0 (w:World):(zeroValue 66).run Tryz.prog w= .ok zLn w:=by kernel_rfl
theorem Qf1 (a b c:Value) (w:World):(Instr.field 66 (.agg #[a,b,c]) 2).run Tryz.prog w= .ok c w:=by
 first | kernel_rfl | rfl | simp [Instr.field,go_sem]
theorem Qg2 {C R:Nat→Int} {n k:Nat} (h:Yv C R n=true) (hk:k<n): ∀i,i<k→ ¬(C i=C k∧R i=R k):=fun i hi e=>by
 have:=of_decide_eq_true (Qcl h k hk i hi);omega
theorem Qmo {C R:Nat→Int} {S:Nat→ByteArray} {B n z mb:Nat} {W:World} {D:DataW Value} {p q:Int} {l:Lit} (hown:W.ownsMap Tryz.prog 26 Gs mb z D) (hs:LnS C R S B W n n D) (hl:keyOf Tryz.prog 26 (.agg #[.int .i64 p,.int .i64 q])=some l):
  ∃v F zz c,(Instr.lookup 60 (.map (some mb)) (.agg #[.int .i64 p,.int .i64 q]) false).run Tryz.prog W= .ok v W∧(∀w',(Instr.field 66 v 2).run Tryz.prog w'= .ok (.slice F zz c) w')∧(leL C R (lnA (Yy C R S p q n)) n).length=zz∧W.ownsRow B 26 2 (.slice F zz c) zz (QC rfL (leL C R (lnA (Yy C R S p q n)) n)):=by
 obtain⟨v,hat,h1,h2⟩:=hs p q l hl;obtain⟨u,ps,hr,hu⟩:=hown.lookup keyedRef Tryz.underlying60 (Qi0 W) (rfl:Gs _=some (.held _,[])) hl;rw [hat]at hu;unfold Gs at hu;simp at hu;rw [hu.1]at hr;by_cases hf:lnF (Yy C R S p q n)=none
 ·have hv:=h1 hf;subst hv;have hA:lnA (Yy C R S p q n)= []:=by unfold lnA;rw [hf]
  have hE: ∀k,leL C R [] k= []:=fun k=>by
   induction k with
   | zero=>rfl
   | succ k ih=>rw [leL,ih];rfl
  rw [hA,hE];exact⟨_,none,0,0,hr,fun w'=>Qf1 _ _ _ w',rfl,World.ownsRow_nil _ _ _ _⟩
 ·obtain⟨vn,A,m,c,F,zz,d,rfl,_,_,h3,h4⟩:=h2 hf;exact⟨_,F,zz,d,hr,fun w'=>Qf1 _ _ _ w',h3,h4⟩
theorem Jm {A:Option Addr} {n cap:Nat} {C R:Nat→Int} {S:Nat→ByteArray} (w:World) (h:ClRow w A n C R S) (hok:QD C R S n=true) (hg:GI w):
  Calls Tryz.prog 38 #[.slice A n cap] w fun e w'=>e= .returned (.map (some w.heap.size))∧(∃z D,z≤n∧w'.ownsMap Tryz.prog 26 Gs w.heap.size z D∧LnS C R S (w.heap.size+1) w' n n D)∧Below w.heap.size w w':=by
 have HR:Hid (ClRow w A n C R S):=h;have HG:Hid (GI w):=hg;obtain⟨hn,hrs⟩:=YO hok;obtain⟨kl,hkl⟩:=Qll (El hrs);have HK:Hid (∀i,i<n→keyOf Tryz.prog 26 (.agg #[.int .i64 (C i),.int .i64 (R i)])=some (kl i)):=hkl;have HOF:Hid (∀k,k<n→ ∀i,i<k→ ¬(C i=C k∧R i=R k)):=fun k hk=>Qg2 hrs hk;have HSZ:Hid (∀i,i<n→(S i).size≤200):=(Gf hok).1
 have hmm:= @run_makeMap Tryz.prog;clear h hg hkl hrs hok;go_enter Tryz.func38,Tryz.ntmps38;go_wp2_with fail
 go_loopw [12] (fun i wr=> ∃(k z:Nat) (D:DataW Value),k≤n∧z≤k∧i= .int .i64 k∧wr.ownsMap Tryz.prog 26 Gs w.heap.size z D∧IsMap D∧LnS C R S (w.heap.size+1) wr n k D∧Below w.heap.size w wr∧w.heap.size<wr.heap.size) (fun i _=>n-(intOf i).toNat)
 case atStart=>exact⟨0,0,_,Nat.zero_le _,Nat.le_refl _,rfl,World.ownsMap_made _ _ _ _,⟨_,rfl⟩,fun p q l _=>⟨zLn,rfl,fun _=>rfl,fun h=>absurd Qda h⟩,by go_grown,by simp⟩
 case round=>
  obtain⟨k,z,D,hk,hz,rfl,hm,hD,hs,hbel,hws⟩:=hrel;have M0:Hid (wr.ownsMap Tryz.prog 26 Gs w.heap.size z D):=hm;have HD:Hid (IsMap D):=hD;have E0:Hid (LnS C R S (w.heap.size+1) wr n k D):=hs;have B0:Hid (Below w.heap.size w wr):=hbel;have HWS:Hid (w.heap.size<wr.heap.size):=hws;clear hm hD hs
  by_cases hlt:k<n
  ·obtain⟨b,o,rfl,hl,c0,c1,c2,_⟩:=HR.out.2 k hlt;rw [←hbel.cell (p:=⟨_,_,none⟩) hl]at c0 c1 c2;have hl2:b<wr.heap.size:=Nat.lt_of_lt_of_le hl hbel.size;have h0:(0:Int)≤(k:Int):=by omega
   have h1:(k:Int)<(n:Int):=by omega
   clear hbel hws;have hws:Hid (w.heap.size<wr.heap.size):=HWS.out;go_upto_region 5 with fail
   obtain⟨X,HX⟩: ∃X,Hid (wr.alloc (.cells #[.int .i64 (C k),.int .i64 (R k),.string (S k)] 55)=X):=⟨_,rfl⟩;rw [HX.out];have x0:X.cell? ⟨wr.heap.size,0,none⟩=some (.int .i64 (C k)):=by rw [←HX.out];simp
   have x1:X.cell? ⟨wr.heap.size,1,none⟩=some (.int .i64 (R k)):=by rw [←HX.out];simp
   have x2:X.cell? ⟨wr.heap.size,2,none⟩=some (.string (S k)):=by rw [←HX.out];simp
   have xl:wr.heap.size<X.heap.size:=by rw [←HX.out];simp
   have hbX:Below wr.heap.size wr X:=by rw [←HX.out];exact(Below.refl _ _).alloc (Nat.le_refl _) _
   have BX:=hd (Qc B0.out hbX);have MX:Hid (X.ownsMap Tryz.prog 26 Gs w.heap.size z D):=M0.out.kept (Yr none hbX) (by simp);have EX:=hd (E0.out.below hbX);clear HX hbX c0 c1 c2 M0 E0 B0;go_wp2_with fail
   refine(Ui (S k) _ (HSZ.out k hlt) (HG.out.below BX.out)).mono ?_;rintro e w1 ⟨hb,hf⟩;have B1:=hd (Qc BX.out hb);have M1:Hid (w1.ownsMap Tryz.prog 26 Gs w.heap.size z D):=MX.out.kept (Yr none hb) (by simp);have E1:=hd (EX.out.below hb);replace x0:=(hb.cell (p:=⟨wr.heap.size,0,none⟩) xl).trans x0;replace x1:=(hb.cell (p:=⟨wr.heap.size,1,none⟩) xl).trans x1
   replace xl:=Nat.lt_of_lt_of_le xl hb.size;clear hb BX MX EX x2;rcases hf with⟨h1',rfl⟩ | ⟨o1,A1,c1,h1',h2',rfl,hfr⟩
   ·have HE:Hid (LnS C R S (w.heap.size+1) w1 n (k+1) D):=E1.out.skip (HOF.out k hlt) h1';clear h1';go_wp2_with fail
    go_roundw
    case rel=>exact⟨k+1,z,D,by omega,by omega,by go_num,M1.out,HD.out,HE.out,B1.out,by have:=hws.out;omega⟩
    case measure=>simp [intOf];omega
   ·have HO:Hid (lnF (S k)≠none):=by show _≠_;rw [h1'];exact fun h=>by cases h
    have HLA:Hid (lnA (S k)=arA (ouF o1) o1.length):=by show _=_;unfold lnA;rw [h1']
    obtain⟨hl60,hsm⟩:=Vj h2';have HSM:Hid (∀i,i<o1.length→(ouF o1 i).cs.size≤maxLen∧(ouF o1 i).kids.length≤1048576):=hsm;have HFR:Hid (FnRow w1 A1 o1.length (ouF o1)):=hfr;obtain⟨on,HON⟩: ∃on,Hid (o1.length=on):=⟨_,rfl⟩;rw [HON.out]at HFR HSM hl60 ⊢;clear h1' h2' hsm hfr;go_wp2_with fail
    refine(Ox _ HFR.out (by omega) (fun i hi=>(HSM.out i hi).2) (HG.out.below B1.out).gt.ft).mono ?_;rintro e w2 ⟨v,rfl,ho,hb⟩;obtain⟨A2,d2,rfl,_,_⟩:=Qu ho;obtain⟨m2,HM2'⟩: ∃m2,Hid (NY (ouF o1) on=m2):=⟨_,rfl⟩;obtain⟨e1,e2⟩:=Qaj (ouF o1) on;rw [HM2'.out]at ho e2 ⊢;rw [←e1]at ho
    rw [HON.out]at HLA;have HM2:Hid ((lnA (S k)).length=m2):=by show _=_;rw [HLA.out];exact e2
    have O2:Hid (w2.ownsRow (w.heap.size+1) 118 4 (.slice A2 m2 d2) m2 (QC arC (lnA (S k)))):=by rw [HLA.out];exact ZP ho (by have:=hws.out;omega)
    have HA2:Hid (ArR w2 A2 m2 (lnA (S k))):=ArR.of_own O2.out HM2.out;have B2:=hd (Qc B1.out hb);have M2:Hid (w2.ownsMap Tryz.prog 26 Gs w.heap.size z D):=M1.out.kept (Yr none hb) (by simp);have E2:=hd (E1.out.below hb);replace x0:=(hb.cell (p:=⟨wr.heap.size,0,none⟩) xl).trans x0;replace x1:=(hb.cell (p:=⟨wr.heap.size,1,none⟩) xl).trans x1;replace xl:=Nat.lt_of_lt_of_le xl hb.size
    have hsw:Hid (w.heap.size<w2.heap.size):=by have:=hws.out;show w.heap.size<w2.heap.size;omega
    clear hb ho e1 e2 B1 M1 E1;go_wp2_with fail
    refine wp_region_held_drew (S:=fun w'=>w'.cell? ⟨wr.heap.size,0,none⟩=some (.int .i64 (C k))∧w'.cell? ⟨wr.heap.size,1,none⟩=some (.int .i64 (R k))∧wr.heap.size<w'.heap.size∧Below w.heap.size w w') (by kernel_rfl) ⟨x0,x1,xl,B2.out.drew⟩ (fun hHeld=> ?_);refine tjA 0 ?_ rfl (by kernel_rfl) (by rfl) ?_ ?_;rotate_left
    ·(intro wq hSw;obtain⟨hq0,hq1,hq2,hq3⟩:=hSw;go_simp<;>with_reducible rfl)
    try simp only [Act.put,List.getElem_toArray,List.getElem_cons_zero,List.getElem_cons_succ,List.setIfInBounds_toArray,List.set_cons_zero,List.set_cons_succ]
    refine tjA 1 ?_ rfl (by kernel_rfl) (by rfl) ?_ ?_;rotate_left
    ·(intro wq hSw;obtain⟨hq0,hq1,hq2,hq3⟩:=hSw;go_simp<;>with_reducible rfl)
    try simp only [Act.put,List.getElem_toArray,List.getElem_cons_zero,List.getElem_cons_succ,List.setIfInBounds_toArray,List.set_cons_zero,List.set_cons_succ]
    refine tjA 2 ?_ rfl (by kernel_rfl) (by rfl) ?_ ?_;rotate_left
    ·(intro wq hSw;obtain⟨hq0,hq1,hq2,hq3⟩:=hSw;go_simp<;>with_reducible rfl)
    try simp only [Act.put,List.getElem_toArray,List.getElem_cons_zero,List.getElem_cons_succ,List.setIfInBounds_toArray,List.set_cons_zero,List.set_cons_succ]
    refine tjA 3 ?_ rfl (by kernel_rfl) (by rfl) ?_ ?_;rotate_left
    ·(intro wq hSw;obtain⟨hq0,hq1,hq2,hq3⟩:=hSw;go_simp<;>with_reducible rfl)
    try simp only [Act.put,List.getElem_toArray,List.getElem_cons_zero,List.getElem_cons_succ,List.setIfInBounds_toArray,List.set_cons_zero,List.set_cons_succ]
    refine tjA 4 ?_ rfl (by kernel_rfl) (by rfl) ?_ ?_;rotate_left
    ·(intro wq hSw;obtain⟨hq0,hq1,hq2,hq3⟩:=hSw;go_simp<;>with_reducible rfl)
    try simp only [Act.put,List.getElem_toArray,List.getElem_cons_zero,List.getElem_cons_succ,List.setIfInBounds_toArray,List.set_cons_zero,List.set_cons_succ]
    refine tjA 5 ?_ rfl (by kernel_rfl) (by rfl) ?_ ?_;rotate_left
    ·(intro wq hSw;obtain⟨hq0,hq1,hq2,hq3⟩:=hSw;go_simp<;>with_reducible rfl)
    try simp only [Act.put,List.getElem_toArray,List.getElem_cons_zero,List.getElem_cons_succ,List.setIfInBounds_toArray,List.set_cons_zero,List.set_cons_succ]
    refine tjA 6 ?_ rfl (by kernel_rfl) (by rfl) ?_ ?_;rotate_left
    ·(intro wq hSw;obtain⟨hq0,hq1,hq2,hq3⟩:=hSw;go_simp<;>with_reducible rfl)
    try simp only [Act.put,List.getElem_toArray,List.getElem_cons_zero,List.getElem_cons_succ,List.setIfInBounds_toArray,List.set_cons_zero,List.set_cons_succ]
    refine rqA 7 (fun Kq hKq=> ?_);go_simp;refine(Hs w2.drew (HR.out.below B2.out.drew) (HA2.out.below (Below.refl _ _).drew) hn).mono ?_;rintro e v1 ⟨G,z9,c9,rfl,hz9,ho9,hb⟩;have hb2:Below w2.heap.size w2 v1:=Qc (Below.refl _ _).drew hb;have y0:=(hb2.cell (p:=⟨wr.heap.size,0,none⟩) xl).trans x0;have y1:=(hb2.cell (p:=⟨wr.heap.size,1,none⟩) xl).trans x1
    have yl:wr.heap.size<v1.heap.size:=Nat.lt_of_lt_of_le xl hb2.size;have BV:=hd (Qc B2.out hb2);have MV:Hid (v1.ownsMap Tryz.prog 26 Gs w.heap.size z D):=M2.out.kept (Yr none hb2) (by simp);have EV:=hd (E2.out.below hb2);have AV:=hd (Qi O2.out hb2);have OV:Hid (v1.ownsRow (w.heap.size+1) 26 2 (.slice G z9 c9) z9 (QC rfL (leL C R (lnA (S k)) n))):=ZP ho9 (by have:=hsw.out;show w.heap.size+1≤w2.heap.size;omega);have HZ9:Hid ((leL C R (lnA (S k)) n).length=z9):=hz9
    refine hKq.out _ _ ?_ (fun hHeld=> ?_)
    ·exact⟨y0,y1,yl,BV.out⟩
    clear hKq Kq hb hb2 ho9 hz9 M2 E2 O2;try simp only [Act.put,List.getElem_toArray,List.getElem_cons_zero,List.getElem_cons_succ,List.setIfInBounds_toArray,List.set_cons_zero,List.set_cons_succ]
    refine tjA 8 ?_ rfl (by kernel_rfl) (by rfl) ?_ ?_;rotate_left
    ·(intro wq hSw;obtain⟨hq0,hq1,hq2,hq3⟩:=hSw;go_simp<;>with_reducible rfl)
    try simp only [Act.put,List.getElem_toArray,List.getElem_cons_zero,List.getElem_cons_succ,List.setIfInBounds_toArray,List.set_cons_zero,List.set_cons_succ]
    refine rqA 9 (fun Kq hKq=> ?_);refine Qec (by rfl) _ _ _ 60 (by rfl) 26 66 keyedRef Tryz.underlying60 Gs w.heap.size z D (by rfl) MV.out (by unfold maxLen;omega) _ (.agg #[.slice A1 on c1,.slice A2 m2 d2,.slice G z9 c9]) (kl k) (by rfl) (by rfl) (HK.out k hlt) _ [] rfl ?_;intro v2 ho2 hg2;have hne:wr.heap.size≠w.heap.size:=by have:=hws.out;omega
    have t0:=hg2.cell y0 (fun e=>hne (Option.some.inj e));have t1:=hg2.cell y1 (fun e=>hne (Option.some.inj e));have BV2:Hid (Below w.heap.size w v2):=BV.out.grown hg2 BV.out.size (fun j hj=>by cases hj;exact Nat.le_refl _);have HDP:Hid (IsMap (D.put (kl k) (.held (.agg #[.slice A1 on c1,.slice A2 m2 d2,.slice G z9 c9])))):=by obtain⟨es,rfl⟩:=HD.out;exact⟨_,rfl⟩
    have E9:Hid (LnS C R S (w.heap.size+1) v2 n (k+1) (D.put (kl k) (.held (.agg #[.slice A1 on c1,.slice A2 m2 d2,.slice G z9 c9])))):=LnS.put HD.out (HK.out k hlt) (EV.out.kept hg2 (Nat.lt_succ_self _)) ⟨_,A2,m2,d2,G,z9,c9,rfl,HM2.out,AV.out.kept hg2 (UB AV.out (Nat.lt_succ_self _)),HZ9.out,OV.out.kept hg2 (UB OV.out (Nat.lt_succ_self _))⟩ HO.out;refine hKq.out _ _ ?_ (fun hHeld=> ?_)
    ·exact⟨t0,t1,Nat.lt_of_lt_of_le yl hg2.size,BV2.out⟩
    clear hKq Kq;try simp only [Act.put,List.getElem_toArray,List.getElem_cons_zero,List.getElem_cons_succ,List.setIfInBounds_toArray,List.set_cons_zero,List.set_cons_succ]
    refine wpAnyH_done (by kernel_rfl) ?_ _;go_wp2_with fail
    go_roundw
    case rel=>exact⟨k+1,z+1,_,by omega,by omega,by go_num,ho2,HDP.out,E9.out,BV2.out,by have:=hws.out;have:=hg2.size;omega⟩
    case measure=>simp [intOf];omega
  ·have h1: ¬(k:Int)<(n:Int):=by omega
   obtain rfl:k=n:=by omega
   go_wp2_with fail
   go_ret;exact⟨rfl,⟨z,hz,D,M0.out,E0.out⟩,hbel⟩
theorem Qkn {A:Option Addr} {n cap:Nat} {C R:Nat→Int} {S:Nat→ByteArray} (p q:Int) (w:World) (h:ClRow w A n C R S) (hg:GI w) (hp:(Lit.int .i64 p).wf=true) (hq:(Lit.int .i64 q).wf=true):
  Calls Tryz.prog 12 #[.slice A n cap,.agg #[.int .i64 p,.int .i64 q]] w fun e w'=> ∃F z c,e= .returned (.slice F z c)∧(lnR C R S n p q).length=z∧w'.ownsRow w.heap.size 26 2 (.slice F z c) z (QC rfL (lnR C R S n p q))∧Below w.heap.size w w':=by
 have HR:Hid (ClRow w A n C R S):=h;have HG:Hid (GI w):=hg;obtain⟨l,hl⟩:=UT p q hp hq;have HKL:Hid (keyOf Tryz.prog 26 (.agg #[.int .i64 p,.int .i64 q])=some l):=hl;clear h hg hl;go_enter Tryz.func12,Tryz.ntmps12;go_upto_region 1 with fail
 obtain⟨X,HX⟩: ∃X,Hid (w.alloc (.cells #[.int .i64 p,.int .i64 q] 26)=X):=⟨_,rfl⟩;rw [HX.out];have x0:X.cell? ⟨w.heap.size,0,none⟩=some (.int .i64 p):=by rw [←HX.out];simp
 have x1:X.cell? ⟨w.heap.size,1,none⟩=some (.int .i64 q):=by rw [←HX.out];simp
 have xl:w.heap.size<X.heap.size:=by rw [←HX.out];simp
 have BX:Hid (Below w.heap.size w X):=by show Below _ _ _;rw [←HX.out];exact(Below.refl _ _).alloc (Nat.le_refl _) _
 clear HX;go_wp2_with fail
 refine(Jk _ (HR.out.below BX.out) (HG.out.below BX.out)).mono ?_;rintro e w1 ⟨rfl,hb⟩;have B1:=hd (Qc BX.out hb);replace x0:=(hb.cell (p:=⟨w.heap.size,0,none⟩) xl).trans x0;replace x1:=(hb.cell (p:=⟨w.heap.size,1,none⟩) xl).trans x1;replace xl:=Nat.lt_of_lt_of_le xl hb.size;clear hb BX
 cases hok:QD C R S n
 ·have HE:Hid (lnR C R S n p q= []):=by show _=_;unfold lnR;rw [hok];rfl
  clear hok;go_wp2_with fail
  go_ret;exact⟨none,0,0,rfl,by rw [HE.out];rfl,by rw [HE.out];exact World.ownsRow_nil _ _ _ _,B1.out⟩
 ·have HE:Hid (lnR C R S n p q=leL C R (lnA (Yy C R S p q n)) n):=by show _=_;unfold lnR;rw [hok,if_pos rfl]
  have HOK:Hid (QD C R S n=true):=hok;clear hok;go_wp2_with fail
  refine wp_region_held_drew (S:=fun w'=>w'.cell? ⟨w.heap.size,0,none⟩=some (.int .i64 p)∧w'.cell? ⟨w.heap.size,1,none⟩=some (.int .i64 q)∧Below w.heap.size w w') (by kernel_rfl) ⟨x0,x1,B1.out.drew⟩ (fun hHeld=> ?_);refine tjA 0 ?_ rfl (by kernel_rfl) (by rfl) ?_ ?_;rotate_left
  ·(intro wq hSw;obtain⟨hq0,hq1,hq3⟩:=hSw;go_simp<;>with_reducible rfl)
  try simp only [Act.put,List.getElem_toArray,List.getElem_cons_zero,List.getElem_cons_succ,List.setIfInBounds_toArray,List.set_cons_zero,List.set_cons_succ]
  refine tjA 2 ?_ rfl (by kernel_rfl) (by rfl) ?_ ?_;rotate_left
  ·(intro wq hSw;obtain⟨hq0,hq1,hq3⟩:=hSw;go_simp<;>with_reducible rfl)
  try simp only [Act.put,List.getElem_toArray,List.getElem_cons_zero,List.getElem_cons_succ,List.setIfInBounds_toArray,List.set_cons_zero,List.set_cons_succ]
  refine rqA 1 (fun Kq hKq=> ?_);go_simp;refine(Jm w1.drew (HR.out.below B1.out.drew) HOK.out (HG.out.below B1.out.drew)).mono ?_;rintro e v1 ⟨rfl,⟨z,D,hz,hm,hs⟩,hb⟩;have hb2:Below w1.heap.size w1 v1:=Qc (Below.refl _ _).drew hb;have y0:=(hb2.cell (p:=⟨w.heap.size,0,none⟩) xl).trans x0;have y1:=(hb2.cell (p:=⟨w.heap.size,1,none⟩) xl).trans x1
  have BV:=hd (Qc B1.out hb2);obtain⟨v,F,zz,c,hrun,hfl,hln,hown⟩:=Qmo hm hs HKL.out;have OV:Hid (v1.ownsRow w.heap.size 26 2 (.slice F zz c) zz (QC rfL (leL C R (lnA (Yy C R S p q n)) n))):=ZP hown (by have:=B1.out.size;show w.heap.size≤w1.heap.size+1;omega);rw [World.size_drew]at hrun;have hfv:=hfl v1;have HLN:Hid ((leL C R (lnA (Yy C R S p q n)) n).length=zz):=hln;refine hKq.out _ _ ?_ (fun hHeld=> ?_)
  ·exact⟨y0,y1,BV.out⟩
  clear hKq Kq hb hb2 hm hs hown hln;try simp only [Act.put,List.getElem_toArray,List.getElem_cons_zero,List.getElem_cons_succ,List.setIfInBounds_toArray,List.set_cons_zero,List.set_cons_succ]
  refine rqA 3 (fun Kq hKq=> ?_);go_simp;refine hKq.out _ _ ?_ (fun hHeld=> ?_)
  ·exact⟨y0,y1,BV.out⟩
  clear hKq Kq;try simp only [Act.put,List.getElem_toArray,List.getElem_cons_zero,List.getElem_cons_succ,List.setIfInBounds_toArray,List.set_cons_zero,List.set_cons_succ]
  refine rqA 4 (fun Kq hKq=> ?_);go_simp;refine hKq.out _ _ ?_ (fun hHeld=> ?_)
  ·exact⟨y0,y1,BV.out⟩
  clear hKq Kq;try simp only [Act.put,List.getElem_toArray,List.getElem_cons_zero,List.getElem_cons_succ,List.setIfInBounds_toArray,List.set_cons_zero,List.set_cons_succ]
  refine tjA 5 ?_ rfl (by kernel_rfl) (by rfl) ?_ ?_;rotate_left
  ·(intro wq hSw;obtain⟨hq0,hq1,hq3⟩:=hSw;go_simp<;>with_reducible rfl)
  try simp only [Act.put,List.getElem_toArray,List.getElem_cons_zero,List.getElem_cons_succ,List.setIfInBounds_toArray,List.set_cons_zero,List.set_cons_succ]
  refine wpAnyH_done (by kernel_rfl) ?_ _;go_wp2_with fail
  go_ret;exact⟨F,zz,c,rfl,by rw [HE.out];exact HLN.out,by rw [HE.out];exact OV.out,BV.out⟩
end Go.Proofs.YtejbnnacghbhoaaGreatDoor
