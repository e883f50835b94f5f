import Derived.Test.YtejbnnacghbhoaaGreatDoorMn
import Derived.Test.YtejbnnacghbhoaaGreatDoorGzd
set_option linter.unusedSimpArgs false
set_option linter.unusedVariables false
set_option maxHeartbeats 4000000
set_option maxRecDepth 100000
namespace Go.Proofs.YtejbnnacghbhoaaGreatDoor
open Go.RowKit
def QJ (k o ck cn:Int) (cs:ByteArray) (ac ar:Int) (af ag:Bool) (bc br:Int) (bf bg:Bool) (kl:Nat):Bool:=
 if k=1 then cOk ck cn cs&&decide (o=0)&&zP ac ar af ag&&zP bc br bf bg&&decide (kl=0)
 else if k=2 then Qg ac ar&&decide (o=0)&&zV ck cn cs&&zP bc br bf bg&&decide (kl=0)
 else if k=3 then VI ac ar bc br&&decide (o=0)&&zV ck cn cs&&decide (kl=0)
 else if k=4 then decide (kl=1)&&decide (o=0)&&(zV ck cn cs&&zP ac ar af ag&&zP bc br bf bg)
 else if k=5 then decide (kl=2)&&decide (1≤o∧o≤11)&&(zV ck cn cs&&zP ac ar af ag&&zP bc br bf bg)
 else if k=6 then Kn o kl&&(zV ck cn cs&&zP ac ar af ag&&zP bc br bf bg)
 else false
theorem Qjl (n:Nat):((n:Int)==0)=decide (n=0):=by rw [Bool.eq_iff_iff];simp
theorem len1 (n:Nat):((n:Int)==1)=decide (n=1):=by rw [Bool.eq_iff_iff];simp;omega
theorem len2 (n:Nat):((n:Int)==2)=decide (n=2):=by rw [Bool.eq_iff_iff];simp;omega
theorem Qbg (o ck cn:Int) (cs:ByteArray) (ac ar:Int) (af ag:Bool) (bc br:Int) (bf bg:Bool) {KA:Option Addr} {kl kc:Nat} (w:World) (hs:cs.size≤maxLen):
  Calls Tryz.prog 149 #[.agg #[.int .i64 1,.int .i64 o,.int .i64 ck,.int .i64 cn,.string cs,.int .i64 ac,.int .i64 ar,.bool af,.bool ag,.int .i64 bc,.int .i64 br,.bool bf,.bool bg,.slice KA kl kc]] w fun e w'=>e= .returned (.bool (QJ 1 o ck cn cs ac ar af ag bc br bf bg kl))∧Below w.heap.size w w':=by
 go_enter Tryz.func149,Tryz.ntmps149
 go_wp2_with (first
  | (go_at_call 190;refine(Ot _ _ _ _ hs).mono ?_;rintro e w1 ⟨rfl,hb⟩;obtain⟨hc,hf,hC,hF,hz,hk,l0⟩:=bk1 (w:=w) (by go_grown) (by go_size) hb;clear hb))
 all_goals
  go_ret;refine⟨Qb ?_,by go_grown⟩;simp [QJ,zP,Qjl, *];try omega
theorem Qbf (o ck cn:Int) (cs:ByteArray) (ac ar:Int) (af ag:Bool) (bc br:Int) (bf bg:Bool) {KA:Option Addr} {kl kc:Nat} (w:World) (hs:cs.size≤maxLen):
  Calls Tryz.prog 149 #[.agg #[.int .i64 2,.int .i64 o,.int .i64 ck,.int .i64 cn,.string cs,.int .i64 ac,.int .i64 ar,.bool af,.bool ag,.int .i64 bc,.int .i64 br,.bool bf,.bool bg,.slice KA kl kc]] w fun e w'=>e= .returned (.bool (QJ 2 o ck cn cs ac ar af ag bc br bf bg kl))∧Below w.heap.size w w':=by
 go_enter Tryz.func149,Tryz.ntmps149
 go_wp2_with (first
  | (go_at_call 94;refine(Zv _ _ _).mono ?_;rintro e w1 ⟨rfl,hb⟩;obtain⟨hc,hf,hC,hF,hz,hk,l0⟩:=bk1 (w:=w) (by go_grown) (by go_size) hb;clear hb))
 all_goals
  go_ret;refine⟨Qb ?_,by go_grown⟩;simp [QJ,zP,zV,emp,Qjl, *];try omega
theorem Qbe (o ck cn:Int) (cs:ByteArray) (ac ar:Int) (af ag:Bool) (bc br:Int) (bf bg:Bool) {KA:Option Addr} {kl kc:Nat} (w:World) (hs:cs.size≤maxLen):
  Calls Tryz.prog 149 #[.agg #[.int .i64 3,.int .i64 o,.int .i64 ck,.int .i64 cn,.string cs,.int .i64 ac,.int .i64 ar,.bool af,.bool ag,.int .i64 bc,.int .i64 br,.bool bf,.bool bg,.slice KA kl kc]] w fun e w'=>e= .returned (.bool (QJ 3 o ck cn cs ac ar af ag bc br bf bg kl))∧Below w.heap.size w w':=by
 go_enter Tryz.func149,Tryz.ntmps149
 go_wp2_with (first
  | (go_at_call 117;refine(XH _ _ _ _ _ _ _ _ _ _ _ _ _).mono ?_;rintro e w1 ⟨rfl,hb⟩;obtain⟨hc,hf,hC,hF,hz,hk,l0⟩:=bk1 (w:=w) (by go_grown) (by go_size) hb;clear hb)
  | (go_at_call 191;refine(BD _ _ _ _ _).mono ?_;rintro e w1 ⟨rfl,hb⟩;obtain⟨hc,hf,hC,hF,hz,hk,l0⟩:=bk1 (w:=w) (by go_grown) (by go_size) hb;clear hb))
 all_goals
  go_ret;refine⟨Qb ?_,by go_grown⟩;simp [QJ,zV,emp,Qjl, *];try omega
theorem Qbd (o ck cn:Int) (cs:ByteArray) (ac ar:Int) (af ag:Bool) (bc br:Int) (bf bg:Bool) {KA:Option Addr} {kl kc:Nat} (w:World) (hs:cs.size≤maxLen):
  Calls Tryz.prog 149 #[.agg #[.int .i64 4,.int .i64 o,.int .i64 ck,.int .i64 cn,.string cs,.int .i64 ac,.int .i64 ar,.bool af,.bool ag,.int .i64 bc,.int .i64 br,.bool bf,.bool bg,.slice KA kl kc]] w fun e w'=>e= .returned (.bool (QJ 4 o ck cn cs ac ar af ag bc br bf bg kl))∧Below w.heap.size w w':=by
 go_enter Tryz.func149,Tryz.ntmps149
 go_wp2_with (first
  | (go_at_call 192;refine(Ym _ _ _ _ _ _ _ _ _ _ _ _ _ _).mono ?_;rintro e w1 ⟨rfl,hb⟩;obtain⟨hc,hf,hC,hF,hz,hk,l0⟩:=bk1 (w:=w) (by go_grown) (by go_size) hb;clear hb))
 all_goals
  go_ret;refine⟨Qb ?_,by go_grown⟩;simp [QJ, *];try omega
theorem Qbc (o ck cn:Int) (cs:ByteArray) (ac ar:Int) (af ag:Bool) (bc br:Int) (bf bg:Bool) {KA:Option Addr} {kl kc:Nat} (w:World) (hs:cs.size≤maxLen):
  Calls Tryz.prog 149 #[.agg #[.int .i64 5,.int .i64 o,.int .i64 ck,.int .i64 cn,.string cs,.int .i64 ac,.int .i64 ar,.bool af,.bool ag,.int .i64 bc,.int .i64 br,.bool bf,.bool bg,.slice KA kl kc]] w fun e w'=>e= .returned (.bool (QJ 5 o ck cn cs ac ar af ag bc br bf bg kl))∧Below w.heap.size w w':=by
 go_enter Tryz.func149,Tryz.ntmps149
 go_wp2_with (first
  | (go_at_call 192;refine(Ym _ _ _ _ _ _ _ _ _ _ _ _ _ _).mono ?_;rintro e w1 ⟨rfl,hb⟩;obtain⟨hc,hf,hC,hF,hz,hk,l0⟩:=bk1 (w:=w) (by go_grown) (by go_size) hb;clear hb))
 all_goals
  go_ret;refine⟨Qb ?_,by go_grown⟩;simp [QJ, *];try omega
theorem Qbh (k:Int) (o ck cn:Int) (cs:ByteArray) (ac ar:Int) (af ag:Bool) (bc br:Int) (bf bg:Bool) {KA:Option Addr} {kl kc:Nat} (w:World) (hs:cs.size≤maxLen) (h1: ¬k=1) (h2: ¬k=2) (h3: ¬k=3) (h4: ¬k=4) (h5: ¬k=5) (h6: ¬k=6):
  Calls Tryz.prog 149 #[.agg #[.int .i64 k,.int .i64 o,.int .i64 ck,.int .i64 cn,.string cs,.int .i64 ac,.int .i64 ar,.bool af,.bool ag,.int .i64 bc,.int .i64 br,.bool bf,.bool bg,.slice KA kl kc]] w fun e w'=>e= .returned (.bool (QJ k o ck cn cs ac ar af ag bc br bf bg kl))∧Below w.heap.size w w':=by
 have e1:(k==1)=false:=by simpa using h1
 have e2:(k==2)=false:=by simpa using h2
 have e3:(k==3)=false:=by simpa using h3
 have e4:(k==4)=false:=by simpa using h4
 have e5:(k==5)=false:=by simpa using h5
 have e6:(k==6)=false:=by simpa using h6
 go_enter Tryz.func149,Tryz.ntmps149;go_wp2_with fail
 all_goals
  go_ret;refine⟨Qb ?_,by go_grown⟩;simp [QJ, *];try omega
def VG (o:Nat):Int:=if o=5 then 2 else 1
def GN (o:Nat):Int:=if o=5 then 3 else if 8≤o then 1 else 10
def FT (W:World):Prop:= ∀m:Nat,1≤m→m≤10→ ∃s,W.cell? ⟨2,m*3,none⟩=some (.string s)∧W.cell? ⟨2,m*3+1,none⟩=some (.int .i64 (VG m))∧W.cell? ⟨2,m*3+2,none⟩=some (.int .i64 (GN m))
theorem FT.lt {W:World} (h:FT W):2<W.heap.size:=by
 obtain⟨s,c,_⟩:=h 1 (by omega) (by omega);exact World.block_lt_of_cell? W ⟨2,1*3,none⟩ c
theorem FT.below {W W':World} (h:FT W) (hb:Below W.heap.size W W'):FT W':=fun m h1 h2=>by
 obtain⟨s,c0,c1,c2⟩:=h m h1 h2;exact⟨s,(hb.cell (p:=⟨2,_,none⟩) h.lt).trans c0,(hb.cell (p:=⟨2,_,none⟩) h.lt).trans c1,(hb.cell (p:=⟨2,_,none⟩) h.lt).trans c2⟩
theorem Qdx {m n:Nat} (h1:1≤m) (h2:m≤10):Kn (m:Int) n=decide (VG m≤(n:Int)∧(n:Int)≤GN m):=by
 unfold Kn VG GN;by_cases h5:m=5
 ·subst h5;rw [Bool.eq_iff_iff];simp;omega
 ·have h5': ¬(m:Int)=5:=by omega
  by_cases h8:8≤m
  ·have h8':(8:Int)≤(m:Int)∧(m:Int)≤10:=by omega
   rw [if_neg h5',if_pos h8',if_neg h5,if_neg h5,if_pos h8,Bool.eq_iff_iff];simp;omega
  ·have h8': ¬((8:Int)≤(m:Int)∧(m:Int)≤10):=by omega
   have h7:(1:Int)≤(m:Int)∧(m:Int)≤7:=by omega
   rw [if_neg h5',if_neg h8',if_pos h7,if_neg h5,if_neg h5,if_neg h8,Bool.eq_iff_iff];simp;omega
theorem MA {o:Int} {n:Nat} (h:o<1∨10<o):Kn o n=false:=by
 unfold Kn;rw [if_neg (by omega),if_neg (by omega),if_neg (by omega)]
theorem UV (s:ByteArray) (a b:Int) (n:Nat) (d:Bool) (w:World) (HT:Hid (decide (a≤(n:Int)∧(n:Int)≤b)=d)):Calls Tryz.prog 193 #[.agg #[.string s,.int .i64 a,.int .i64 b],.int .i64 n] w fun e w'=>
  e= .returned (.bool d)∧Below w.heap.size w w':=by
 by_cases h1:a≤(n:Int)
 ·by_cases h2:(n:Int)≤b
  all_goals
   go_enter Tryz.func193,Tryz.ntmps193;go_wp2
   go_ret;exact⟨Qb (by rw [←HT.out,eq_comm];simp;omega),by go_grown⟩
 ·go_enter Tryz.func193,Tryz.ntmps193;go_wp2
  all_goals
   go_ret;exact⟨Qb (by rw [←HT.out,eq_comm];simp;omega),by go_grown⟩
theorem Qbb (o ck cn:Int) (cs:ByteArray) (ac ar:Int) (af ag:Bool) (bc br:Int) (bf bg:Bool) {KA:Option Addr} {kl kc:Nat} (w:World) (hs:cs.size≤maxLen) (hft:FT w):
  Calls Tryz.prog 149 #[.agg #[.int .i64 6,.int .i64 o,.int .i64 ck,.int .i64 cn,.string cs,.int .i64 ac,.int .i64 ar,.bool af,.bool ag,.int .i64 bc,.int .i64 br,.bool bf,.bool bg,.slice KA kl kc]] w fun e w'=>e= .returned (.bool (QJ 6 o ck cn cs ac ar af ag bc br bf bg kl))∧Below w.heap.size w w':=by
 have h0w:=hft.lt;have HFT:Hid (FT w):=hft;clear hft;by_cases h1:o<1
 ·have hg:decide (1≤o)=false:=by simp;omega
  have HE:Hid (QJ 6 o ck cn cs ac ar af ag bc br bf bg kl=false):=by show QJ _ _ _ _ _ _ _ _ _ _ _ _ _ _=_;simp [QJ,MA (Or.inl h1)]
  go_enter Tryz.func149,Tryz.ntmps149;go_wp2_with fail
  refine wp_region_held_drew (S:=(fun w'=>(∀bq oq,bq<w.heap.size+1→w'.cell? ⟨bq,oq,none⟩=(w.alloc (.cells #[.int .i64 6,.int .i64 o,.int .i64 ck,.int .i64 cn,.string cs,.int .i64 ac,.int .i64 ar,.bool af,.bool ag,.int .i64 bc,.int .i64 br,.bool bf,.bool bg,.slice KA kl kc] 143)).cell? ⟨bq,oq,none⟩)∧w.heap.size+1≤w'.heap.size∧Below (w.heap.size+1) (w.alloc (.cells #[.int .i64 6,.int .i64 o,.int .i64 ck,.int .i64 cn,.string cs,.int .i64 ac,.int .i64 ar,.bool af,.bool ag,.int .i64 bc,.int .i64 br,.bool bf,.bool bg,.slice KA kl kc] 143)) w')) (by kernel_rfl) (Qq (by go_size) (by go_grown)) (fun hHeld=> ?_);refine tkA 0 ?_;refine tkB 1 ?_;refine tkA 2 ?_;refine tkB 3 ?_;refine tnA 4 ?_;refine tnB 5 ?_
  refine tnA 6 ?_;refine tkB 7 ?_;refine tkA 8 ?_;refine tnB 9 ?_;refine tnA 10 ?_;refine tnB 11 ?_;refine tnA 12 ?_
  refine tnB 13 ?_;refine tnA 14 ?_;refine tnB 15 ?_;refine tnA 16 ?_;refine tkB 17 ?_;refine tkA 18 ?_;refine tnB 19 ?_
  refine tnA 20 ?_;refine tkB 21 ?_;refine tkB 22 ?_;refine wpAnyH_done (by kernel_rfl) ?_ _;go_wp2_with fail
  go_ret;exact⟨Qb HE.out.symm,Yn (n:=1) (X:=(w.alloc (.cells #[.int .i64 6,.int .i64 o,.int .i64 ck,.int .i64 cn,.string cs,.int .i64 ac,.int .i64 ar,.bool af,.bool ag,.int .i64 bc,.int .i64 br,.bool bf,.bool bg,.slice KA kl kc] 143))) (by go_grown) (by go_grown)⟩
 have hg:1≤o:=by omega
 by_cases h2:10<o
 ·have hh:decide (o≤10)=false:=by simp;omega
  have HE:Hid (QJ 6 o ck cn cs ac ar af ag bc br bf bg kl=false):=by show QJ _ _ _ _ _ _ _ _ _ _ _ _ _ _=_;simp [QJ,MA (Or.inr h2)]
  go_enter Tryz.func149,Tryz.ntmps149;go_wp2_with fail
  refine wp_region_held_drew (S:=(fun w'=>(∀bq oq,bq<w.heap.size+1→w'.cell? ⟨bq,oq,none⟩=(w.alloc (.cells #[.int .i64 6,.int .i64 o,.int .i64 ck,.int .i64 cn,.string cs,.int .i64 ac,.int .i64 ar,.bool af,.bool ag,.int .i64 bc,.int .i64 br,.bool bf,.bool bg,.slice KA kl kc] 143)).cell? ⟨bq,oq,none⟩)∧w.heap.size+1≤w'.heap.size∧Below (w.heap.size+1) (w.alloc (.cells #[.int .i64 6,.int .i64 o,.int .i64 ck,.int .i64 cn,.string cs,.int .i64 ac,.int .i64 ar,.bool af,.bool ag,.int .i64 bc,.int .i64 br,.bool bf,.bool bg,.slice KA kl kc] 143)) w')) (by kernel_rfl) (Qq (by go_size) (by go_grown)) (fun hHeld=> ?_);refine tkA 0 ?_;refine tkB 1 ?_;refine tkA 2 ?_;refine tkB 3 ?_;refine tkA 4 ?_;refine tkB 5 ?_
  refine tkA 6 ?_;refine tkB 7 ?_;refine tkA 8 ?_;refine tnB 9 ?_;refine tnA 10 ?_;refine tnB 11 ?_;refine tnA 12 ?_
  refine tnB 13 ?_;refine tnA 14 ?_;refine tnB 15 ?_;refine tnA 16 ?_;refine tkB 17 ?_;refine tkA 18 ?_;refine tnB 19 ?_
  refine tnA 20 ?_;refine tkB 21 ?_;refine tkB 22 ?_;refine wpAnyH_done (by kernel_rfl) ?_ _;go_wp2_with fail
  go_ret;exact⟨Qb HE.out.symm,Yn (n:=1) (X:=(w.alloc (.cells #[.int .i64 6,.int .i64 o,.int .i64 ck,.int .i64 cn,.string cs,.int .i64 ac,.int .i64 ar,.bool af,.bool ag,.int .i64 bc,.int .i64 br,.bool bf,.bool bg,.slice KA kl kc] 143))) (by go_grown) (by go_grown)⟩
 obtain⟨m,rfl⟩: ∃m:Nat,o=(m:Int):=⟨o.toNat,by omega⟩;have hh:(m:Int)≤10:=by omega
 have b0:(0:Int)≤(m:Int):=by omega
 have b1:(m:Int)<11:=by omega
 have b2: ¬(m:Int)<1:=by omega
 clear h1 h2;obtain⟨fs,t0,t1,t2⟩:=HFT.out m (by omega) (by omega);have hgl0:2<w.heap.size:=HFT.out.lt;have hgl1:2<w.heap.size+1:=Nat.lt_succ_of_lt hgl0;have hgl2:0<w.heap.size:=Nat.lt_of_le_of_lt (Nat.zero_le _) hgl0;obtain⟨lo,HLO⟩: ∃x,Hid (VG m=x):=⟨_,rfl⟩;obtain⟨hi,HHI⟩: ∃x,Hid (GN m=x):=⟨_,rfl⟩
 rw [HLO.out]at t1;rw [HHI.out]at t2;cases ht:decide (lo≤(kl:Int)∧(kl:Int)≤hi)
 ·have HT:Hid (decide (lo≤(kl:Int)∧(kl:Int)≤hi)=false):=ht;have HE:Hid (QJ 6 m ck cn cs ac ar af ag bc br bf bg kl=false):=by show QJ _ _ _ _ _ _ _ _ _ _ _ _ _ _=_;simp only [QJ,Qdx (n:=kl) (show 1≤m by omega) (show m≤10 by omega),HLO.out,HHI.out,ht];rfl
  clear ht;go_enter Tryz.func149,Tryz.ntmps149;go_wp2_with fail
  refine wp_region_held_drew (S:=(fun w'=>(∀bq oq,bq<w.heap.size+1→w'.cell? ⟨bq,oq,none⟩=(w.alloc (.cells #[.int .i64 6,.int .i64 m,.int .i64 ck,.int .i64 cn,.string cs,.int .i64 ac,.int .i64 ar,.bool af,.bool ag,.int .i64 bc,.int .i64 br,.bool bf,.bool bg,.slice KA kl kc] 143)).cell? ⟨bq,oq,none⟩)∧w.heap.size+1≤w'.heap.size∧Below (w.heap.size+1) (w.alloc (.cells #[.int .i64 6,.int .i64 m,.int .i64 ck,.int .i64 cn,.string cs,.int .i64 ac,.int .i64 ar,.bool af,.bool ag,.int .i64 bc,.int .i64 br,.bool bf,.bool bg,.slice KA kl kc] 143)) w')) (by kernel_rfl) (Qq (by go_size) (by go_grown)) (fun hHeld=> ?_);refine tkA 0 ?_;refine tkB 1 ?_;refine tkA 2 ?_;refine tkB 3 ?_;refine tkA 4 ?_;refine tkB 5 ?_
  refine tkA 6 ?_;refine tkB 7 ?_;refine tkA 8 ?_;refine tkB 9 ?_;refine tkA 10 ?_;refine tkB 11 ?_;refine tkA 12 ?_
  refine tkB 13 ?_;refine tkA 14 ?_;refine tkB 15 ?_;refine rqA 16 (fun Kq hKq=> ?_);go_simp
  (refine(UV _ _ _ _ _ _ HT).mono ?_;rintro e w1 ⟨rfl,hb⟩;obtain⟨hk1,hz1⟩:=Qh (B:=w.heap.size+1) (X:=(w.alloc (.cells #[.int .i64 6,.int .i64 m,.int .i64 ck,.int .i64 cn,.string cs,.int .i64 ac,.int .i64 ar,.bool af,.bool ag,.int .i64 bc,.int .i64 br,.bool bf,.bool bg,.slice KA kl kc] 143))) (by go_grown) (by go_size) hb;have hC:=fun b o h=>hk1.cell (p:=⟨b,o,none⟩) h;clear hb)
  refine hkB hKq (Qq (by go_size) (by go_grown)) fun hHeld=> ?_;clear hKq Kq;refine tkA 17 ?_;refine tkB 18 ?_;refine tnA 19 ?_;refine tnB 20 ?_;refine tkA 21 ?_
  refine tkB 22 ?_;refine wpAnyH_done (by kernel_rfl) ?_ _;go_wp2_with fail
  go_ret;exact⟨Qb HE.out.symm,Yn (n:=1) (X:=(w.alloc (.cells #[.int .i64 6,.int .i64 m,.int .i64 ck,.int .i64 cn,.string cs,.int .i64 ac,.int .i64 ar,.bool af,.bool ag,.int .i64 bc,.int .i64 br,.bool bf,.bool bg,.slice KA kl kc] 143))) (by go_grown) (by go_grown)⟩
 ·have HT:Hid (decide (lo≤(kl:Int)∧(kl:Int)≤hi)=true):=ht;have HE:Hid (QJ 6 m ck cn cs ac ar af ag bc br bf bg kl=(zV ck cn cs&&zP ac ar af ag&&zP bc br bf bg)):=by show QJ _ _ _ _ _ _ _ _ _ _ _ _ _ _=_;simp only [QJ,Qdx (n:=kl) (show 1≤m by omega) (show m≤10 by omega),HLO.out,HHI.out,ht];rfl
  clear ht;go_enter Tryz.func149,Tryz.ntmps149;go_wp2_with fail
  refine wp_region_held_drew (S:=(fun w'=>(∀bq oq,bq<w.heap.size+1→w'.cell? ⟨bq,oq,none⟩=(w.alloc (.cells #[.int .i64 6,.int .i64 m,.int .i64 ck,.int .i64 cn,.string cs,.int .i64 ac,.int .i64 ar,.bool af,.bool ag,.int .i64 bc,.int .i64 br,.bool bf,.bool bg,.slice KA kl kc] 143)).cell? ⟨bq,oq,none⟩)∧w.heap.size+1≤w'.heap.size∧Below (w.heap.size+1) (w.alloc (.cells #[.int .i64 6,.int .i64 m,.int .i64 ck,.int .i64 cn,.string cs,.int .i64 ac,.int .i64 ar,.bool af,.bool ag,.int .i64 bc,.int .i64 br,.bool bf,.bool bg,.slice KA kl kc] 143)) w')) (by kernel_rfl) (Qq (by go_size) (by go_grown)) (fun hHeld=> ?_);refine tkA 0 ?_;refine tkB 1 ?_;refine tkA 2 ?_;refine tkB 3 ?_;refine tkA 4 ?_;refine tkB 5 ?_
  refine tkA 6 ?_;refine tkB 7 ?_;refine tkA 8 ?_;refine tkB 9 ?_;refine tkA 10 ?_;refine tkB 11 ?_;refine tkA 12 ?_
  refine tkB 13 ?_;refine tkA 14 ?_;refine tkB 15 ?_;refine rqA 16 (fun Kq hKq=> ?_);go_simp
  (refine(UV _ _ _ _ _ _ HT).mono ?_;rintro e w1 ⟨rfl,hb⟩;obtain⟨hk1,hz1⟩:=Qh (B:=w.heap.size+1) (X:=(w.alloc (.cells #[.int .i64 6,.int .i64 m,.int .i64 ck,.int .i64 cn,.string cs,.int .i64 ac,.int .i64 ar,.bool af,.bool ag,.int .i64 bc,.int .i64 br,.bool bf,.bool bg,.slice KA kl kc] 143))) (by go_grown) (by go_size) hb;have hC:=fun b o h=>hk1.cell (p:=⟨b,o,none⟩) h;clear hb)
  refine hkB hKq (Qq (by go_size) (by go_grown)) fun hHeld=> ?_;clear hKq Kq;refine tkA 17 ?_;refine tkB 18 ?_;refine tkB 19 ?_;refine rqA 20 (fun Kq hKq=> ?_);go_simp
  (refine(Ym _ _ _ _ _ _ _ _ _ _ _ _ _ _).mono ?_;rintro e w1 ⟨rfl,hb⟩;obtain⟨hk1,hz1⟩:=Qh (B:=w.heap.size+1) (X:=(w.alloc (.cells #[.int .i64 6,.int .i64 m,.int .i64 ck,.int .i64 cn,.string cs,.int .i64 ac,.int .i64 ar,.bool af,.bool ag,.int .i64 bc,.int .i64 br,.bool bf,.bool bg,.slice KA kl kc] 143))) (by go_grown) (by go_size) hb;have hC:=fun b o h=>hk1.cell (p:=⟨b,o,none⟩) h;clear hb)
  refine hkB hKq (Qq (by go_size) (by go_grown)) fun hHeld=> ?_;clear hKq Kq;refine tkA 21 ?_;refine tkB 22 ?_;refine wpAnyH_done (by kernel_rfl) ?_ _;go_wp2_with fail
  go_ret;exact⟨Qb HE.out.symm,Yn (n:=1) (X:=(w.alloc (.cells #[.int .i64 6,.int .i64 m,.int .i64 ck,.int .i64 cn,.string cs,.int .i64 ac,.int .i64 ar,.bool af,.bool ag,.int .i64 bc,.int .i64 br,.bool bf,.bool bg,.slice KA kl kc] 143))) (by go_grown) (by go_grown)⟩
theorem Bp (o:Int) (n:Nat) (w:World):Calls Tryz.prog 202 #[.int .i64 o,.int .i64 n] w fun e w'=>
  e= .returned (.bool (Kn o n))∧w'=w:=by
 by_cases h:1≤o∧o≤10
 ·obtain⟨m,rfl⟩: ∃m:Nat,o=(m:Int):=⟨o.toNat,by omega⟩;have hm:m=1∨m=2∨m=3∨m=4∨m=5∨m=6∨m=7∨m=8∨m=9∨m=10:=by omega
  rcases hm with rfl | rfl | rfl | rfl | rfl | rfl | rfl | rfl | rfl | rfl
  all_goals
   go_enter Tryz.func202,Tryz.ntmps202;go_wp2
   all_goals
    go_ret;exact⟨Qb (by rw [Bool.eq_iff_iff];simp [Kn]<;>omega),rfl⟩
 ·have HE:Hid (Kn o n=false):=MA (by omega);have e1:(o==1)=false:=by simp;omega
  have e2:(o==2)=false:=by simp;omega
  have e3:(o==3)=false:=by simp;omega
  have e4:(o==4)=false:=by simp;omega
  have e5:(o==5)=false:=by simp;omega
  have e6:(o==6)=false:=by simp;omega
  have e7:(o==7)=false:=by simp;omega
  have e8:(o==8)=false:=by simp;omega
  have e9:(o==9)=false:=by simp;omega
  have e10:(o==10)=false:=by simp;omega
  clear h;go_enter Tryz.func202,Tryz.ntmps202;go_wp2
  all_goals
   go_ret;exact⟨Qb HE.out.symm,rfl⟩
theorem Qaw (o ck cn:Int) (cs:ByteArray) (ac ar:Int) (af ag:Bool) (bc br:Int) (bf bg:Bool) {KA:Option Addr} {kl kc:Nat} (w:World) (hs:cs.size≤maxLen):
  Calls Tryz.prog 162 #[.agg #[.int .i64 1,.int .i64 o,.int .i64 ck,.int .i64 cn,.string cs,.int .i64 ac,.int .i64 ar,.bool af,.bool ag,.int .i64 bc,.int .i64 br,.bool bf,.bool bg,.slice KA kl kc]] w fun e w'=>e= .returned (.bool (QJ 1 o ck cn cs ac ar af ag bc br bf bg kl))∧Below w.heap.size w w':=by
 go_enter Tryz.func162,Tryz.ntmps162
 go_wp2_with (first
  | (go_at_call 133;refine(Qm _ _ _ _ hs).mono ?_;rintro e w1 ⟨rfl,hb⟩;obtain⟨hc,hf,hC,hF,hz,hk,l0,l1⟩:=bk2 (w:=w) (by go_grown) (by go_size) hb;clear hb))
 all_goals
  go_ret;refine⟨Qb ?_,by go_grown⟩;simp [QJ,cOk,zP,Qjl, *];try omega
  try (intro _;simp_all)
theorem Qav (o ck cn:Int) (cs:ByteArray) (ac ar:Int) (af ag:Bool) (bc br:Int) (bf bg:Bool) {KA:Option Addr} {kl kc:Nat} (w:World) (hs:cs.size≤maxLen):
  Calls Tryz.prog 162 #[.agg #[.int .i64 2,.int .i64 o,.int .i64 ck,.int .i64 cn,.string cs,.int .i64 ac,.int .i64 ar,.bool af,.bool ag,.int .i64 bc,.int .i64 br,.bool bf,.bool bg,.slice KA kl kc]] w fun e w'=>e= .returned (.bool (QJ 2 o ck cn cs ac ar af ag bc br bf bg kl))∧Below w.heap.size w w':=by
 go_enter Tryz.func162,Tryz.ntmps162
 go_wp2_with (first
  | (go_at_call 52;refine(Qp _ _ _).mono ?_;rintro e w1 ⟨rfl,hb⟩;obtain⟨hc,hf,hC,hF,hz,hk,l0,l1⟩:=bk2 (w:=w) (by go_grown) (by go_size) hb;clear hb))
 all_goals
  go_ret;refine⟨Qb ?_,by go_grown⟩;simp [QJ,zP,zV,emp,Qjl, *];try omega
theorem Qau (o ck cn:Int) (cs:ByteArray) (ac ar:Int) (af ag:Bool) (bc br:Int) (bf bg:Bool) {KA:Option Addr} {kl kc:Nat} (w:World) (hs:cs.size≤maxLen):
  Calls Tryz.prog 162 #[.agg #[.int .i64 3,.int .i64 o,.int .i64 ck,.int .i64 cn,.string cs,.int .i64 ac,.int .i64 ar,.bool af,.bool ag,.int .i64 bc,.int .i64 br,.bool bf,.bool bg,.slice KA kl kc]] w fun e w'=>e= .returned (.bool (QJ 3 o ck cn cs ac ar af ag bc br bf bg kl))∧Below w.heap.size w w':=by
 go_enter Tryz.func162,Tryz.ntmps162
 go_wp2_with (first
  | (go_at_call 201;refine(Br _ _ _ _ _).mono ?_;rintro e w1 ⟨rfl,hb⟩;obtain⟨hc,hf,hC,hF,hz,hk,l0,l1⟩:=bk2 (w:=w) (by go_grown) (by go_size) hb;clear hb))
 all_goals
  go_ret;refine⟨Qb ?_,by go_grown⟩;simp [QJ,zV,emp,Qjl, *];try omega
theorem Qat (o ck cn:Int) (cs:ByteArray) (ac ar:Int) (af ag:Bool) (bc br:Int) (bf bg:Bool) {KA:Option Addr} {kl kc:Nat} (w:World) (hs:cs.size≤maxLen):
  Calls Tryz.prog 162 #[.agg #[.int .i64 4,.int .i64 o,.int .i64 ck,.int .i64 cn,.string cs,.int .i64 ac,.int .i64 ar,.bool af,.bool ag,.int .i64 bc,.int .i64 br,.bool bf,.bool bg,.slice KA kl kc]] w fun e w'=>e= .returned (.bool (QJ 4 o ck cn cs ac ar af ag bc br bf bg kl))∧Below w.heap.size w w':=by
 go_enter Tryz.func162,Tryz.ntmps162;go_wp2_with fail
 all_goals
  go_ret;refine⟨Qb ?_,by go_grown⟩;simp [QJ,zP,zV,emp,len1, *];try omega
theorem Qas (o ck cn:Int) (cs:ByteArray) (ac ar:Int) (af ag:Bool) (bc br:Int) (bf bg:Bool) {KA:Option Addr} {kl kc:Nat} (w:World) (hs:cs.size≤maxLen):
  Calls Tryz.prog 162 #[.agg #[.int .i64 5,.int .i64 o,.int .i64 ck,.int .i64 cn,.string cs,.int .i64 ac,.int .i64 ar,.bool af,.bool ag,.int .i64 bc,.int .i64 br,.bool bf,.bool bg,.slice KA kl kc]] w fun e w'=>e= .returned (.bool (QJ 5 o ck cn cs ac ar af ag bc br bf bg kl))∧Below w.heap.size w w':=by
 go_enter Tryz.func162,Tryz.ntmps162
 go_wp2_with (first
  | (go_at_call 55;refine(QZ _ _ _ _).mono ?_;rintro e w1 ⟨rfl,rfl⟩))
 all_goals
  go_ret;refine⟨Qb ?_,by go_grown⟩;simp [QJ,zP,zV,emp,len2, *];try omega
theorem Qar (o ck cn:Int) (cs:ByteArray) (ac ar:Int) (af ag:Bool) (bc br:Int) (bf bg:Bool) {KA:Option Addr} {kl kc:Nat} (w:World) (hs:cs.size≤maxLen):
  Calls Tryz.prog 162 #[.agg #[.int .i64 6,.int .i64 o,.int .i64 ck,.int .i64 cn,.string cs,.int .i64 ac,.int .i64 ar,.bool af,.bool ag,.int .i64 bc,.int .i64 br,.bool bf,.bool bg,.slice KA kl kc]] w fun e w'=>e= .returned (.bool (QJ 6 o ck cn cs ac ar af ag bc br bf bg kl))∧Below w.heap.size w w':=by
 go_enter Tryz.func162,Tryz.ntmps162
 go_wp2_with (first
  | (go_at_call 202;refine(Bp _ _ _).mono ?_;rintro e w1 ⟨rfl,rfl⟩))
 all_goals
  go_ret;refine⟨Qb ?_,by go_grown⟩;simp [QJ,zP,zV,emp, *];try omega
theorem Qax (k:Int) (o ck cn:Int) (cs:ByteArray) (ac ar:Int) (af ag:Bool) (bc br:Int) (bf bg:Bool) {KA:Option Addr} {kl kc:Nat} (w:World) (hs:cs.size≤maxLen) (h1: ¬k=1) (h2: ¬k=2) (h3: ¬k=3) (h4: ¬k=4) (h5: ¬k=5) (h6: ¬k=6):
  Calls Tryz.prog 162 #[.agg #[.int .i64 k,.int .i64 o,.int .i64 ck,.int .i64 cn,.string cs,.int .i64 ac,.int .i64 ar,.bool af,.bool ag,.int .i64 bc,.int .i64 br,.bool bf,.bool bg,.slice KA kl kc]] w fun e w'=>e= .returned (.bool (QJ k o ck cn cs ac ar af ag bc br bf bg kl))∧Below w.heap.size w w':=by
 have e1:(k==1)=false:=by simpa using h1
 have e2:(k==2)=false:=by simpa using h2
 have e3:(k==3)=false:=by simpa using h3
 have e4:(k==4)=false:=by simpa using h4
 have e5:(k==5)=false:=by simpa using h5
 have e6:(k==6)=false:=by simpa using h6
 go_enter Tryz.func162,Tryz.ntmps162;go_wp2_with fail
 all_goals
  go_ret;refine⟨Qb ?_,by go_grown⟩;simp [QJ, *];try omega
end Go.Proofs.YtejbnnacghbhoaaGreatDoor
