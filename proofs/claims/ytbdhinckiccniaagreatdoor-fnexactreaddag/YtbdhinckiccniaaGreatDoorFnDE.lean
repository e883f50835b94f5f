import Derived.Test.YtbdhinckiccniaaGreatDoorMn
import Derived.Test.YtbdhinckiccniaaGreatDoorGzd
set_option linter.unusedSimpArgs false
set_option linter.unusedVariables false
set_option maxHeartbeats 4000000
set_option maxRecDepth 100000
namespace Go.Proofs.YtbdhinckiccniaaGreatDoor
open Go.RowKit
def QG (k o ck cn:Int) (cs:ByteArray) (ac ar:Int) (af ag:Bool) (bc br:Int) (bf bg:Bool) (kl:Nat):Bool:=
 if k=1 then cOk ck cn cs&&decide (o=0)&&zP ac ar af ag&&zP bc br bf bg&&decide (kl=0)
 else if k=2 then Qh ac ar&&decide (o=0)&&zV ck cn cs&&zP bc br bf bg&&decide (kl=0)
 else if k=3 then Yk ac ar bc br&&decide (o=0)&&zV ck cn cs&&decide (kl=0)
 else if k=4 then decide (kl=1)&&decide (o=0)&&(zV ck cn cs&&zP ac ar af ag&&zP bc br bf bg)
 else if k=5 then decide (kl=2)&&decide (1≤o∧o≤11)&&(zV ck cn cs&&zP ac ar af ag&&zP bc br bf bg)
 else if k=6 then Ky o kl&&(zV ck cn cs&&zP ac ar af ag&&zP bc br bf bg)
 else false
theorem Qms (n:Nat):((n:Int)==0)=decide (n=0):=by rw [Bool.eq_iff_iff];simp
theorem len1 (n:Nat):((n:Int)==1)=decide (n=1):=by rw [Bool.eq_iff_iff];simp;omega
theorem len2 (n:Nat):((n:Int)==2)=decide (n=2):=by rw [Bool.eq_iff_iff];simp;omega
theorem Qdz (o ck cn:Int) (cs:ByteArray) (ac ar:Int) (af ag:Bool) (bc br:Int) (bf bg:Bool) {KA:Option Addr} {kl kc:Nat} (w:World) (hs:cs.size≤maxLen):
  Calls Tryz.prog 207 #[.agg #[.int .i64 1,.int .i64 o,.int .i64 ck,.int .i64 cn,.string cs,.int .i64 ac,.int .i64 ar,.bool af,.bool ag,.int .i64 bc,.int .i64 br,.bool bf,.bool bg,.slice KA kl kc]] w fun e w'=>e= .returned (.bool (QG 1 o ck cn cs ac ar af ag bc br bf bg kl))∧Below w.heap.size w w':=by
 go_enter Tryz.func207,Tryz.ntmps207
 go_wp2_with (first
  | (go_at_call 250;refine(Bw _ _ _ _ hs).mono ?_;rintro e w1 ⟨rfl,hb⟩;obtain⟨hc,hf,hC,hF,hz,hk,l0⟩:=bk1 (w:=w) (by go_grown) (by go_size) hb;clear hb))
 all_goals
  go_ret;refine⟨Qb ?_,by go_grown⟩;simp [QG,zP,Qms, *];try omega
theorem Qdy (o ck cn:Int) (cs:ByteArray) (ac ar:Int) (af ag:Bool) (bc br:Int) (bf bg:Bool) {KA:Option Addr} {kl kc:Nat} (w:World) (hs:cs.size≤maxLen):
  Calls Tryz.prog 207 #[.agg #[.int .i64 2,.int .i64 o,.int .i64 ck,.int .i64 cn,.string cs,.int .i64 ac,.int .i64 ar,.bool af,.bool ag,.int .i64 bc,.int .i64 br,.bool bf,.bool bg,.slice KA kl kc]] w fun e w'=>e= .returned (.bool (QG 2 o ck cn cs ac ar af ag bc br bf bg kl))∧Below w.heap.size w w':=by
 go_enter Tryz.func207,Tryz.ntmps207
 go_wp2_with (first
  | (go_at_call 95;refine(Zi _ _ _).mono ?_;rintro e w1 ⟨rfl,hb⟩;obtain⟨hc,hf,hC,hF,hz,hk,l0⟩:=bk1 (w:=w) (by go_grown) (by go_size) hb;clear hb))
 all_goals
  go_ret;refine⟨Qb ?_,by go_grown⟩;simp [QG,zP,zV,emp,Qms, *];try omega
theorem Qdx (o ck cn:Int) (cs:ByteArray) (ac ar:Int) (af ag:Bool) (bc br:Int) (bf bg:Bool) {KA:Option Addr} {kl kc:Nat} (w:World) (hs:cs.size≤maxLen):
  Calls Tryz.prog 207 #[.agg #[.int .i64 3,.int .i64 o,.int .i64 ck,.int .i64 cn,.string cs,.int .i64 ac,.int .i64 ar,.bool af,.bool ag,.int .i64 bc,.int .i64 br,.bool bf,.bool bg,.slice KA kl kc]] w fun e w'=>e= .returned (.bool (QG 3 o ck cn cs ac ar af ag bc br bf bg kl))∧Below w.heap.size w w':=by
 go_enter Tryz.func207,Tryz.ntmps207
 go_wp2_with (first
  | (go_at_call 252;refine(Gq _ _ _ _ _ _ _ _ _ _ _ _ _).mono ?_;rintro e w1 ⟨rfl,hb⟩;obtain⟨hc,hf,hC,hF,hz,hk,l0⟩:=bk1 (w:=w) (by go_grown) (by go_size) hb;clear hb)
  | (go_at_call 251;refine(Ub _ _ _ _ _).mono ?_;rintro e w1 ⟨rfl,hb⟩;obtain⟨hc,hf,hC,hF,hz,hk,l0⟩:=bk1 (w:=w) (by go_grown) (by go_size) hb;clear hb))
 all_goals
  go_ret;refine⟨Qb ?_,by go_grown⟩;simp [QG,zV,emp,Qms, *];try omega
theorem Qdw (o ck cn:Int) (cs:ByteArray) (ac ar:Int) (af ag:Bool) (bc br:Int) (bf bg:Bool) {KA:Option Addr} {kl kc:Nat} (w:World) (hs:cs.size≤maxLen):
  Calls Tryz.prog 207 #[.agg #[.int .i64 4,.int .i64 o,.int .i64 ck,.int .i64 cn,.string cs,.int .i64 ac,.int .i64 ar,.bool af,.bool ag,.int .i64 bc,.int .i64 br,.bool bf,.bool bg,.slice KA kl kc]] w fun e w'=>e= .returned (.bool (QG 4 o ck cn cs ac ar af ag bc br bf bg kl))∧Below w.heap.size w w':=by
 go_enter Tryz.func207,Tryz.ntmps207
 go_wp2_with (first
  | (go_at_call 253;refine(ZS _ _ _ _ _ _ _ _ _ _ _ _ _ _).mono ?_;rintro e w1 ⟨rfl,hb⟩;obtain⟨hc,hf,hC,hF,hz,hk,l0⟩:=bk1 (w:=w) (by go_grown) (by go_size) hb;clear hb))
 all_goals
  go_ret;refine⟨Qb ?_,by go_grown⟩;simp [QG, *];try omega
theorem Qdv (o ck cn:Int) (cs:ByteArray) (ac ar:Int) (af ag:Bool) (bc br:Int) (bf bg:Bool) {KA:Option Addr} {kl kc:Nat} (w:World) (hs:cs.size≤maxLen):
  Calls Tryz.prog 207 #[.agg #[.int .i64 5,.int .i64 o,.int .i64 ck,.int .i64 cn,.string cs,.int .i64 ac,.int .i64 ar,.bool af,.bool ag,.int .i64 bc,.int .i64 br,.bool bf,.bool bg,.slice KA kl kc]] w fun e w'=>e= .returned (.bool (QG 5 o ck cn cs ac ar af ag bc br bf bg kl))∧Below w.heap.size w w':=by
 go_enter Tryz.func207,Tryz.ntmps207
 go_wp2_with (first
  | (go_at_call 253;refine(ZS _ _ _ _ _ _ _ _ _ _ _ _ _ _).mono ?_;rintro e w1 ⟨rfl,hb⟩;obtain⟨hc,hf,hC,hF,hz,hk,l0⟩:=bk1 (w:=w) (by go_grown) (by go_size) hb;clear hb))
 all_goals
  go_ret;refine⟨Qb ?_,by go_grown⟩;simp [QG, *];try omega
theorem Qd0 (k:Int) (o ck cn:Int) (cs:ByteArray) (ac ar:Int) (af ag:Bool) (bc br:Int) (bf bg:Bool) {KA:Option Addr} {kl kc:Nat} (w:World) (hs:cs.size≤maxLen) (h1: ¬k=1) (h2: ¬k=2) (h3: ¬k=3) (h4: ¬k=4) (h5: ¬k=5) (h6: ¬k=6):
  Calls Tryz.prog 207 #[.agg #[.int .i64 k,.int .i64 o,.int .i64 ck,.int .i64 cn,.string cs,.int .i64 ac,.int .i64 ar,.bool af,.bool ag,.int .i64 bc,.int .i64 br,.bool bf,.bool bg,.slice KA kl kc]] w fun e w'=>e= .returned (.bool (QG k o ck cn cs ac ar af ag bc br bf bg kl))∧Below w.heap.size w w':=by
 have e1:(k==1)=false:=by simpa using h1
 have e2:(k==2)=false:=by simpa using h2
 have e3:(k==3)=false:=by simpa using h3
 have e4:(k==4)=false:=by simpa using h4
 have e5:(k==5)=false:=by simpa using h5
 have e6:(k==6)=false:=by simpa using h6
 go_enter Tryz.func207,Tryz.ntmps207;go_wp2_with fail
 all_goals
  go_ret;refine⟨Qb ?_,by go_grown⟩;simp [QG, *];try omega
def VN (o:Nat):Int:=if o=5 then 2 else 1
def Uy (o:Nat):Int:=if o=5 then 3 else if 8≤o then 1 else 10
def FT (W:World):Prop:= ∀m:Nat,1≤m→m≤10→ ∃s,W.cell? ⟨2,m*3,none⟩=some (.string s)∧W.cell? ⟨2,m*3+1,none⟩=some (.int .i64 (VN m))∧W.cell? ⟨2,m*3+2,none⟩=some (.int .i64 (Uy m))
theorem FT.lt {W:World} (h:FT W):2<W.heap.size:=by
 obtain⟨s,c,_⟩:=h 1 (by omega) (by omega);exact World.block_lt_of_cell? W ⟨2,1*3,none⟩ c
theorem FT.below {W W':World} (h:FT W) (hb:Below W.heap.size W W'):FT W':=fun m h1 h2=>by
 obtain⟨s,c0,c1,c2⟩:=h m h1 h2;exact⟨s,(hb.cell (p:=⟨2,_,none⟩) h.lt).trans c0,(hb.cell (p:=⟨2,_,none⟩) h.lt).trans c1,(hb.cell (p:=⟨2,_,none⟩) h.lt).trans c2⟩
theorem Qgy {m n:Nat} (h1:1≤m) (h2:m≤10):Ky (m:Int) n=decide (VN m≤(n:Int)∧(n:Int)≤Uy m):=by
 unfold Ky VN Uy;by_cases h5:m=5
 ·subst h5;rw [Bool.eq_iff_iff];simp;omega
 ·have h5': ¬(m:Int)=5:=by omega
  by_cases h8:8≤m
  ·have h8':(8:Int)≤(m:Int)∧(m:Int)≤10:=by omega
   rw [if_neg h5',if_pos h8',if_neg h5,if_neg h5,if_pos h8,Bool.eq_iff_iff];simp;omega
  ·have h8': ¬((8:Int)≤(m:Int)∧(m:Int)≤10):=by omega
   have h7:(1:Int)≤(m:Int)∧(m:Int)≤7:=by omega
   rw [if_neg h5',if_neg h8',if_pos h7,if_neg h5,if_neg h5,if_neg h8,Bool.eq_iff_iff];simp;omega
theorem NG {o:Int} {n:Nat} (h:o<1∨10<o):Ky o n=false:=by
 unfold Ky;rw [if_neg (by omega),if_neg (by omega),if_neg (by omega)]
theorem MM (s:ByteArray) (a b:Int) (n:Nat) (d:Bool) (w:World) (HT:Hid (decide (a≤(n:Int)∧(n:Int)≤b)=d)):Calls Tryz.prog 254 #[.agg #[.string s,.int .i64 a,.int .i64 b],.int .i64 n] w fun e w'=>
  e= .returned (.bool d)∧Below w.heap.size w w':=by
 by_cases h1:a≤(n:Int)
 ·by_cases h2:(n:Int)≤b
  all_goals
   go_enter Tryz.func254,Tryz.ntmps254;go_wp2
   go_ret;exact⟨Qb (by rw [←HT.out,eq_comm];simp;omega),by go_grown⟩
 ·go_enter Tryz.func254,Tryz.ntmps254;go_wp2
  all_goals
   go_ret;exact⟨Qb (by rw [←HT.out,eq_comm];simp;omega),by go_grown⟩
theorem Qdu (o ck cn:Int) (cs:ByteArray) (ac ar:Int) (af ag:Bool) (bc br:Int) (bf bg:Bool) {KA:Option Addr} {kl kc:Nat} (w:World) (hs:cs.size≤maxLen) (hft:FT w):
  Calls Tryz.prog 207 #[.agg #[.int .i64 6,.int .i64 o,.int .i64 ck,.int .i64 cn,.string cs,.int .i64 ac,.int .i64 ar,.bool af,.bool ag,.int .i64 bc,.int .i64 br,.bool bf,.bool bg,.slice KA kl kc]] w fun e w'=>e= .returned (.bool (QG 6 o ck cn cs ac ar af ag bc br bf bg kl))∧Below w.heap.size w w':=by
 have h0w:=hft.lt;have HFT:Hid (FT w):=hft;clear hft;by_cases h1:o<1
 ·have hg:decide (1≤o)=false:=by simp;omega
  have HE:Hid (QG 6 o ck cn cs ac ar af ag bc br bf bg kl=false):=by show QG _ _ _ _ _ _ _ _ _ _ _ _ _ _=_;simp [QG,NG (Or.inl h1)]
  go_enter Tryz.func207,Tryz.ntmps207;go_wp2_with fail
  refine wp_region_held_drew (S:=(fun w'=>(∀bq oq,bq<w.heap.size+1→w'.cell? ⟨bq,oq,none⟩=(w.alloc (.cells #[.int .i64 6,.int .i64 o,.int .i64 ck,.int .i64 cn,.string cs,.int .i64 ac,.int .i64 ar,.bool af,.bool ag,.int .i64 bc,.int .i64 br,.bool bf,.bool bg,.slice KA kl kc] 201)).cell? ⟨bq,oq,none⟩)∧w.heap.size+1≤w'.heap.size∧Below (w.heap.size+1) (w.alloc (.cells #[.int .i64 6,.int .i64 o,.int .i64 ck,.int .i64 cn,.string cs,.int .i64 ac,.int .i64 ar,.bool af,.bool ag,.int .i64 bc,.int .i64 br,.bool bf,.bool bg,.slice KA kl kc] 201)) w')) (by kernel_rfl) (Qp (by go_size) (by go_grown)) (fun hHeld=> ?_);refine tkA 0 ?_;refine tkB 1 ?_;refine tkA 2 ?_;refine tkB 3 ?_;refine tnA 4 ?_;refine tnB 5 ?_
  refine tnA 6 ?_;refine tkB 7 ?_;refine tkA 8 ?_;refine tnB 9 ?_;refine tnA 10 ?_;refine tnB 11 ?_;refine tnA 12 ?_
  refine tnB 13 ?_;refine tnA 14 ?_;refine tnB 15 ?_;refine tnA 16 ?_;refine tkB 17 ?_;refine tkA 18 ?_;refine tnB 19 ?_
  refine tnA 20 ?_;refine tkB 21 ?_;refine tkB 22 ?_;refine wpAnyH_done (by kernel_rfl) ?_ _;go_wp2_with fail
  go_ret;exact⟨Qb HE.out.symm,ZT (n:=1) (X:=(w.alloc (.cells #[.int .i64 6,.int .i64 o,.int .i64 ck,.int .i64 cn,.string cs,.int .i64 ac,.int .i64 ar,.bool af,.bool ag,.int .i64 bc,.int .i64 br,.bool bf,.bool bg,.slice KA kl kc] 201))) (by go_grown) (by go_grown)⟩
 have hg:1≤o:=by omega
 by_cases h2:10<o
 ·have hh:decide (o≤10)=false:=by simp;omega
  have HE:Hid (QG 6 o ck cn cs ac ar af ag bc br bf bg kl=false):=by show QG _ _ _ _ _ _ _ _ _ _ _ _ _ _=_;simp [QG,NG (Or.inr h2)]
  go_enter Tryz.func207,Tryz.ntmps207;go_wp2_with fail
  refine wp_region_held_drew (S:=(fun w'=>(∀bq oq,bq<w.heap.size+1→w'.cell? ⟨bq,oq,none⟩=(w.alloc (.cells #[.int .i64 6,.int .i64 o,.int .i64 ck,.int .i64 cn,.string cs,.int .i64 ac,.int .i64 ar,.bool af,.bool ag,.int .i64 bc,.int .i64 br,.bool bf,.bool bg,.slice KA kl kc] 201)).cell? ⟨bq,oq,none⟩)∧w.heap.size+1≤w'.heap.size∧Below (w.heap.size+1) (w.alloc (.cells #[.int .i64 6,.int .i64 o,.int .i64 ck,.int .i64 cn,.string cs,.int .i64 ac,.int .i64 ar,.bool af,.bool ag,.int .i64 bc,.int .i64 br,.bool bf,.bool bg,.slice KA kl kc] 201)) w')) (by kernel_rfl) (Qp (by go_size) (by go_grown)) (fun hHeld=> ?_);refine tkA 0 ?_;refine tkB 1 ?_;refine tkA 2 ?_;refine tkB 3 ?_;refine tkA 4 ?_;refine tkB 5 ?_
  refine tkA 6 ?_;refine tkB 7 ?_;refine tkA 8 ?_;refine tnB 9 ?_;refine tnA 10 ?_;refine tnB 11 ?_;refine tnA 12 ?_
  refine tnB 13 ?_;refine tnA 14 ?_;refine tnB 15 ?_;refine tnA 16 ?_;refine tkB 17 ?_;refine tkA 18 ?_;refine tnB 19 ?_
  refine tnA 20 ?_;refine tkB 21 ?_;refine tkB 22 ?_;refine wpAnyH_done (by kernel_rfl) ?_ _;go_wp2_with fail
  go_ret;exact⟨Qb HE.out.symm,ZT (n:=1) (X:=(w.alloc (.cells #[.int .i64 6,.int .i64 o,.int .i64 ck,.int .i64 cn,.string cs,.int .i64 ac,.int .i64 ar,.bool af,.bool ag,.int .i64 bc,.int .i64 br,.bool bf,.bool bg,.slice KA kl kc] 201))) (by go_grown) (by go_grown)⟩
 obtain⟨m,rfl⟩: ∃m:Nat,o=(m:Int):=⟨o.toNat,by omega⟩;have hh:(m:Int)≤10:=by omega
 have b0:(0:Int)≤(m:Int):=by omega
 have b1:(m:Int)<11:=by omega
 have b2: ¬(m:Int)<1:=by omega
 clear h1 h2;obtain⟨fs,t0,t1,t2⟩:=HFT.out m (by omega) (by omega);have hgl0:2<w.heap.size:=HFT.out.lt;have hgl1:2<w.heap.size+1:=Nat.lt_succ_of_lt hgl0;have hgl2:0<w.heap.size:=Nat.lt_of_le_of_lt (Nat.zero_le _) hgl0;obtain⟨lo,HLO⟩: ∃x,Hid (VN m=x):=⟨_,rfl⟩;obtain⟨hi,HHI⟩: ∃x,Hid (Uy m=x):=⟨_,rfl⟩
 rw [HLO.out]at t1;rw [HHI.out]at t2;cases ht:decide (lo≤(kl:Int)∧(kl:Int)≤hi)
 ·have HT:Hid (decide (lo≤(kl:Int)∧(kl:Int)≤hi)=false):=ht;have HE:Hid (QG 6 m ck cn cs ac ar af ag bc br bf bg kl=false):=by show QG _ _ _ _ _ _ _ _ _ _ _ _ _ _=_;simp only [QG,Qgy (n:=kl) (show 1≤m by omega) (show m≤10 by omega),HLO.out,HHI.out,ht];rfl
  clear ht;go_enter Tryz.func207,Tryz.ntmps207;go_wp2_with fail
  refine wp_region_held_drew (S:=(fun w'=>(∀bq oq,bq<w.heap.size+1→w'.cell? ⟨bq,oq,none⟩=(w.alloc (.cells #[.int .i64 6,.int .i64 m,.int .i64 ck,.int .i64 cn,.string cs,.int .i64 ac,.int .i64 ar,.bool af,.bool ag,.int .i64 bc,.int .i64 br,.bool bf,.bool bg,.slice KA kl kc] 201)).cell? ⟨bq,oq,none⟩)∧w.heap.size+1≤w'.heap.size∧Below (w.heap.size+1) (w.alloc (.cells #[.int .i64 6,.int .i64 m,.int .i64 ck,.int .i64 cn,.string cs,.int .i64 ac,.int .i64 ar,.bool af,.bool ag,.int .i64 bc,.int .i64 br,.bool bf,.bool bg,.slice KA kl kc] 201)) w')) (by kernel_rfl) (Qp (by go_size) (by go_grown)) (fun hHeld=> ?_);refine tkA 0 ?_;refine tkB 1 ?_;refine tkA 2 ?_;refine tkB 3 ?_;refine tkA 4 ?_;refine tkB 5 ?_
  refine tkA 6 ?_;refine tkB 7 ?_;refine tkA 8 ?_;refine tkB 9 ?_;refine tkA 10 ?_;refine tkB 11 ?_;refine tkA 12 ?_
  refine tkB 13 ?_;refine tkA 14 ?_;refine tkB 15 ?_;refine rqA 16 (fun Kq hKq=> ?_);go_simp
  (refine(MM _ _ _ _ _ _ HT).mono ?_;rintro e w1 ⟨rfl,hb⟩;obtain⟨hk1,hz1⟩:=Qg (B:=w.heap.size+1) (X:=(w.alloc (.cells #[.int .i64 6,.int .i64 m,.int .i64 ck,.int .i64 cn,.string cs,.int .i64 ac,.int .i64 ar,.bool af,.bool ag,.int .i64 bc,.int .i64 br,.bool bf,.bool bg,.slice KA kl kc] 201))) (by go_grown) (by go_size) hb;have hC:=fun b o h=>hk1.cell (p:=⟨b,o,none⟩) h;clear hb)
  refine hkB hKq (Qp (by go_size) (by go_grown)) fun hHeld=> ?_;clear hKq Kq;refine tkA 17 ?_;refine tkB 18 ?_;refine tnA 19 ?_;refine tnB 20 ?_;refine tkA 21 ?_
  refine tkB 22 ?_;refine wpAnyH_done (by kernel_rfl) ?_ _;go_wp2_with fail
  go_ret;exact⟨Qb HE.out.symm,ZT (n:=1) (X:=(w.alloc (.cells #[.int .i64 6,.int .i64 m,.int .i64 ck,.int .i64 cn,.string cs,.int .i64 ac,.int .i64 ar,.bool af,.bool ag,.int .i64 bc,.int .i64 br,.bool bf,.bool bg,.slice KA kl kc] 201))) (by go_grown) (by go_grown)⟩
 ·have HT:Hid (decide (lo≤(kl:Int)∧(kl:Int)≤hi)=true):=ht;have HE:Hid (QG 6 m ck cn cs ac ar af ag bc br bf bg kl=(zV ck cn cs&&zP ac ar af ag&&zP bc br bf bg)):=by show QG _ _ _ _ _ _ _ _ _ _ _ _ _ _=_;simp only [QG,Qgy (n:=kl) (show 1≤m by omega) (show m≤10 by omega),HLO.out,HHI.out,ht];rfl
  clear ht;go_enter Tryz.func207,Tryz.ntmps207;go_wp2_with fail
  refine wp_region_held_drew (S:=(fun w'=>(∀bq oq,bq<w.heap.size+1→w'.cell? ⟨bq,oq,none⟩=(w.alloc (.cells #[.int .i64 6,.int .i64 m,.int .i64 ck,.int .i64 cn,.string cs,.int .i64 ac,.int .i64 ar,.bool af,.bool ag,.int .i64 bc,.int .i64 br,.bool bf,.bool bg,.slice KA kl kc] 201)).cell? ⟨bq,oq,none⟩)∧w.heap.size+1≤w'.heap.size∧Below (w.heap.size+1) (w.alloc (.cells #[.int .i64 6,.int .i64 m,.int .i64 ck,.int .i64 cn,.string cs,.int .i64 ac,.int .i64 ar,.bool af,.bool ag,.int .i64 bc,.int .i64 br,.bool bf,.bool bg,.slice KA kl kc] 201)) w')) (by kernel_rfl) (Qp (by go_size) (by go_grown)) (fun hHeld=> ?_);refine tkA 0 ?_;refine tkB 1 ?_;refine tkA 2 ?_;refine tkB 3 ?_;refine tkA 4 ?_;refine tkB 5 ?_
  refine tkA 6 ?_;refine tkB 7 ?_;refine tkA 8 ?_;refine tkB 9 ?_;refine tkA 10 ?_;refine tkB 11 ?_;refine tkA 12 ?_
  refine tkB 13 ?_;refine tkA 14 ?_;refine tkB 15 ?_;refine rqA 16 (fun Kq hKq=> ?_);go_simp
  (refine(MM _ _ _ _ _ _ HT).mono ?_;rintro e w1 ⟨rfl,hb⟩;obtain⟨hk1,hz1⟩:=Qg (B:=w.heap.size+1) (X:=(w.alloc (.cells #[.int .i64 6,.int .i64 m,.int .i64 ck,.int .i64 cn,.string cs,.int .i64 ac,.int .i64 ar,.bool af,.bool ag,.int .i64 bc,.int .i64 br,.bool bf,.bool bg,.slice KA kl kc] 201))) (by go_grown) (by go_size) hb;have hC:=fun b o h=>hk1.cell (p:=⟨b,o,none⟩) h;clear hb)
  refine hkB hKq (Qp (by go_size) (by go_grown)) fun hHeld=> ?_;clear hKq Kq;refine tkA 17 ?_;refine tkB 18 ?_;refine tkB 19 ?_;refine rqA 20 (fun Kq hKq=> ?_);go_simp
  (refine(ZS _ _ _ _ _ _ _ _ _ _ _ _ _ _).mono ?_;rintro e w1 ⟨rfl,hb⟩;obtain⟨hk1,hz1⟩:=Qg (B:=w.heap.size+1) (X:=(w.alloc (.cells #[.int .i64 6,.int .i64 m,.int .i64 ck,.int .i64 cn,.string cs,.int .i64 ac,.int .i64 ar,.bool af,.bool ag,.int .i64 bc,.int .i64 br,.bool bf,.bool bg,.slice KA kl kc] 201))) (by go_grown) (by go_size) hb;have hC:=fun b o h=>hk1.cell (p:=⟨b,o,none⟩) h;clear hb)
  refine hkB hKq (Qp (by go_size) (by go_grown)) fun hHeld=> ?_;clear hKq Kq;refine tkA 21 ?_;refine tkB 22 ?_;refine wpAnyH_done (by kernel_rfl) ?_ _;go_wp2_with fail
  go_ret;exact⟨Qb HE.out.symm,ZT (n:=1) (X:=(w.alloc (.cells #[.int .i64 6,.int .i64 m,.int .i64 ck,.int .i64 cn,.string cs,.int .i64 ac,.int .i64 ar,.bool af,.bool ag,.int .i64 bc,.int .i64 br,.bool bf,.bool bg,.slice KA kl kc] 201))) (by go_grown) (by go_grown)⟩
theorem Qam (o:Int) (n:Nat) (w:World):Calls Tryz.prog 223 #[.int .i64 o,.int .i64 n] w fun e w'=>
  e= .returned (.bool (Ky o n))∧w'=w:=by
 by_cases h:1≤o∧o≤10
 ·obtain⟨m,rfl⟩: ∃m:Nat,o=(m:Int):=⟨o.toNat,by omega⟩;have hm:m=1∨m=2∨m=3∨m=4∨m=5∨m=6∨m=7∨m=8∨m=9∨m=10:=by omega
  rcases hm with rfl | rfl | rfl | rfl | rfl | rfl | rfl | rfl | rfl | rfl
  all_goals
   go_enter Tryz.func223,Tryz.ntmps223;go_wp2
   all_goals
    go_ret;exact⟨Qb (by rw [Bool.eq_iff_iff];simp [Ky]<;>omega),rfl⟩
 ·have HE:Hid (Ky o n=false):=NG (by omega);have e1:(o==1)=false:=by simp;omega
  have e2:(o==2)=false:=by simp;omega
  have e3:(o==3)=false:=by simp;omega
  have e4:(o==4)=false:=by simp;omega
  have e5:(o==5)=false:=by simp;omega
  have e6:(o==6)=false:=by simp;omega
  have e7:(o==7)=false:=by simp;omega
  have e8:(o==8)=false:=by simp;omega
  have e9:(o==9)=false:=by simp;omega
  have e10:(o==10)=false:=by simp;omega
  clear h;go_enter Tryz.func223,Tryz.ntmps223;go_wp2
  all_goals
   go_ret;exact⟨Qb HE.out.symm,rfl⟩
theorem Qc9 (o ck cn:Int) (cs:ByteArray) (ac ar:Int) (af ag:Bool) (bc br:Int) (bf bg:Bool) {KA:Option Addr} {kl kc:Nat} (w:World) (hs:cs.size≤maxLen):
  Calls Tryz.prog 174 #[.agg #[.int .i64 1,.int .i64 o,.int .i64 ck,.int .i64 cn,.string cs,.int .i64 ac,.int .i64 ar,.bool af,.bool ag,.int .i64 bc,.int .i64 br,.bool bf,.bool bg,.slice KA kl kc]] w fun e w'=>e= .returned (.bool (QG 1 o ck cn cs ac ar af ag bc br bf bg kl))∧Below w.heap.size w w':=by
 go_enter Tryz.func174,Tryz.ntmps174
 go_wp2_with (first
  | (go_at_call 171;refine(Ql _ _ _ _ hs).mono ?_;rintro e w1 ⟨rfl,hb⟩;obtain⟨hc,hf,hC,hF,hz,hk,l0,l1⟩:=bk2 (w:=w) (by go_grown) (by go_size) hb;clear hb))
 all_goals
  go_ret;refine⟨Qb ?_,by go_grown⟩;simp [QG,cOk,zP,Qms, *];try omega
  try (intro _;simp_all)
theorem Qc8 (o ck cn:Int) (cs:ByteArray) (ac ar:Int) (af ag:Bool) (bc br:Int) (bf bg:Bool) {KA:Option Addr} {kl kc:Nat} (w:World) (hs:cs.size≤maxLen):
  Calls Tryz.prog 174 #[.agg #[.int .i64 2,.int .i64 o,.int .i64 ck,.int .i64 cn,.string cs,.int .i64 ac,.int .i64 ar,.bool af,.bool ag,.int .i64 bc,.int .i64 br,.bool bf,.bool bg,.slice KA kl kc]] w fun e w'=>e= .returned (.bool (QG 2 o ck cn cs ac ar af ag bc br bf bg kl))∧Below w.heap.size w w':=by
 go_enter Tryz.func174,Tryz.ntmps174
 go_wp2_with (first
  | (go_at_call 59;refine(Qz _ _ _).mono ?_;rintro e w1 ⟨rfl,hb⟩;obtain⟨hc,hf,hC,hF,hz,hk,l0,l1⟩:=bk2 (w:=w) (by go_grown) (by go_size) hb;clear hb))
 all_goals
  go_ret;refine⟨Qb ?_,by go_grown⟩;simp [QG,zP,zV,emp,Qms, *];try omega
theorem Qc7 (o ck cn:Int) (cs:ByteArray) (ac ar:Int) (af ag:Bool) (bc br:Int) (bf bg:Bool) {KA:Option Addr} {kl kc:Nat} (w:World) (hs:cs.size≤maxLen):
  Calls Tryz.prog 174 #[.agg #[.int .i64 3,.int .i64 o,.int .i64 ck,.int .i64 cn,.string cs,.int .i64 ac,.int .i64 ar,.bool af,.bool ag,.int .i64 bc,.int .i64 br,.bool bf,.bool bg,.slice KA kl kc]] w fun e w'=>e= .returned (.bool (QG 3 o ck cn cs ac ar af ag bc br bf bg kl))∧Below w.heap.size w w':=by
 go_enter Tryz.func174,Tryz.ntmps174
 go_wp2_with (first
  | (go_at_call 61;refine(GR _ _ _ _ _).mono ?_;rintro e w1 ⟨rfl,hb⟩;obtain⟨hc,hf,hC,hF,hz,hk,l0,l1⟩:=bk2 (w:=w) (by go_grown) (by go_size) hb;clear hb))
 all_goals
  go_ret;refine⟨Qb ?_,by go_grown⟩;simp [QG,zV,emp,Qms, *];try omega
theorem Qc6 (o ck cn:Int) (cs:ByteArray) (ac ar:Int) (af ag:Bool) (bc br:Int) (bf bg:Bool) {KA:Option Addr} {kl kc:Nat} (w:World) (hs:cs.size≤maxLen):
  Calls Tryz.prog 174 #[.agg #[.int .i64 4,.int .i64 o,.int .i64 ck,.int .i64 cn,.string cs,.int .i64 ac,.int .i64 ar,.bool af,.bool ag,.int .i64 bc,.int .i64 br,.bool bf,.bool bg,.slice KA kl kc]] w fun e w'=>e= .returned (.bool (QG 4 o ck cn cs ac ar af ag bc br bf bg kl))∧Below w.heap.size w w':=by
 go_enter Tryz.func174,Tryz.ntmps174;go_wp2_with fail
 all_goals
  go_ret;refine⟨Qb ?_,by go_grown⟩;simp [QG,zP,zV,emp,len1, *];try omega
theorem Qc5 (o ck cn:Int) (cs:ByteArray) (ac ar:Int) (af ag:Bool) (bc br:Int) (bf bg:Bool) {KA:Option Addr} {kl kc:Nat} (w:World) (hs:cs.size≤maxLen):
  Calls Tryz.prog 174 #[.agg #[.int .i64 5,.int .i64 o,.int .i64 ck,.int .i64 cn,.string cs,.int .i64 ac,.int .i64 ar,.bool af,.bool ag,.int .i64 bc,.int .i64 br,.bool bf,.bool bg,.slice KA kl kc]] w fun e w'=>e= .returned (.bool (QG 5 o ck cn cs ac ar af ag bc br bf bg kl))∧Below w.heap.size w w':=by
 go_enter Tryz.func174,Tryz.ntmps174
 go_wp2_with (first
  | (go_at_call 121;refine(QT _ _ _ _).mono ?_;rintro e w1 ⟨rfl,rfl⟩))
 all_goals
  go_ret;refine⟨Qb ?_,by go_grown⟩;simp [QG,zP,zV,emp,len2, *];try omega
theorem Qc4 (o ck cn:Int) (cs:ByteArray) (ac ar:Int) (af ag:Bool) (bc br:Int) (bf bg:Bool) {KA:Option Addr} {kl kc:Nat} (w:World) (hs:cs.size≤maxLen):
  Calls Tryz.prog 174 #[.agg #[.int .i64 6,.int .i64 o,.int .i64 ck,.int .i64 cn,.string cs,.int .i64 ac,.int .i64 ar,.bool af,.bool ag,.int .i64 bc,.int .i64 br,.bool bf,.bool bg,.slice KA kl kc]] w fun e w'=>e= .returned (.bool (QG 6 o ck cn cs ac ar af ag bc br bf bg kl))∧Below w.heap.size w w':=by
 go_enter Tryz.func174,Tryz.ntmps174
 go_wp2_with (first
  | (go_at_call 223;refine(Qam _ _ _).mono ?_;rintro e w1 ⟨rfl,rfl⟩))
 all_goals
  go_ret;refine⟨Qb ?_,by go_grown⟩;simp [QG,zP,zV,emp, *];try omega
theorem Qda (k:Int) (o ck cn:Int) (cs:ByteArray) (ac ar:Int) (af ag:Bool) (bc br:Int) (bf bg:Bool) {KA:Option Addr} {kl kc:Nat} (w:World) (hs:cs.size≤maxLen) (h1: ¬k=1) (h2: ¬k=2) (h3: ¬k=3) (h4: ¬k=4) (h5: ¬k=5) (h6: ¬k=6):
  Calls Tryz.prog 174 #[.agg #[.int .i64 k,.int .i64 o,.int .i64 ck,.int .i64 cn,.string cs,.int .i64 ac,.int .i64 ar,.bool af,.bool ag,.int .i64 bc,.int .i64 br,.bool bf,.bool bg,.slice KA kl kc]] w fun e w'=>e= .returned (.bool (QG k o ck cn cs ac ar af ag bc br bf bg kl))∧Below w.heap.size w w':=by
 have e1:(k==1)=false:=by simpa using h1
 have e2:(k==2)=false:=by simpa using h2
 have e3:(k==3)=false:=by simpa using h3
 have e4:(k==4)=false:=by simpa using h4
 have e5:(k==5)=false:=by simpa using h5
 have e6:(k==6)=false:=by simpa using h6
 go_enter Tryz.func174,Tryz.ntmps174;go_wp2_with fail
 all_goals
  go_ret;refine⟨Qb ?_,by go_grown⟩;simp [QG, *];try omega
end Go.Proofs.YtbdhinckiccniaaGreatDoor
