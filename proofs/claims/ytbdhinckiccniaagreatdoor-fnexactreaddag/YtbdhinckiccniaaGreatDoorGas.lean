import Derived.Test.YtbdhinckiccniaaGreatDoorGai
import Derived.Test.YtbdhinckiccniaaGreatDoorGaa
import Derived.Deep.RegionHeld3
import Derived.Test.YtbdhinckiccniaaGreatDoorGaf
import Derived.Test.YtbdhinckiccniaaGreatDoorGaj
import Derived.Test.YtbdhinckiccniaaGreatDoorGar
import Derived.Deep.RegionWith
set_option linter.unusedSimpArgs false
set_option linter.unusedVariables false
set_option maxHeartbeats 4000000
set_option maxRecDepth 100000
namespace Go.Proofs.YtbdhinckiccniaaGreatDoor
open Go.RowKit
def YV (i:Nat):ByteArray:=if i<10 then⟨#[UInt8.ofNat (48+i)]⟩else⟨#[UInt8.ofNat (48+i/10),UInt8.ofNat (48+i%10)]⟩
theorem Qr6: ∀i,i<10→ByteArray.extract ⟨#[48,49,50,51,52,53,54,55,56,57,97,98,99,100,101,102,103,104,105,106,107,108,109,110,111,112,113,114,115,116,117,118,119,120,121,122]⟩ i (i+1)=YV i:=by decide+kernel
theorem Qr5: ∀i,i<100→ ¬i<10→ByteArray.extract ⟨#[48,48,48,49,48,50,48,51,48,52,48,53,48,54,48,55,48,56,48,57,49,48,49,49,49,50,49,51,49,52,49,53,49,54,49,55,49,56,49,57,50,48,50,49,50,50,50,51,50,52,50,53,50,54,50,55,50,56,50,57,51,48,51,49,51,50,51,51,51,52,51,53,51,54,51,55,51,56,51,57,52,48,52,49,52,50,52,51,52,52,52,53,52,54,52,55,52,56,52,57,53,48,53,49,53,50,53,51,53,52,53,53,53,54,53,55,53,56,53,57,54,48,54,49,54,50,54,51,54,52,54,53,54,54,54,55,54,56,54,57,55,48,55,49,55,50,55,51,55,52,55,53,55,54,55,55,55,56,55,57,56,48,56,49,56,50,56,51,56,52,56,53,56,54,56,55,56,56,56,57,57,48,57,49,57,50,57,51,57,52,57,53,57,54,57,55,57,56,57,57]⟩ (i*2) (i*2+2)=YV i:=by decide+kernel
theorem dec1: ∀i,i<10→(⟨#[48+UInt8.ofNat i]⟩:ByteArray)=YV i:=by decide+kernel
theorem dec2: ∀q,q<10→ ∀r,r<10→ ¬10*q+r<10→(⟨#[48+UInt8.ofNat q,48+UInt8.ofNat r]⟩:ByteArray)=YV (10*q+r):=by decide+kernel
theorem Qh6 (i:Nat) (hi:i<100) (w:World):Calls Tryz.prog 231 #[.int .i64 i] w fun e w'=>
  e= .returned (.string (YV i))∧w'=w:=by
 have h0:(0:Int)≤(i:Int):=by omega
 by_cases h:i<10
 ·have h1:(i:Int)<10:=by omega
  have h2:(i:Int)+1≤36:=by omega
  have h3:(i:Int)≤(i:Int)+1:=by omega
  go_enter Tryz.func231,Tryz.ntmps231;go_wp2
  go_ret;exact⟨Qr (Qr6 i h),rfl⟩
 ·have h1: ¬(i:Int)<10:=by omega
  have h2:(i:Int)*2+2≤200:=by omega
  have h3:(i:Int)*2≤(i:Int)*2+2:=by omega
  have h4:(0:Int)≤(i:Int)*2:=by omega
  go_enter Tryz.func231,Tryz.ntmps231;go_wp2
  go_ret;exact⟨Qr (Qr5 i hi h),rfl⟩
theorem UM (i:Nat) (hi:i<100) (w:World):Calls Tryz.prog 183 #[.int .i64 i,.int .i64 10] w fun e w'=>
  e= .returned (.string (YV i))∧w'=w:=by
 have h0:(0:Int)≤(i:Int):=by omega
 have h1:(i:Int)<100:=by omega
 go_enter Tryz.func183,Tryz.ntmps183
 go_wp2_with (first
  | (go_at_call 231;refine(Qh6 i hi _).mono ?_;rintro e w1 ⟨rfl,rfl⟩))
 go_ret;exact⟨rfl,rfl⟩
theorem Ob (i:Nat) (hi:i<100) (w:World):Calls Tryz.prog 135 #[.int .i64 i,.int .i64 10] w fun e w'=>
  e= .returned (.string (YV i))∧w'=w:=by
 go_enter Tryz.func135,Tryz.ntmps135
 go_wp2_with (first
  | (go_at_call 183;refine(UM i hi _).mono ?_;rintro e w1 ⟨rfl,rfl⟩))
 go_ret;exact⟨rfl,rfl⟩
theorem Qdc (i:Nat) (hi:i<100) (w:World):Calls Tryz.prog 67 #[.int .i64 i] w fun e w'=>
  e= .returned (.string (YV i))∧Below w.heap.size w w':=by
 have hc0:=fun W v=>Qm8 W v;by_cases h:i<10
 ·have h1: ¬(i:Int)<0:=by omega
  have h2: ¬10≤(i:Int):=by omega
  go_enter Tryz.func67,Tryz.ntmps67;go_wp2
  refine wp_loop_rounds 4 ?_;rw [rounds_succ];go_wp2
  go_ret;exact⟨Qr (by rw [Xr];exact dec1 i h),by go_grown⟩
 ·obtain⟨q,r,hq,hr,rfl⟩: ∃q r,q<10∧r<10∧i=10*q+r:=⟨i/10,i%10,by omega,by omega,by omega⟩;have hc2:=fun W o v=>Qrp W o v;have e1:((10*q+r:Nat):Int)%10=(r:Int):=by omega
  have e2:((10*q+r:Nat):Int)/10=(q:Int):=by omega
  obtain⟨n,hn⟩: ∃n:Int,n=((10*q+r:Nat):Int):=⟨_,rfl⟩;rw [←hn]at e1 e2;have h1: ¬n<0:=by omega
  have h2:10≤n:=by omega
  have h3:n≤99:=by omega
  have h4: ¬10≤(q:Int):=by omega
  have HD:Hid (¬10*q+r<10):=h;rw [←hn];clear hn hi h;go_enter Tryz.func67,Tryz.ntmps67;go_wp2
  refine wp_loop_rounds 4 ?_;rw [rounds_succ];go_wp2
  rw [rounds_succ];go_wp2
  go_ret;exact⟨Qr (by rw [Xr,Nz];exact dec2 q hq r hr HD.out),by go_grown⟩
def fx (b:Bool):ByteArray:=if b then⟨#[36]⟩else⟨#[]⟩
theorem Bt (b:Bool) (w:World):Calls Tryz.prog 141 #[.bool b] w fun e w'=>e= .returned (.string (fx b))∧w'=w:=by
 cases b
 all_goals
  go_enter Tryz.func141,Tryz.ntmps141;go_wp2
  go_ret;exact⟨rfl,rfl⟩
theorem Xl (b:Bool):(fx b).size≤1:=by cases b<;>decide
theorem Xh (n:Int):(ZM n).size≤2:=by
 unfold ZM;split
 ·exact Nat.le_succ 1
 ·split
  ·exact Nat.le_refl 2
  ·exact Nat.zero_le 2
theorem Xg (i:Nat):(YV i).size≤2:=by
 unfold YV;split
 ·exact Nat.le_succ 1
 ·exact Nat.le_refl 2
def Qw (c:Int) (i:Nat) (x y:Bool):ByteArray:=fx x++ZM c++fx y++YV i
theorem Zs (c:Int) (i:Nat) (x y:Bool) (w:World) (hi:i<100) (ho:Qh c i=true):Calls Tryz.prog 82 #[.agg #[.int .i64 c,.int .i64 i,.bool x,.bool y]] w fun e w'=>
  e= .returned (.string (Qw c i x y))∧Below w.heap.size w w':=by
 have HO:Hid (Qh c i=true):=ho;clear ho
 obtain⟨r1,r2,r3⟩:(∀W,(Op.stringOp .add (fx x) (ZM c)).run Tryz.prog W= .ok (.string (fx x++ZM c)) W)∧(∀W,(Op.stringOp .add (fx x++ZM c) (fx y)).run Tryz.prog W= .ok (.string (fx x++ZM c++fx y)) W)∧(∀W,(Op.stringOp .add (fx x++ZM c++fx y) (YV i)).run Tryz.prog W= .ok (.string (fx x++ZM c++fx y++YV i)) W):=by
  have s1:=Xl x;have s2:=Xl y;have s3:=Xh c;have s4:=Xg i;refine⟨fun W=>run_string_add_sum W _ _ ?_,fun W=>run_string_add_sum W _ _ ?_,fun W=>run_string_add_sum W _ _ ?_⟩
  ·omega
  ·rw [ByteArray.size_append];omega
  ·rw [ByteArray.size_append,ByteArray.size_append];omega
 go_enter Tryz.func82,Tryz.ntmps82
 go_wp2_with (first
  | (go_at_call 95;refine(Zi _ _ _).mono ?_;rintro e w1 ⟨rfl,hb⟩;rw [HO.out];obtain⟨hk,hz⟩:=Qg (B:=w.heap.size+1) (X:=(w.alloc (.cells #[.int .i64 c,.int .i64 i,.bool x,.bool y] 74))) (by go_grown) (by go_size) hb;have hC:=fun b o h=>hk.cell (p:=⟨b,o,none⟩) h;clear hb))
 go_region_held3 (fun w'=>(∀bq oq,bq<w.heap.size+1→w'.cell? ⟨bq,oq,none⟩=(w.alloc (.cells #[.int .i64 c,.int .i64 i,.bool x,.bool y] 74)).cell? ⟨bq,oq,none⟩)∧w.heap.size+1≤w'.heap.size∧Below (w.heap.size+1) (w.alloc (.cells #[.int .i64 c,.int .i64 i,.bool x,.bool y] 74)) w')
  (exact Qp (by go_size) (by go_grown))
  (first
  | (go_at_call 141;refine(Bt _ _).mono ?_;rintro e w1 ⟨rfl,rfl⟩)
  | (go_at_call 142;refine(BD _ _).mono ?_;rintro e wr ⟨rfl,hb⟩;obtain⟨hk,hz⟩:=Qg (B:=w.heap.size+1) (X:=(w.alloc (.cells #[.int .i64 c,.int .i64 i,.bool x,.bool y] 74))) (by go_grown) (by go_size) hb;have hC:=fun b o h=>hk.cell (p:=⟨b,o,none⟩) h;clear hb)
  | (go_at_call 135;refine(Ob i hi _).mono ?_;rintro e w1 ⟨rfl,rfl⟩))
 all_goals go_wp2_with fail
 all_goals go_ret
 all_goals exact⟨rfl,ZT (n:=1) (X:=(w.alloc (.cells #[.int .i64 c,.int .i64 i,.bool x,.bool y] 74))) (by go_grown) (by go_grown)⟩
theorem KM (c r:Int) (x y:Bool) (w:World) (ho:Qh c r=false):Calls Tryz.prog 82 #[.agg #[.int .i64 c,.int .i64 r,.bool x,.bool y]] w fun e w'=>
  e= .returned (.string ⟨#[]⟩)∧Below w.heap.size w w':=by
 have HO:Hid (Qh c r=false):=ho;clear ho;go_enter Tryz.func82,Tryz.ntmps82
 go_wp2_with (first
  | (go_at_call 95;refine(Zi _ _ _).mono ?_;rintro e w1 ⟨rfl,hb⟩;rw [HO.out];obtain⟨hc,hf,hC,hF,hz,hk,l0⟩:=bk1 (w:=w) (by go_grown) (by go_size) hb;clear hb))
 go_ret;exact⟨rfl,by go_grown⟩
theorem Xt (c r:Int) (x y:Bool) (w:World) (ho:Qh c r=false):Calls Tryz.prog 68 #[.agg #[.int .i64 c,.int .i64 r,.bool x,.bool y]] w fun e w'=>
  e= .returned (.string ⟨#[]⟩)∧Below w.heap.size w w':=by
 have HO:Hid (Qh c r=false):=ho;clear ho;go_enter Tryz.func68,Tryz.ntmps68
 go_wp2_with (first
  | (go_at_call 59;refine(Qz _ _ _).mono ?_;rintro e w1 ⟨rfl,hb⟩;rw [HO.out];obtain⟨hc,hf,hC,hF,hz,hk,l0⟩:=bk1 (w:=w) (by go_grown) (by go_size) hb;clear hb))
 go_ret;exact⟨rfl,by go_grown⟩
theorem Qpr (x:ByteArray):(⟨#[]⟩:ByteArray)++x=x:=by apply ByteArray.ext;simp
theorem Zc (c:Int) (i:Nat) (x y:Bool) (w:World) (hi:i<100) (ho:Qh c i=true):Calls Tryz.prog 68 #[.agg #[.int .i64 c,.int .i64 i,.bool x,.bool y]] w fun e w'=>
  e= .returned (.string (Qw c i x y))∧Below w.heap.size w w':=by
 have HO:Hid (Qh c i=true):=ho;clear ho
 obtain⟨r1,r2,r3,r4,r5⟩:(∀W,(Op.stringOp .add ⟨#[36]⟩ (ZM c)).run Tryz.prog W= .ok (.string (⟨#[36]⟩++ZM c)) W)∧(∀W,(Op.stringOp .add (⟨#[36]⟩++ZM c) ⟨#[36]⟩).run Tryz.prog W= .ok (.string (⟨#[36]⟩++ZM c++⟨#[36]⟩)) W)∧(∀W,(Op.stringOp .add (ZM c) ⟨#[36]⟩).run Tryz.prog W= .ok (.string (ZM c++⟨#[36]⟩)) W)∧
   (∀s:ByteArray,s.size≤10→ ∀W,(Op.stringOp .add s (YV i)).run Tryz.prog W= .ok (.string (s++YV i)) W)∧(ZM c).size≤2:=by
  have s3:=Xh c;have s4:=Xg i;have s5:(⟨#[36]⟩:ByteArray).size=1:=rfl;refine⟨fun W=>run_string_add_sum W _ _ ?_,fun W=>run_string_add_sum W _ _ ?_,fun W=>run_string_add_sum W _ _ ?_,fun s hs W=>run_string_add_sum W _ _ ?_,s3⟩
  ·omega
  ·rw [ByteArray.size_append];omega
  ·omega
  ·omega
 have q1:=r4 (ZM c) (by omega);have q2:=r4 (⟨#[36]⟩++ZM c) (by rw [ByteArray.size_append];have:(⟨#[36]⟩:ByteArray).size=1:=rfl;omega);have q3:=r4 (ZM c++⟨#[36]⟩) (by rw [ByteArray.size_append];have:(⟨#[36]⟩:ByteArray).size=1:=rfl;omega);have q4:=r4 (⟨#[36]⟩++ZM c++⟨#[36]⟩) (by rw [ByteArray.size_append,ByteArray.size_append];have:(⟨#[36]⟩:ByteArray).size=1:=rfl;omega);clear r4 r5;cases x<;>cases y
 all_goals
  go_enter Tryz.func68,Tryz.ntmps68
  go_wp2_with (first
   | (go_at_call 59;refine(Qz _ _ _).mono ?_;rintro e w1 ⟨rfl,hb⟩;rw [HO.out];obtain⟨hc,hf,hC,hF,hz,hk,l0⟩:=bk1 (w:=w) (by go_grown) (by go_size) hb;clear hb)
   | (go_at_call 128;refine(Jj _ _).mono ?_;rintro e w1 ⟨rfl,hb⟩;obtain⟨hc,hf,hC,hF,hz,hk,l0⟩:=bk1 (w:=w) (by go_grown) (by go_size) hb;clear hb)
   | (go_at_call 67;refine(Qdc i hi _).mono ?_;rintro e w1 ⟨rfl,hb⟩;obtain⟨hc,hf,hC,hF,hz,hk,l0⟩:=bk1 (w:=w) (by go_grown) (by go_size) hb;clear hb))
  go_ret;exact⟨Qr (by simp [Qw,fx,Qpr,Xr]),by go_grown⟩
def Ue (ck cn:Int) (cs:ByteArray):List UInt8:=if ck=2 then [34]++qt cs.data.toList++ [34]else(txV ck cn cs).data.toList
def plT (c r:Int) (x y:Bool):List UInt8:=(Qw c r.toNat x y).data.toList
def Hn (x:FN):List UInt8:=if x.k=1 then Ue x.ck x.cn x.cs else if x.k=2 then plT x.ac x.ar x.af x.ag else plT x.ac x.ar x.af x.ag++ [58]++plT x.bc x.br x.bf x.bg
def fK (F:Nat→FN) (j:Nat):Int:=(F j).k
def fO (F:Nat→FN) (j:Nat):Int:=(F j).o
def fL (F:Nat→FN) (j:Nat):List UInt8:=Hn (F j)
def fG (F:Nat→FN) (j:Nat):List Int:=(F j).kids
def TX (F:Nat→FN) (i:Nat):List UInt8:=ndT (fK F) (fO F) (fL F) (fG F) (i+1) i
def bdX (F:Nat→FN) (j:Nat) (least:Int):List UInt8:=if(F j).k=5∧lvl (F j).o<least then [40]++TX F j++ [41]else TX F j
theorem Qpt {K O:Nat→Int} {LT:Nat→List UInt8} {G:Nat→List Int} {n:Nat} (hG:QM G n): ∀i,i<n→ ∀a b,i<a→i<b→ndT K O LT G a i=ndT K O LT G b i:=by
 intro i;induction i using Nat.strongRecOn with
 | ind i ih=>
  intro hi a b ha hb;obtain⟨a,rfl⟩: ∃a',a=a'+1:=⟨a-1,by omega⟩;obtain⟨b,rfl⟩: ∃b',b=b'+1:=⟨b-1,by omega⟩
  have hk: ∀c∈G i,ndT K O LT G a c.toNat=ndT K O LT G b c.toNat:=fun c hc=>by
   have:=hG i hi c hc;exact ih c.toNat (by omega) (by omega) a b (by omega) (by omega)
  have hb1: ∀c∈G i,∀z,bdT K O (ndT K O LT G a) c.toNat z=bdT K O (ndT K O LT G b) c.toNat z:=fun c hc z=>by unfold bdT;rw [hk c hc]
  rw [ndT,ndT];by_cases h4:K i=4
  ·rw [if_pos h4,if_pos h4];match hg:G i with
   | []=>rfl
   | [c]=>simp only [hb1 c (by rw [hg];simp)]
   | _::_::_=>rfl
  rw [if_neg h4,if_neg h4];by_cases h5:K i=5
  ·rw [if_pos h5,if_pos h5];match hg:G i with
   | []=>rfl
   | [c]=>rfl
   | [c,d]=>simp only [hb1 c (by rw [hg];simp),hb1 d (by rw [hg];simp)]
   | _::_::_::_=>rfl
  rw [if_neg h5,if_neg h5];have e3:((G i).map fun c=>ndT K O LT G a c.toNat)=((G i).map fun c=>ndT K O LT G b c.toNat):=List.map_congr_left hk;rw [e3]
theorem Qrs {F:Nat→FN} {n:Nat} (hG:QM (fG F) n) {c:Int} {i:Nat} (hi:i<n) (hc:c∈(F i).kids):ndT (fK F) (fO F) (fL F) (fG F) i c.toNat=TX F c.toNat:=by
 have h:=hG i hi c hc;exact Qpt hG c.toNat (by omega) i (c.toNat+1) (by omega) (by omega)
theorem Qnu {F:Nat→FN} {n:Nat} (hG:QM (fG F) n) {c:Int} {i:Nat} (hi:i<n) (hc:c∈(F i).kids) (z:Int):bdT (fK F) (fO F) (ndT (fK F) (fO F) (fL F) (fG F) i) c.toNat z=bdX F c.toNat z:=by
 unfold bdT bdX;rw [Qrs hG hi hc];rfl
theorem Qnl {F:Nat→FN} {n i:Nat} {c:Int} (hG:QM (fG F) n) (hi:i<n) (hk:(F i).k=4) (hg:(F i).kids= [c]):TX F i= [45]++bdX F c.toNat 5:=by
 have h:=Qmn (K:=fK F) (O:=fO F) (LT:=fL F) (G:=fG F) (m:=i) (i:=i) (c:=c) hk hg;rw [Qnu hG hi (by rw [hg];simp)]at h;exact h
theorem Qnm {F:Nat→FN} {n i:Nat} {a b:Int} (hG:QM (fG F) n) (hi:i<n) (hk:(F i).k=5) (hg:(F i).kids= [a,b]):TX F i=bdX F a.toNat (lvl (F i).o)++sgT (F i).o++bdX F b.toNat (lvl (F i).o+1):=by
 have h:=Qmo (K:=fK F) (O:=fO F) (LT:=fL F) (G:=fG F) (m:=i) (i:=i) (a:=a) (b:=b) hk hg;rw [Qnu hG hi (by rw [hg];simp),Qnu hG hi (by rw [hg];simp)]at h;exact h
theorem Qg4 {F:Nat→FN} {n i:Nat} (hG:QM (fG F) n) (hi:i<n) (hk:(F i).k=6):TX F i=fnT (F i).o++ [40]++jn ((F i).kids.map fun c=>TX F c.toNat)++ [41]:=by
 have h:=Qf7 (K:=fK F) (O:=fO F) (LT:=fL F) (G:=fG F) (m:=i) (i:=i) hk;have e:((fG F i).map fun c=>ndT (fK F) (fO F) (fL F) (fG F) i c.toNat)=((F i).kids.map fun c=>TX F c.toNat):=List.map_congr_left (fun c hc=>Qrs hG hi hc);rw [e]at h;exact h
theorem VW {F:Nat→FN} {i:Nat} (h4:(F i).k≠4) (h5:(F i).k≠5) (h6:(F i).k≠6):TX F i=Hn (F i):=Qf6 (K:=fK F) (O:=fO F) (LT:=fL F) (G:=fG F) (m:=i) (i:=i) h4 h5 h6
theorem Qfw (c r:Int) (x y:Bool):(plT c r x y).length≤6:=by
 have e:(plT c r x y).length=(Qw c r.toNat x y).size:=rfl;rw [e,Qw,ByteArray.size_append,ByteArray.size_append,ByteArray.size_append];have h1:=Xl x;have h2:=Xl y;have h3:=Xh c;have h4:=Xg r.toNat;omega
theorem Qn8 (n:Int):(trT n).size≤5:=by unfold trT;split<;>decide
theorem Qqr (n:Int):(erT n).size≤7:=by
 unfold erT;repeat' split
 all_goals decide
theorem GM {k n:Int} {s:ByteArray} (h:cOk k n s=true):okV k n s=true∧k≠0∧(k=1→0≤n):=by
 simp only [cOk,Bool.and_eq_true,Bool.not_eq_true',decide_eq_false_iff_not,Bool.or_eq_true,decide_eq_true_eq]at h;exact⟨h.1.1,h.1.2,fun e=>by rcases h.2 with h2 | h2;exact absurd e h2;exact h2⟩
theorem Qlu {k n:Int} {s:ByteArray} (hc:cOk k n s=true):(Ue k n s).length≤402:=by
 obtain⟨h,_,hn1⟩:=GM hc;have hn:k=1→0≤n:=hn1;unfold Ue;rcases XS h with⟨rfl,rfl,rfl⟩ | ⟨rfl,hr,rfl⟩ | ⟨rfl,rfl,hr⟩ | ⟨rfl,hr,rfl⟩ | ⟨rfl,h1,h5,rfl⟩
 ·simp only [txV,h,if_pos,txB];decide
 ·have hb:=Qer hr;obtain⟨m,rfl⟩: ∃m:Nat,n=(m:Int):=⟨n.toNat,by have:=hn rfl;omega⟩;have:=Jd (m:=m) (by omega);rw [if_neg (by omega),txV,h,if_pos rfl,txB,if_pos rfl];show(itB (m:Int)).size≤402;omega
 ·have hb:=VG hr;rw [if_pos rfl];have h1:=Qmh s.data.toList;have h2:s.data.toList.length=s.size:=rfl;simp only [List.length_append,List.length_cons,List.length_nil];omega
 ·rw [if_neg (by omega),txV,h,if_pos rfl,txB,if_neg (by omega),if_neg (by omega),if_pos rfl];have:=Qn8 n;show(trT n).size≤402;omega
 ·rw [if_neg (by omega),txV,h,if_pos rfl,txB,if_neg (by omega),if_neg (by omega),if_neg (by omega),if_pos rfl];have:=Qqr n;show(erT n).size≤402;omega
theorem Yf {x:FN} (h:QN x=true):(x.k=1∧cOk x.ck x.cn x.cs=true∧x.kids= [])∨(x.k=2∧Qh x.ac x.ar=true∧x.kids= [])∨(x.k=3∧Qh x.ac x.ar=true∧Qh x.bc x.br=true∧x.kids= [])∨(x.k=4∧ ∃c,x.kids= [c])∨
  (x.k=5∧1≤x.o∧x.o≤11∧ ∃a b,x.kids= [a,b])∨(x.k=6∧1≤x.o∧x.o≤10∧1≤x.kids.length∧x.kids.length≤10):=by
 have nilOf: ∀l:List Int,l.length=0→l= []:=fun l h=>List.length_eq_zero_iff.1 h;unfold QN QG at h;by_cases h1:x.k=1
 ·rw [if_pos h1]at h;simp only [Bool.and_eq_true,decide_eq_true_eq]at h;exact Or.inl ⟨h1,h.1.1.1.1,nilOf _ h.2⟩
 rw [if_neg h1]at h;by_cases h2:x.k=2
 ·rw [if_pos h2]at h;simp only [Bool.and_eq_true,decide_eq_true_eq]at h;exact Or.inr (Or.inl ⟨h2,h.1.1.1.1,nilOf _ h.2⟩)
 rw [if_neg h2]at h;by_cases h3:x.k=3
 ·rw [if_pos h3]at h;simp only [Bool.and_eq_true,decide_eq_true_eq,Yk]at h;exact Or.inr (Or.inr (Or.inl ⟨h3,h.1.1.1.1.1,h.1.1.1.1.2,nilOf _ h.2⟩))
 rw [if_neg h3]at h;by_cases h4:x.k=4
 ·rw [if_pos h4]at h;simp only [Bool.and_eq_true,decide_eq_true_eq]at h;have hl:=h.1.1;match hk:x.kids,hl with
  | [c],_=>exact Or.inr (Or.inr (Or.inr (Or.inl ⟨h4,c,rfl⟩)))
  | [],hl=>simp at hl
  | _::_::_,hl=>simp at hl
 rw [if_neg h4]at h;by_cases h5:x.k=5
 ·rw [if_pos h5]at h;simp only [Bool.and_eq_true,decide_eq_true_eq]at h;have hl:=h.1.1;match hk:x.kids,hl with
  | [a,b],_=>exact Or.inr (Or.inr (Or.inr (Or.inr (Or.inl ⟨h5,h.1.2.1,h.1.2.2,a,b,rfl⟩))))
  | [],hl=>simp at hl
  | [_],hl=>simp at hl
  | _::_::_::_,hl=>simp at hl
 rw [if_neg h5]at h;by_cases h6:x.k=6
 ·rw [if_pos h6]at h;simp only [Bool.and_eq_true]at h;have ha:=h.1;refine Or.inr (Or.inr (Or.inr (Or.inr (Or.inr ⟨h6,?_⟩))));unfold Ky at ha;by_cases e5:x.o=5
  ·rw [if_pos e5]at ha;have:=of_decide_eq_true ha;omega
  rw [if_neg e5]at ha;by_cases e8:8≤x.o∧x.o≤10
  ·rw [if_pos e8]at ha;have:=of_decide_eq_true ha;omega
  rw [if_neg e8]at ha;by_cases e7:1≤x.o∧x.o≤7
  ·rw [if_pos e7]at ha;have:=of_decide_eq_true ha;omega
  ·rw [if_neg e7]at ha;cases ha
 ·rw [if_neg h6]at h;cases h
theorem Ok {F:Nat→FN} {n:Nat} (h:Zk F n=true):1≤n∧n≤60∧(∀i,i<n→QN (F i)=true)∧QM (fG F) n∧ZJ (fG F) ((n:Int)-1)≤12:=by
 simp only [Zk,Bool.and_eq_true,decide_eq_true_eq,NX,List.all_eq_true,List.mem_range]at h;obtain⟨⟨⟨⟨⟨h1,h60⟩,hn⟩,hk⟩,_⟩,hd⟩:=h;have hr:QM (fG F) n:=JZ hk;refine⟨h1,h60,hn,hr,?_⟩;obtain⟨m,rfl⟩: ∃m,n=m+1:=⟨n-1,by omega⟩
 have ht:ZN (fG F) m=0:=by
  have h9:YR (fG F) (m+1)=true:=hk;rw [MF]at h9;exact of_decide_eq_true h9
 have hd2:XP (fG F) (m+1)=true:=hd;rw [MR hr ht]at hd2;have:=of_decide_eq_true hd2;rw [show(((m+1:Nat):Int)-1)=(m:Int) by omega];exact this
theorem Ns {G:Nat→List Int} {n:Nat} (hG:QM G n) {i:Nat} (hi:i<n) {c:Int} (hc:c∈G i):ZJ G c+1≤ZJ G i:=by
 have h:=MQ hG i (by omega) (by omega);have h2:=((VJ (D:=ZJ G) (G i) 0 _).1 (Int.le_refl _)).2 c hc;rw [Int.toNat_natCast]at h;omega
def eD (F:Nat→FN) (i:Nat):Nat:=(ZJ (fG F) i-1).toNat
theorem Quc {F:Nat→FN} {n:Nat} (h:Zk F n=true):TrOk (fK F) (fL F) (fG F) n (eD F):=by
 obtain⟨h1,h60,hn,hr,hd⟩:=Ok h;refine⟨fun i hi hk=> ?_,fun i hi hk=> ?_,fun i hi hk=> ?_,fun i hi c hc=> ?_,fun i hi=> ?_⟩
 ·have hk':(F i).k=4:=hk;rcases Yf (hn i hi)with⟨e,_⟩ | ⟨e,_⟩ | ⟨e,_⟩ | ⟨e,c,hc⟩ | ⟨e,_⟩ | ⟨e,_⟩
  all_goals first
   | exact⟨c,hc⟩
   | (exfalso;omega)
 ·have hk':(F i).k=5:=hk;rcases Yf (hn i hi)with⟨e,_⟩ | ⟨e,_⟩ | ⟨e,_⟩ | ⟨e,_⟩ | ⟨e,_,_,a,b,hc⟩ | ⟨e,_⟩
  all_goals first
   | exact⟨a,b,hc⟩
   | (exfalso;omega)
 ·have hk':(F i).k=6:=hk;rcases Yf (hn i hi)with⟨e,_⟩ | ⟨e,_⟩ | ⟨e,_⟩ | ⟨e,_⟩ | ⟨e,_⟩ | ⟨e,_,_,_,hc⟩
  all_goals first
   | exact hc
   | (exfalso;omega)
 ·have h2:=hr i hi c hc;have h3:=Ns hr hi hc;have h4:=Nr (fG F) c;refine⟨h2.1,h2.2,?_⟩;unfold eD;rw [Int.toNat_of_nonneg h2.1];omega
 ·show(Hn (F i)).length≤410;unfold Hn;have p1:=Qfw (F i).ac (F i).ar (F i).af (F i).ag;have p2:=Qfw (F i).bc (F i).br (F i).bf (F i).bg;split
  ·rename_i hk1
   rcases Yf (hn i hi)with⟨e,hc,_⟩ | ⟨e,_⟩ | ⟨e,_⟩ | ⟨e,_⟩ | ⟨e,_⟩ | ⟨e,_⟩
   ·have:=Qlu hc;omega
   all_goals (exfalso;omega)
  ·split
   ·omega
   ·simp only [List.length_append,List.length_cons,List.length_nil];omega
theorem Xs {F:Nat→FN} {n:Nat} (h:Zk F n=true) {i:Nat} (hi:i<n) (hd:ZJ (fG F) i≤12):(TX F i).length≤116977784950510:=
 Qkl (Quc h) (i+1) i hi (by unfold eD;omega)
def bnO (m:Nat):Int:=if m=0 then 0 else lvl m
def OT (W:World):Prop:= ∀m:Nat,m≤11→W.cell? ⟨1,m*2,none⟩=some (.string (bs (sgT m)))∧W.cell? ⟨1,m*2+1,none⟩=some (.int .i64 (bnO m))
def FTN (W:World):Prop:= ∀m:Nat,m≤10→W.cell? ⟨2,m*3,none⟩=some (.string (bs (fnT m)))
def MX (W:World):Prop:= ∃m:Int,W.cell? ⟨0,0,none⟩=some (.int .i64 m)
structure GT (W:World):Prop where
 ft:FT W
 fn:FTN W
 ot:OT W
 mx:MX W
 vt:VarT W
theorem OT.lt {W:World} (h:OT W):1<W.heap.size:=World.block_lt_of_cell? W ⟨1,0*2,none⟩ (h 0 (by omega)).1
theorem FTN.lt {W:World} (h:FTN W):2<W.heap.size:=World.block_lt_of_cell? W ⟨2,0*3,none⟩ (h 0 (by omega))
theorem MX.lt {W:World} (h:MX W):0<W.heap.size:=by
 obtain⟨m,hm⟩:=h;exact World.block_lt_of_cell? W ⟨0,0,none⟩ hm
theorem GT.below {W W':World} (h:GT W) (hb:Below W.heap.size W W'):GT W' where
 ft:=h.ft.below hb
 fn:=fun m hm=>(hb.cell (p:=⟨2,_,none⟩) h.fn.lt).trans (h.fn m hm)
 ot:=fun m hm=>⟨(hb.cell (p:=⟨1,_,none⟩) h.ot.lt).trans (h.ot m hm).1,(hb.cell (p:=⟨1,_,none⟩) h.ot.lt).trans (h.ot m hm).2⟩
 mx:=by obtain⟨m,hm⟩:=h.mx;exact⟨m,(hb.cell (p:=⟨0,_,none⟩) h.mx.lt).trans hm⟩
 vt:=h.vt.below hb
theorem Qox (s:ByteArray):(⟨(Lib.replaceAll s.data.toList (⟨#[34]⟩:ByteArray).data.toList (⟨#[34,34]⟩:ByteArray).data.toList).toArray⟩:ByteArray)=bs (qt s.data.toList):=by
 show bs (Lib.replaceAll s.data.toList [34] [34,34])=_;rw [Qoy]
theorem Qax (s:ByteArray) (w:World) (hs:s.size≤1000) (hm:MX w):Calls Tryz.prog 290 #[.string s] w fun e w'=>
  e= .returned (.string (bs ([34]++qt s.data.toList++ [34])))∧Below w.heap.size w w':=by
 obtain⟨m,hm⟩:=hm;have HM:Hid (w.cell? ⟨0,0,none⟩=some (.int .i64 m)):=hm;have hcb:Lib.countB s (⟨#[34]⟩:ByteArray)≤1000:=Nat.le_trans (Qtp s.data.toList) hs;have hq:(bs (qt s.data.toList)).size≤2000:=by rw [Qt];have:=Qmh s.data.toList;have h2:s.data.toList.length=s.size:=rfl;omega
 have HF:Hid ((⟨#[34]⟩:ByteArray)++bs (qt s.data.toList)++(⟨#[34]⟩:ByteArray)=bs ([34]++qt s.data.toList++ [34])):=by
  show _=_;rw [show(⟨#[34]⟩:ByteArray)=bs [34]from rfl,QK,QK]
 have HC:Hid (s.size+Lib.countB s (⟨#[34]⟩:ByteArray)*(⟨#[34,34]⟩:ByteArray).size≤140737488355328):=by show _≤_;rw [show(⟨#[34,34]⟩:ByteArray).size=2 from rfl];omega
 obtain⟨q,HQ⟩: ∃q,Hid (bs (qt s.data.toList)=q):=⟨_,rfl⟩;have HR:Hid ((⟨(Lib.replaceAll s.data.toList (⟨#[34]⟩:ByteArray).data.toList (⟨#[34,34]⟩:ByteArray).data.toList).toArray⟩:ByteArray)=q):=by show _=_;rw [Qox,HQ.out]
 rw [HQ.out]at HF hq;clear hm hcb;have z1: ¬9223372036854775807<1+q.size:=by omega
 have z2: ¬9223372036854775807<1+q.size+1:=by omega
 go_enter Tryz.func290,Tryz.ntmps290;go_wp2_with fail
 refine(Tryz.strings_ReplaceAll s ⟨#[34]⟩ ⟨#[34,34]⟩ m _ (by omega) HM.out (by decide) HC.out).mono ?_;rintro e w1 ⟨rfl,hb⟩;rw [HR.out];go_wp2_with fail
 go_ret;exact⟨Qr HF.out,hb⟩
theorem UW (k n:Int) (s:ByteArray) (w:World) (hs:s.size≤maxLen) (hc:cOk k n s=true) (hg:GT w):Calls Tryz.prog 248 #[.agg #[.int .i64 k,.int .i64 n,.string s]] w fun e w'=>
  e= .returned (.string (bs (Ue k n s)))∧Below w.heap.size w w':=by
 have HG:Hid (GT w):=hg;have HS:Hid (s.size≤maxLen):=hs;obtain⟨ho,_,_⟩:=GM hc;clear hg hc hs;by_cases h2:k=2
 ·subst h2
  have hz:s.size≤200:=by
   rcases XS ho with⟨e,_⟩ | ⟨e,_⟩ | ⟨_,_,hr⟩ | ⟨e,_⟩ | ⟨e,_⟩
   ·cases e
   ·cases e
   ·exact VG hr
   ·cases e
   ·cases e
  have HE:Hid (bs ([34]++qt s.data.toList++ [34])=bs (Ue 2 n s)):=by show _=_;rw [Ue,if_pos rfl]
  go_enter Tryz.func248,Tryz.ntmps248;go_wp2_with fail
  refine(Qax s _ (by omega) (HG.out.below (by go_grown)).mx).mono ?_;rintro e w1 ⟨rfl,hb⟩;rw [HE.out];have K1:=Qc (w:=w) (by go_grown) hb;go_wp2_with fail
  go_ret;exact⟨rfl,K1⟩
 ·have h2':(k==2)=false:=by simpa using h2
  have HE:Hid (txV k n s=bs (Ue k n s)):=by show _=_;rw [Ue,if_neg h2,MY]
  go_enter Tryz.func248,Tryz.ntmps248;go_wp2_with fail
  refine(JS k n s _ (HG.out.below (by go_grown)).vt HS.out).mono ?_;rintro e w1 ⟨rfl,hb⟩;rw [HE.out];have K1:=Qc (w:=w) (by go_grown) hb;go_wp2_with fail
  go_ret;exact⟨rfl,K1⟩
end Go.Proofs.YtbdhinckiccniaaGreatDoor
