import Derived.Test.YtbdhinckiccniaaGreatDoorMn
import Derived.Test.YtbdhinckiccniaaGreatDoorGbf
import Derived.Test.YtbdhinckiccniaaGreatDoorGbe
set_option linter.unusedSimpArgs false
set_option linter.unusedVariables false
set_option maxHeartbeats 8000000
set_option maxRecDepth 100000
namespace Go.Proofs.YtbdhinckiccniaaGreatDoor
open Go.RowKit
theorem Qbg {l:List UInt8} (h:0<l.length):Zb (48::l)=Zb l:=by
 cases l with
 | nil=>simp at h
 | cons c t=>rw [Zb,if_pos rfl]
theorem OO {b:UInt8} {l:List UInt8} (h:b≠48):Zb (b::l)=b::l:=by
 cases l with
 | nil=>rfl
 | cons c t=>rw [Zb,if_neg h]
theorem OM {l:List UInt8} (h:l.length≤1):Zb l=l:=by
 cases l with
 | nil=>rfl
 | cons b t=>
  cases t with
  | nil=>rfl
  | cons c u=>simp at h
theorem Mg (nb:Bool) (m:Nat):Qog nb (if m≤1000000000000000 then some m else none)=if ZP (if nb then-(m:Int)else(m:Int))=true then some (if nb then-(m:Int)else(m:Int))else none:=by
 by_cases h:m≤1000000000000000
 ·rw [if_pos h,if_pos]
  ·rfl
  ·rw [XZ];cases nb<;>simp<;>omega
 ·rw [if_neg h,if_neg]
  ·rfl
  ·rw [XZ];cases nb<;>simp<;>omega
theorem Qf3 (z:Int):(#[Value.int .i64 1,.int .i64 z,.string ⟨#[]⟩]:Array Value).all (·.oneCell')=true:=
 all_oneCell_toArray (cs:= [Value.int .i64 1,.int .i64 z,.string ⟨#[]⟩]) (fun v hv=>by
  simp only [List.mem_cons,List.not_mem_nil,or_false]at hv
  rcases hv with rfl | rfl | rfl<;>rfl)
theorem Vy {w W:World} (h:Below (w.heap.size+1) (w.alloc (.cells #[.int .i64 0,.int .i64 0,.string ⟨#[]⟩] 156)) W):W.there w.heap.size 0 3:=by
 intro j hj;have hj3:j=0∨j=1∨j=2:=by omega
 rw [Nat.zero_add,h.cell (p:=⟨w.heap.size,j,none⟩) (by simp),h.frozen (p:=⟨w.heap.size,j,none⟩) (by simp)];rcases hj3 with rfl | rfl | rfl<;>simp
theorem Qsx (s:ByteArray) (w:World) (hs:s.size≤200) (h2:1<s.size) (h45:s[0]=45):Calls Tryz.prog 118 #[.string s] w (Qaf s.data.toList w):=by
 obtain⟨c,HC⟩: ∃c,Hid (s.extract 1 s.size=c):=⟨_,rfl⟩;have HCD:Hid (c.data.toList=rest s 1):=by show _=_;rw [←HC.out,Ht s 1 (by omega)];rfl
 have HCS:Hid (c.size+1=s.size):=by
  show _=_;have h9:c.size=(rest s 1).length:=by rw [←HCD.out];rfl
  rw [h9,Zu];omega
 obtain⟨l0,HL0⟩: ∃l,Hid (c.data.toList=l):=⟨_,rfl⟩;have H1:Hid (1≤c.size∧c.size≤200):=by have:=HCS.out;exact⟨by omega,by omega⟩
 have HN5:Hid (n5 s.data.toList=Qog true (u15 l0)):=by
  show _=_;rw [←HL0.out,HCD.out];unfold n5;rw [Zt (by omega:0<s.size),h45,if_pos (by rfl),List.tail_cons,if_neg];intro e;have h9:=congrArg List.length e;rw [Zu]at h9
  simp at h9;omega
 have q0:(0:Int)<(s.size:Int):=by omega
 have q1:(1:Int)≤(s.size:Int):=by omega
 have hb:(s[0].toNat:Int)=45:=by rw [h45];rfl
 have hcc:=HC.out;have hce:c.toList.isEmpty=false:=QL H1.out.1;clear h45;go_enter Tryz.func118,Tryz.ntmps118;go_wp2_with fail
 go_loopw [0] (fun a wr=> ∃t:ByteArray,a= .string t∧1≤t.size∧t.size≤200∧Zb t.data.toList=Zb l0∧wr=(w.alloc (.cells #[.int .i64 0,.int .i64 0,.string ⟨#[]⟩] 156))) (fun a _=>EP a)
 case atStart=>exact⟨c,rfl,H1.out.1,H1.out.2,by rw [HL0.out],rfl⟩
 case round=>
  obtain⟨t,rfl,ht1,ht2,hst,rfl⟩:=hrel;have HST:Hid (Zb t.data.toList=Zb l0):=hst;clear hst;have q0:(0:Int)<(t.size:Int):=by omega
  by_cases hlen:1<t.size
  ·have q1:(1:Int)<(t.size:Int):=by omega
   by_cases h48:t[0]=48
   ·have hb:(t[0].toNat:Int)=48:=by rw [h48];rfl
    have q2:(1:Int)≤(t.size:Int):=by omega
    obtain⟨y,HY⟩: ∃y,Hid (t.extract 1 t.size=y):=⟨_,rfl⟩;have HYD:Hid (y.data.toList=rest t 1):=by show _=_;rw [←HY.out,Ht t 1 (by omega)];rfl
    have HYS:Hid (y.size+1=t.size):=by
     show _=_;have h9:y.size=(rest t 1).length:=by rw [←HYD.out];rfl
     rw [h9,Zu];omega
    have HSS:Hid (Zb y.data.toList=Zb l0):=by
     show _=_;rw [HYD.out,←HST.out,Zt (by omega:0<t.size),h48];exact(Qbg (by rw [Zu];omega)).symm
    have hy:=HY.out;clear h48;go_wp2_with fail
    exact⟨⟨y,rfl,by have:=HYS.out;omega,by have:=HYS.out;omega,HSS.out,by first | rfl | trivial⟩,by have:=HYS.out;simp only [EP];omega⟩
   ·have hb: ¬(t[0].toNat:Int)=48:=fun e=>h48 (UInt8.toNat_inj.1 (by have:(48:UInt8).toNat=48:=rfl;omega));have hb':((t[0].toNat:Int)==48)=false:=by simpa using hb
    have HT9:Hid (Zb l0=t.data.toList):=by
     show _=_;rw [←HST.out,Zt (by omega:0<t.size)];exact OO h48
    clear h48;go_wp2_with fail
    refine(QF t _ (by omega)).mono ?_;rintro _ w9 ⟨rfl,hw9⟩;obtain rfl:=hw9.symm;clear hw9;cases hl:l16 t.data.toList with
    | none=>
     have HN:Hid (n5 s.data.toList=none):=by show _=_;rw [HN5.out,u15,HT9.out,hl];rfl
     clear hl;unfold o16;go_wp2_with fail
     refine wp_region_held_drew (S:=(fun w'=> ∀o,w'.cell? ⟨w.heap.size+1,o,none⟩=((w.alloc (.cells #[.int .i64 0,.int .i64 0,.string ⟨#[]⟩] 156)).alloc (.cells #[.int .i64 1,.int .i64 (0),.string ⟨#[]⟩] 156)).cell? ⟨w.heap.size+1,o,none⟩)) (by kernel_rfl) (fun _=>rfl) (fun hHeld=> ?_);refine tkA 0 ?_;refine tkB 1 ?_;refine tkA 2 ?_;refine tnB 3 ?_;refine tnA 4 ?_;refine tkB 5 ?_
     refine rqA 6 (fun Kq hKq=> ?_);clear hHeld;rw [if_pos (by rfl)];refine wp_store_mid 156 (.tmp 2) (.tmp 42) rfl w.heap.size 0 #[.int .i64 1,.int .i64 (0),.string ⟨#[]⟩] rfl rfl (Vy (by go_grown)) (by kernel_rfl) (Qf3 _) ?_;change Kq _ (World.setCell (World.setCell (World.setCell _ ⟨w.heap.size,0,none⟩ _) ⟨w.heap.size,1,none⟩ _) ⟨w.heap.size,2,none⟩ _);refine hkB hKq (fun o=>(World.cell?_setCell_far _ _ _ _ (by simp only;omega)).trans ((World.cell?_setCell_far _ _ _ _ (by simp only;omega)).trans ((World.cell?_setCell_far _ _ _ _ (by simp only;omega)).trans rfl))) fun hHeld=> ?_;clear hKq Kq
     refine tkB 7 ?_;refine wpAnyH_done (by kernel_rfl) ?_ _;go_wp2_with fail
     refine bodyPost_ret (v:= .tuple #[.agg #[.int .i64 1,.int .i64 0,.string ⟨#[]⟩],.bool false]) ?_ rfl ⟨Or.inl ⟨HN.out,1,0,rfl⟩,by go_grown⟩;simp (maxDischargeDepth:=9) [results,Tryz.results118,go_sem, *]
    | some m=>
     have hm:=(Xk hl).2.1;obtain⟨b,HB⟩: ∃b,Hid (ZP (-(m:Int))=b):=⟨_,rfl⟩;have HOK:Hid (okV 1 (-(m:Int)) ⟨#[]⟩=b):=by show _=_;rw [VI,HB.out]
     have HF:Hid (n5 s.data.toList=if ZP (-(m:Int))=true then some (-(m:Int))else none):=by
      show _=_;rw [HN5.out,u15,HT9.out,hl];simp only;exact Mg true m
     have hng:IntKind.i64.wrap (-(m:Int))= -(m:Int):=by rw [IntKind.wrap_i64];omega
     clear hl;unfold o16;go_wp2_with fail
     refine wp_region_held_drew (S:=(fun w'=> ∀o,w'.cell? ⟨w.heap.size+1,o,none⟩=((w.alloc (.cells #[.int .i64 0,.int .i64 0,.string ⟨#[]⟩] 156)).alloc (.cells #[.int .i64 1,.int .i64 (-(m:Int)),.string ⟨#[]⟩] 156)).cell? ⟨w.heap.size+1,o,none⟩)) (by kernel_rfl) (fun _=>rfl) (fun hHeld=> ?_);refine tkA 0 ?_;refine tkB 1 ?_;refine tkA 2 ?_;refine tkB 3 ?_;refine rqA 4 (fun Kq hKq=> ?_);go_simp
     refine(Ql 1 (-(m:Int)) ⟨#[]⟩ _ (by unfold maxLen;show 0≤_;omega)).mono ?_;rintro e w3 ⟨rfl,hb3⟩;rw [HOK.out];have hbx: ∀o,w3.cell? ⟨w.heap.size+1,o,none⟩=((w.alloc (.cells #[.int .i64 0,.int .i64 0,.string ⟨#[]⟩] 156)).alloc (.cells #[.int .i64 1,.int .i64 (-(m:Int)),.string ⟨#[]⟩] 156)).cell? ⟨w.heap.size+1,o,none⟩:=fun o=>hb3.cell (p:=⟨w.heap.size+1,o,none⟩) (by simp);have hb1:Below (w.heap.size+1) (w.alloc (.cells #[.int .i64 0,.int .i64 0,.string ⟨#[]⟩] 156)) w3:=(Qg (B:=w.heap.size+1) (by go_grown) (by go_size) hb3).1;obtain⟨hc3,hf3,hC3,hF3,hz3,hk3,l3⟩:=bk1 (w:=w) (by go_grown) (by go_size) hb3;clear hb3
     refine hkB hKq (hbx) fun hHeld=> ?_;clear hKq Kq;refine tkB 5 ?_;refine rqA 6 (fun Kq hKq=> ?_);clear hHeld;rw [if_pos (by rfl)];refine wp_store_mid 156 (.tmp 2) (.tmp 42) rfl w.heap.size 0 #[.int .i64 1,.int .i64 (-(m:Int)),.string ⟨#[]⟩] rfl rfl (Vy (hb1)) (by kernel_rfl) (Qf3 _) ?_
     change Kq _ (World.setCell (World.setCell (World.setCell _ ⟨w.heap.size,0,none⟩ _) ⟨w.heap.size,1,none⟩ _) ⟨w.heap.size,2,none⟩ _);refine hkB hKq (fun o=>(World.cell?_setCell_far _ _ _ _ (by simp only;omega)).trans ((World.cell?_setCell_far _ _ _ _ (by simp only;omega)).trans ((World.cell?_setCell_far _ _ _ _ (by simp only;omega)).trans (hbx o)))) fun hHeld=> ?_;clear hKq Kq;refine tkB 7 ?_;refine wpAnyH_done (by kernel_rfl) ?_ _;go_wp2_with fail
     refine bodyPost_ret (v:= .tuple #[.agg #[.int .i64 1,.int .i64 (-(m:Int)),.string ⟨#[]⟩],.bool b]) ?_ rfl ⟨NM HF.out HB.out,by go_grown⟩;simp (maxDischargeDepth:=9) [results,Tryz.results118,go_sem, *]
  ·have q1: ¬(1:Int)<(t.size:Int):=by omega
   have HT9:Hid (Zb l0=t.data.toList):=by
    show _=_;rw [←HST.out];exact OM (by show t.data.toList.length≤1;exact(by omega:t.size≤1))
   go_wp2_with fail
   refine(QF t _ (by omega)).mono ?_;rintro _ w9 ⟨rfl,hw9⟩;obtain rfl:=hw9.symm;clear hw9;cases hl:l16 t.data.toList with
   | none=>
    have HN:Hid (n5 s.data.toList=none):=by show _=_;rw [HN5.out,u15,HT9.out,hl];rfl
    clear hl;unfold o16;go_wp2_with fail
    refine wp_region_held_drew (S:=(fun w'=> ∀o,w'.cell? ⟨w.heap.size+1,o,none⟩=((w.alloc (.cells #[.int .i64 0,.int .i64 0,.string ⟨#[]⟩] 156)).alloc (.cells #[.int .i64 1,.int .i64 (0),.string ⟨#[]⟩] 156)).cell? ⟨w.heap.size+1,o,none⟩)) (by kernel_rfl) (fun _=>rfl) (fun hHeld=> ?_);refine tkA 0 ?_;refine tkB 1 ?_;refine tkA 2 ?_;refine tnB 3 ?_;refine tnA 4 ?_;refine tkB 5 ?_
    refine rqA 6 (fun Kq hKq=> ?_);clear hHeld;rw [if_pos (by rfl)];refine wp_store_mid 156 (.tmp 2) (.tmp 42) rfl w.heap.size 0 #[.int .i64 1,.int .i64 (0),.string ⟨#[]⟩] rfl rfl (Vy (by go_grown)) (by kernel_rfl) (Qf3 _) ?_;change Kq _ (World.setCell (World.setCell (World.setCell _ ⟨w.heap.size,0,none⟩ _) ⟨w.heap.size,1,none⟩ _) ⟨w.heap.size,2,none⟩ _);refine hkB hKq (fun o=>(World.cell?_setCell_far _ _ _ _ (by simp only;omega)).trans ((World.cell?_setCell_far _ _ _ _ (by simp only;omega)).trans ((World.cell?_setCell_far _ _ _ _ (by simp only;omega)).trans rfl))) fun hHeld=> ?_;clear hKq Kq
    refine tkB 7 ?_;refine wpAnyH_done (by kernel_rfl) ?_ _;go_wp2_with fail
    refine bodyPost_ret (v:= .tuple #[.agg #[.int .i64 1,.int .i64 0,.string ⟨#[]⟩],.bool false]) ?_ rfl ⟨Or.inl ⟨HN.out,1,0,rfl⟩,by go_grown⟩;simp (maxDischargeDepth:=9) [results,Tryz.results118,go_sem, *]
   | some m=>
    have hm:=(Xk hl).2.1;obtain⟨b,HB⟩: ∃b,Hid (ZP (-(m:Int))=b):=⟨_,rfl⟩;have HOK:Hid (okV 1 (-(m:Int)) ⟨#[]⟩=b):=by show _=_;rw [VI,HB.out]
    have HF:Hid (n5 s.data.toList=if ZP (-(m:Int))=true then some (-(m:Int))else none):=by
     show _=_;rw [HN5.out,u15,HT9.out,hl];simp only;exact Mg true m
    have hng:IntKind.i64.wrap (-(m:Int))= -(m:Int):=by rw [IntKind.wrap_i64];omega
    clear hl;unfold o16;go_wp2_with fail
    refine wp_region_held_drew (S:=(fun w'=> ∀o,w'.cell? ⟨w.heap.size+1,o,none⟩=((w.alloc (.cells #[.int .i64 0,.int .i64 0,.string ⟨#[]⟩] 156)).alloc (.cells #[.int .i64 1,.int .i64 (-(m:Int)),.string ⟨#[]⟩] 156)).cell? ⟨w.heap.size+1,o,none⟩)) (by kernel_rfl) (fun _=>rfl) (fun hHeld=> ?_);refine tkA 0 ?_;refine tkB 1 ?_;refine tkA 2 ?_;refine tkB 3 ?_;refine rqA 4 (fun Kq hKq=> ?_);go_simp
    refine(Ql 1 (-(m:Int)) ⟨#[]⟩ _ (by unfold maxLen;show 0≤_;omega)).mono ?_;rintro e w3 ⟨rfl,hb3⟩;rw [HOK.out];have hbx: ∀o,w3.cell? ⟨w.heap.size+1,o,none⟩=((w.alloc (.cells #[.int .i64 0,.int .i64 0,.string ⟨#[]⟩] 156)).alloc (.cells #[.int .i64 1,.int .i64 (-(m:Int)),.string ⟨#[]⟩] 156)).cell? ⟨w.heap.size+1,o,none⟩:=fun o=>hb3.cell (p:=⟨w.heap.size+1,o,none⟩) (by simp);have hb1:Below (w.heap.size+1) (w.alloc (.cells #[.int .i64 0,.int .i64 0,.string ⟨#[]⟩] 156)) w3:=(Qg (B:=w.heap.size+1) (by go_grown) (by go_size) hb3).1;obtain⟨hc3,hf3,hC3,hF3,hz3,hk3,l3⟩:=bk1 (w:=w) (by go_grown) (by go_size) hb3;clear hb3
    refine hkB hKq (hbx) fun hHeld=> ?_;clear hKq Kq;refine tkB 5 ?_;refine rqA 6 (fun Kq hKq=> ?_);clear hHeld;rw [if_pos (by rfl)];refine wp_store_mid 156 (.tmp 2) (.tmp 42) rfl w.heap.size 0 #[.int .i64 1,.int .i64 (-(m:Int)),.string ⟨#[]⟩] rfl rfl (Vy (hb1)) (by kernel_rfl) (Qf3 _) ?_
    change Kq _ (World.setCell (World.setCell (World.setCell _ ⟨w.heap.size,0,none⟩ _) ⟨w.heap.size,1,none⟩ _) ⟨w.heap.size,2,none⟩ _);refine hkB hKq (fun o=>(World.cell?_setCell_far _ _ _ _ (by simp only;omega)).trans ((World.cell?_setCell_far _ _ _ _ (by simp only;omega)).trans ((World.cell?_setCell_far _ _ _ _ (by simp only;omega)).trans (hbx o)))) fun hHeld=> ?_;clear hKq Kq;refine tkB 7 ?_;refine wpAnyH_done (by kernel_rfl) ?_ _;go_wp2_with fail
    refine bodyPost_ret (v:= .tuple #[.agg #[.int .i64 1,.int .i64 (-(m:Int)),.string ⟨#[]⟩],.bool b]) ?_ rfl ⟨NM HF.out HB.out,by go_grown⟩;simp (maxDischargeDepth:=9) [results,Tryz.results118,go_sem, *]
theorem Qsw (s:ByteArray) (w:World) (hs:s.size≤200) (h1:0<s.size) (h45:s[0]≠45):Calls Tryz.prog 118 #[.string s] w (Qaf s.data.toList w):=by
 obtain⟨l0,HL0⟩: ∃l,Hid (s.data.toList=l):=⟨_,rfl⟩;have H1:Hid (1≤s.size∧s.size≤200):=⟨h1,hs⟩
 have HN5:Hid (n5 s.data.toList=Qog false (u15 l0)):=by
  show _=_;rw [←HL0.out];unfold n5;rw [if_neg (by rw [Yz h1];simpa using h45),if_neg (by rw [Zt h1];simp)]
 have q0:(0:Int)<(s.size:Int):=by omega
 have hb: ¬(s[0].toNat:Int)=45:=fun e=>h45 (UInt8.toNat_inj.1 (by have:(45:UInt8).toNat=45:=rfl;omega));have hb':((s[0].toNat:Int)==45)=false:=by simpa using hb
 have hce:s.toList.isEmpty=false:=QL h1;clear h45;go_enter Tryz.func118,Tryz.ntmps118;go_wp2_with fail
 go_loopw [0] (fun a wr=> ∃t:ByteArray,a= .string t∧1≤t.size∧t.size≤200∧Zb t.data.toList=Zb l0∧wr=(w.alloc (.cells #[.int .i64 0,.int .i64 0,.string ⟨#[]⟩] 156))) (fun a _=>EP a)
 case atStart=>exact⟨s,rfl,H1.out.1,H1.out.2,by rw [HL0.out],rfl⟩
 case round=>
  obtain⟨t,rfl,ht1,ht2,hst,rfl⟩:=hrel;have HST:Hid (Zb t.data.toList=Zb l0):=hst;clear hst;have q0:(0:Int)<(t.size:Int):=by omega
  by_cases hlen:1<t.size
  ·have q1:(1:Int)<(t.size:Int):=by omega
   by_cases h48:t[0]=48
   ·have hb:(t[0].toNat:Int)=48:=by rw [h48];rfl
    have q2:(1:Int)≤(t.size:Int):=by omega
    obtain⟨y,HY⟩: ∃y,Hid (t.extract 1 t.size=y):=⟨_,rfl⟩;have HYD:Hid (y.data.toList=rest t 1):=by show _=_;rw [←HY.out,Ht t 1 (by omega)];rfl
    have HYS:Hid (y.size+1=t.size):=by
     show _=_;have h9:y.size=(rest t 1).length:=by rw [←HYD.out];rfl
     rw [h9,Zu];omega
    have HSS:Hid (Zb y.data.toList=Zb l0):=by
     show _=_;rw [HYD.out,←HST.out,Zt (by omega:0<t.size),h48];exact(Qbg (by rw [Zu];omega)).symm
    have hy:=HY.out;clear h48;go_wp2_with fail
    exact⟨⟨y,rfl,by have:=HYS.out;omega,by have:=HYS.out;omega,HSS.out,by first | rfl | trivial⟩,by have:=HYS.out;simp only [EP];omega⟩
   ·have hb: ¬(t[0].toNat:Int)=48:=fun e=>h48 (UInt8.toNat_inj.1 (by have:(48:UInt8).toNat=48:=rfl;omega));have hb':((t[0].toNat:Int)==48)=false:=by simpa using hb
    have HT9:Hid (Zb l0=t.data.toList):=by
     show _=_;rw [←HST.out,Zt (by omega:0<t.size)];exact OO h48
    clear h48;go_wp2_with fail
    refine(QF t _ (by omega)).mono ?_;rintro _ w9 ⟨rfl,hw9⟩;obtain rfl:=hw9.symm;clear hw9;cases hl:l16 t.data.toList with
    | none=>
     have HN:Hid (n5 s.data.toList=none):=by show _=_;rw [HN5.out,u15,HT9.out,hl];rfl
     clear hl;unfold o16;go_wp2_with fail
     refine wp_region_held_drew (S:=(fun w'=> ∀o,w'.cell? ⟨w.heap.size+1,o,none⟩=((w.alloc (.cells #[.int .i64 0,.int .i64 0,.string ⟨#[]⟩] 156)).alloc (.cells #[.int .i64 1,.int .i64 (0),.string ⟨#[]⟩] 156)).cell? ⟨w.heap.size+1,o,none⟩)) (by kernel_rfl) (fun _=>rfl) (fun hHeld=> ?_);refine tkA 0 ?_;refine tkB 1 ?_;refine tkA 2 ?_;refine tnB 3 ?_;refine tnA 4 ?_;refine tkB 5 ?_
     refine rqA 6 (fun Kq hKq=> ?_);clear hHeld;rw [if_pos (by rfl)];refine wp_store_mid 156 (.tmp 2) (.tmp 42) rfl w.heap.size 0 #[.int .i64 1,.int .i64 (0),.string ⟨#[]⟩] rfl rfl (Vy (by go_grown)) (by kernel_rfl) (Qf3 _) ?_;change Kq _ (World.setCell (World.setCell (World.setCell _ ⟨w.heap.size,0,none⟩ _) ⟨w.heap.size,1,none⟩ _) ⟨w.heap.size,2,none⟩ _);refine hkB hKq (fun o=>(World.cell?_setCell_far _ _ _ _ (by simp only;omega)).trans ((World.cell?_setCell_far _ _ _ _ (by simp only;omega)).trans ((World.cell?_setCell_far _ _ _ _ (by simp only;omega)).trans rfl))) fun hHeld=> ?_;clear hKq Kq
     refine tkB 7 ?_;refine wpAnyH_done (by kernel_rfl) ?_ _;go_wp2_with fail
     refine bodyPost_ret (v:= .tuple #[.agg #[.int .i64 1,.int .i64 0,.string ⟨#[]⟩],.bool false]) ?_ rfl ⟨Or.inl ⟨HN.out,1,0,rfl⟩,by go_grown⟩;simp (maxDischargeDepth:=9) [results,Tryz.results118,go_sem, *]
    | some m=>
     have hm:=(Xk hl).2.1;obtain⟨b,HB⟩: ∃b,Hid (ZP ((m:Int))=b):=⟨_,rfl⟩;have HOK:Hid (okV 1 ((m:Int)) ⟨#[]⟩=b):=by show _=_;rw [VI,HB.out]
     have HF:Hid (n5 s.data.toList=if ZP ((m:Int))=true then some ((m:Int))else none):=by
      show _=_;rw [HN5.out,u15,HT9.out,hl];simp only;exact Mg false m
     skip
     clear hl;unfold o16;go_wp2_with fail
     refine wp_region_held_drew (S:=(fun w'=> ∀o,w'.cell? ⟨w.heap.size+1,o,none⟩=((w.alloc (.cells #[.int .i64 0,.int .i64 0,.string ⟨#[]⟩] 156)).alloc (.cells #[.int .i64 1,.int .i64 ((m:Int)),.string ⟨#[]⟩] 156)).cell? ⟨w.heap.size+1,o,none⟩)) (by kernel_rfl) (fun _=>rfl) (fun hHeld=> ?_);refine tkA 0 ?_;refine tkB 1 ?_;refine tkA 2 ?_;refine tkB 3 ?_;refine rqA 4 (fun Kq hKq=> ?_);go_simp
     refine(Ql 1 ((m:Int)) ⟨#[]⟩ _ (by unfold maxLen;show 0≤_;omega)).mono ?_;rintro e w3 ⟨rfl,hb3⟩;rw [HOK.out];have hbx: ∀o,w3.cell? ⟨w.heap.size+1,o,none⟩=((w.alloc (.cells #[.int .i64 0,.int .i64 0,.string ⟨#[]⟩] 156)).alloc (.cells #[.int .i64 1,.int .i64 ((m:Int)),.string ⟨#[]⟩] 156)).cell? ⟨w.heap.size+1,o,none⟩:=fun o=>hb3.cell (p:=⟨w.heap.size+1,o,none⟩) (by simp);have hb1:Below (w.heap.size+1) (w.alloc (.cells #[.int .i64 0,.int .i64 0,.string ⟨#[]⟩] 156)) w3:=(Qg (B:=w.heap.size+1) (by go_grown) (by go_size) hb3).1;obtain⟨hc3,hf3,hC3,hF3,hz3,hk3,l3⟩:=bk1 (w:=w) (by go_grown) (by go_size) hb3;clear hb3
     refine hkB hKq (hbx) fun hHeld=> ?_;clear hKq Kq;refine tkB 5 ?_;refine rqA 6 (fun Kq hKq=> ?_);clear hHeld;rw [if_pos (by rfl)];refine wp_store_mid 156 (.tmp 2) (.tmp 42) rfl w.heap.size 0 #[.int .i64 1,.int .i64 ((m:Int)),.string ⟨#[]⟩] rfl rfl (Vy (hb1)) (by kernel_rfl) (Qf3 _) ?_
     change Kq _ (World.setCell (World.setCell (World.setCell _ ⟨w.heap.size,0,none⟩ _) ⟨w.heap.size,1,none⟩ _) ⟨w.heap.size,2,none⟩ _);refine hkB hKq (fun o=>(World.cell?_setCell_far _ _ _ _ (by simp only;omega)).trans ((World.cell?_setCell_far _ _ _ _ (by simp only;omega)).trans ((World.cell?_setCell_far _ _ _ _ (by simp only;omega)).trans (hbx o)))) fun hHeld=> ?_;clear hKq Kq;refine tkB 7 ?_;refine wpAnyH_done (by kernel_rfl) ?_ _;go_wp2_with fail
     refine bodyPost_ret (v:= .tuple #[.agg #[.int .i64 1,.int .i64 ((m:Int)),.string ⟨#[]⟩],.bool b]) ?_ rfl ⟨NM HF.out HB.out,by go_grown⟩;simp (maxDischargeDepth:=9) [results,Tryz.results118,go_sem, *]
  ·have q1: ¬(1:Int)<(t.size:Int):=by omega
   have HT9:Hid (Zb l0=t.data.toList):=by
    show _=_;rw [←HST.out];exact OM (by show t.data.toList.length≤1;exact(by omega:t.size≤1))
   go_wp2_with fail
   refine(QF t _ (by omega)).mono ?_;rintro _ w9 ⟨rfl,hw9⟩;obtain rfl:=hw9.symm;clear hw9;cases hl:l16 t.data.toList with
   | none=>
    have HN:Hid (n5 s.data.toList=none):=by show _=_;rw [HN5.out,u15,HT9.out,hl];rfl
    clear hl;unfold o16;go_wp2_with fail
    refine wp_region_held_drew (S:=(fun w'=> ∀o,w'.cell? ⟨w.heap.size+1,o,none⟩=((w.alloc (.cells #[.int .i64 0,.int .i64 0,.string ⟨#[]⟩] 156)).alloc (.cells #[.int .i64 1,.int .i64 (0),.string ⟨#[]⟩] 156)).cell? ⟨w.heap.size+1,o,none⟩)) (by kernel_rfl) (fun _=>rfl) (fun hHeld=> ?_);refine tkA 0 ?_;refine tkB 1 ?_;refine tkA 2 ?_;refine tnB 3 ?_;refine tnA 4 ?_;refine tkB 5 ?_
    refine rqA 6 (fun Kq hKq=> ?_);clear hHeld;rw [if_pos (by rfl)];refine wp_store_mid 156 (.tmp 2) (.tmp 42) rfl w.heap.size 0 #[.int .i64 1,.int .i64 (0),.string ⟨#[]⟩] rfl rfl (Vy (by go_grown)) (by kernel_rfl) (Qf3 _) ?_;change Kq _ (World.setCell (World.setCell (World.setCell _ ⟨w.heap.size,0,none⟩ _) ⟨w.heap.size,1,none⟩ _) ⟨w.heap.size,2,none⟩ _);refine hkB hKq (fun o=>(World.cell?_setCell_far _ _ _ _ (by simp only;omega)).trans ((World.cell?_setCell_far _ _ _ _ (by simp only;omega)).trans ((World.cell?_setCell_far _ _ _ _ (by simp only;omega)).trans rfl))) fun hHeld=> ?_;clear hKq Kq
    refine tkB 7 ?_;refine wpAnyH_done (by kernel_rfl) ?_ _;go_wp2_with fail
    refine bodyPost_ret (v:= .tuple #[.agg #[.int .i64 1,.int .i64 0,.string ⟨#[]⟩],.bool false]) ?_ rfl ⟨Or.inl ⟨HN.out,1,0,rfl⟩,by go_grown⟩;simp (maxDischargeDepth:=9) [results,Tryz.results118,go_sem, *]
   | some m=>
    have hm:=(Xk hl).2.1;obtain⟨b,HB⟩: ∃b,Hid (ZP ((m:Int))=b):=⟨_,rfl⟩;have HOK:Hid (okV 1 ((m:Int)) ⟨#[]⟩=b):=by show _=_;rw [VI,HB.out]
    have HF:Hid (n5 s.data.toList=if ZP ((m:Int))=true then some ((m:Int))else none):=by
     show _=_;rw [HN5.out,u15,HT9.out,hl];simp only;exact Mg false m
    skip
    clear hl;unfold o16;go_wp2_with fail
    refine wp_region_held_drew (S:=(fun w'=> ∀o,w'.cell? ⟨w.heap.size+1,o,none⟩=((w.alloc (.cells #[.int .i64 0,.int .i64 0,.string ⟨#[]⟩] 156)).alloc (.cells #[.int .i64 1,.int .i64 ((m:Int)),.string ⟨#[]⟩] 156)).cell? ⟨w.heap.size+1,o,none⟩)) (by kernel_rfl) (fun _=>rfl) (fun hHeld=> ?_);refine tkA 0 ?_;refine tkB 1 ?_;refine tkA 2 ?_;refine tkB 3 ?_;refine rqA 4 (fun Kq hKq=> ?_);go_simp
    refine(Ql 1 ((m:Int)) ⟨#[]⟩ _ (by unfold maxLen;show 0≤_;omega)).mono ?_;rintro e w3 ⟨rfl,hb3⟩;rw [HOK.out];have hbx: ∀o,w3.cell? ⟨w.heap.size+1,o,none⟩=((w.alloc (.cells #[.int .i64 0,.int .i64 0,.string ⟨#[]⟩] 156)).alloc (.cells #[.int .i64 1,.int .i64 ((m:Int)),.string ⟨#[]⟩] 156)).cell? ⟨w.heap.size+1,o,none⟩:=fun o=>hb3.cell (p:=⟨w.heap.size+1,o,none⟩) (by simp);have hb1:Below (w.heap.size+1) (w.alloc (.cells #[.int .i64 0,.int .i64 0,.string ⟨#[]⟩] 156)) w3:=(Qg (B:=w.heap.size+1) (by go_grown) (by go_size) hb3).1;obtain⟨hc3,hf3,hC3,hF3,hz3,hk3,l3⟩:=bk1 (w:=w) (by go_grown) (by go_size) hb3;clear hb3
    refine hkB hKq (hbx) fun hHeld=> ?_;clear hKq Kq;refine tkB 5 ?_;refine rqA 6 (fun Kq hKq=> ?_);clear hHeld;rw [if_pos (by rfl)];refine wp_store_mid 156 (.tmp 2) (.tmp 42) rfl w.heap.size 0 #[.int .i64 1,.int .i64 ((m:Int)),.string ⟨#[]⟩] rfl rfl (Vy (hb1)) (by kernel_rfl) (Qf3 _) ?_
    change Kq _ (World.setCell (World.setCell (World.setCell _ ⟨w.heap.size,0,none⟩ _) ⟨w.heap.size,1,none⟩ _) ⟨w.heap.size,2,none⟩ _);refine hkB hKq (fun o=>(World.cell?_setCell_far _ _ _ _ (by simp only;omega)).trans ((World.cell?_setCell_far _ _ _ _ (by simp only;omega)).trans ((World.cell?_setCell_far _ _ _ _ (by simp only;omega)).trans (hbx o)))) fun hHeld=> ?_;clear hKq Kq;refine tkB 7 ?_;refine wpAnyH_done (by kernel_rfl) ?_ _;go_wp2_with fail
    refine bodyPost_ret (v:= .tuple #[.agg #[.int .i64 1,.int .i64 ((m:Int)),.string ⟨#[]⟩],.bool b]) ?_ rfl ⟨NM HF.out HB.out,by go_grown⟩;simp (maxDischargeDepth:=9) [results,Tryz.results118,go_sem, *]
theorem NQ (s:ByteArray) (w:World) (hs:s.size≤200) (h1:0<s.size):Calls Tryz.prog 118 #[.string s] w (Qaf s.data.toList w):=by
 by_cases h45:s[0]=45
 ·by_cases h2:1<s.size
  ·exact Qsx s w hs h2 h45
  ·have q0:(0:Int)<(s.size:Int):=by omega
   have q1:(1:Int)≤(s.size:Int):=by omega
   have hb:(s[0].toNat:Int)=45:=by rw [h45];rfl
   obtain⟨c,HC⟩: ∃c,Hid (s.extract 1 s.size=c):=⟨_,rfl⟩;have hce:c.toList.isEmpty=true:=Hu (by rw [←HC.out,ByteArray.size_extract];omega);have hcc:=HC.out
   have HN:Hid (n5 s.data.toList=none):=by
    show _=_;unfold n5;rw [Zt h1,h45,if_pos (by rfl),List.tail_cons,if_pos];exact List.length_eq_zero_iff.1 (by rw [Zu];omega)
   clear h45;go_enter Tryz.func118,Tryz.ntmps118;go_wp2_with fail
   refine bodyPost_ret (v:= .tuple #[.agg #[.int .i64 0,.int .i64 0,.string ⟨#[]⟩],.bool false]) ?_ rfl ⟨Or.inl ⟨HN.out,0,0,rfl⟩,by go_grown⟩;simp (maxDischargeDepth:=9) [results,Tryz.results118,go_sem, *]
 ·exact Qsw s w hs h1 h45
theorem EW {t:ByteArray} (h:t.size≤200):lim (some t)=some t:=if_pos h
theorem Qmr {t:ByteArray} (h: ¬t.size≤200):lim (some t)=none:=if_neg h
theorem Qn4 {v:Int} (h0: -1000000000000000≤v) (h1:v≤1000000000000000):(txV 1 v ⟨#[]⟩).size≤200:=by
 unfold txV;rw [VI,(XZ v).2 ⟨h0,h1⟩,if_pos rfl];have e:txB 1 v ⟨#[]⟩=itB v:=rfl;rw [e];show(Lib.itoa v).length≤200;have h9:=Du v (by omega) (by omega);unfold NS at h9
 split at h9
 ·cases hl:l16 (Lib.itoa v).tail with
  | none=>rw [hl]at h9;cases h9
  | some m=>
   unfold l16 at hl;split at hl
   ·cases hl
   ·rename_i hn
    have h8:(Lib.itoa v).tail.length≤16:=by omega
    rw [List.length_tail]at h8;omega
 ·cases hl:l16 (Lib.itoa v)with
  | none=>rw [hl]at h9;cases h9
  | some m=>
   unfold l16 at hl;split at hl
   ·cases hl
   ·omega
theorem Qk0:inF ⟨#[]⟩=some ⟨#[]⟩:=by decide+kernel
theorem Qon {s:ByteArray} (h:gOk (Qu s)=true):rvS s= .tuple #[.agg #[.int .i64 (Qu s).1,.int .i64 (Qu s).2.1,.string (Qu s).2.2],.bool true]∧txV (Qu s).1 (Qu s).2.1 (Qu s).2.2=s:=by
 refine⟨?_,?_⟩
 ·rw [←Eb];unfold rvT;rw [h,if_pos rfl]
 ·unfold txV;rw [←Dw,h,if_pos rfl];exact Qea s h
theorem Qhi {s:ByteArray} (h:gOk (Qu s)=false):rvS s= .tuple #[.agg #[.int .i64 0,.int .i64 0,.string ⟨#[]⟩],.bool false]:=by
 rw [←Eb];unfold rvT;rw [h];rfl
theorem Qjc {s:ByteArray} (h:QE s=true):txV 2 0 s=(⟨#[39]⟩:ByteArray)++s:=by
 unfold txV okV;simp [h];rfl
theorem Qlb {s:ByteArray} (h:s.size≤200):(Qu s).2.2.size≤maxLen:=by
 by_cases hg:gOk (Qu s)=true
 ·have h1:=Dw s;rw [hg]at h1;have:=Qb1 h1.symm;unfold maxLen;omega
 ·unfold Qu;split
  ·split
   ·show(s.extract 1 s.size).size≤maxLen;rw [ByteArray.size_extract];unfold maxLen;omega
   ·unfold VQ;repeat' split
    all_goals first
     | exact Nat.zero_le _
     | (unfold Qm1;split<;>exact Nat.zero_le _)
  ·exact Nat.zero_le _
theorem Na (b:Nat): ∀(vs:List Value) (o:Nat) (w:World),Below b w (w.setCells b o vs)∧(w.setCells b o vs).heap.size=w.heap.size
 | [],_,w=>⟨Below.refl _ _,rfl⟩
 | v::r,o,w=>by
  obtain⟨h1,h2⟩:=Na b r (o+1) (w.setCell ⟨b,o,none⟩ v);exact⟨((Below.refl b w).setCell (Nat.le_refl _) v).trans h1,h2.trans (by simp)⟩
theorem Qmx:(Tryz.prog.info? 156).map (·.size)=some 3:=by kernel_rfl
theorem Qen {ops:Array Oper} {rest:List Oper} {op:Oper} {a:Act} {Q:Exit→Act→World→Prop} {b:Nat} {w4:World} (hX:w4.there b 0 3) (hgd:op.guard=none) (x y:Operand) (ho:op.op= .store 156 x y) (k n:Int) (t:ByteArray)
  (hx:a.eval x= .pointer (some ⟨b,0,none⟩)) (hy:a.eval y= .agg #[.int .i64 k,.int .i64 n,.string t])
  (h: ∀w5,w5.rangeAt b 0 [.int .i64 k,.int .i64 n,.string t]→w5.there b 0 3→Below b w4 w5→w5.heap.size=w4.heap.size→wpList Tryz.prog ops Q rest (a.put op.dst undef) w5):wpList Tryz.prog ops Q (op::rest) a w4:=by
 have hb:=Na b [.int .i64 k,.int .i64 n,.string t] 0 w4
 refine wpList_store_mid hgd 156 x y ho b 0 #[.int .i64 k,.int .i64 n,.string t] hx hy hX (by rw [Qmx];rfl) (all_oneCell_toArray (cs:= [.int .i64 k,.int .i64 n,.string t]) (fun v hv=>by
  simp only [List.mem_cons,List.not_mem_nil,or_false]at hv
  rcases hv with rfl | rfl | rfl<;>rfl)) ?_
 refine h _ (World.rangeAt_setCells_same w4 b 0 _ hX) ?_ hb.1 hb.2;exact World.there_setCells hX _ _ _
theorem Qrl {ops:Array Oper} {rest:List Oper} {op:Oper} {a:Act} {Q:Exit→Act→World→Prop} {b:Nat} {w5:World} {k n:Int} {t:ByteArray} (hr:w5.rangeAt b 0 [.int .i64 k,.int .i64 n,.string t]) (hgd:op.guard=none) (x:Operand) (ho:op.op= .load 156 x)
  (hx:a.eval x= .pointer (some ⟨b,0,none⟩)) (h:wpList Tryz.prog ops Q rest (a.put op.dst (.agg #[.int .i64 k,.int .i64 n,.string t])) w5):wpList Tryz.prog ops Q (op::rest) a w5:=
 wpList_load_mid hgd 156 x ho b 0 hx [.int .i64 k,.int .i64 n,.string t] _ hr Tryz.underlying156 rfl (by rw [Qmx];rfl) h
theorem Zo (s:ByteArray) (w:World) (hs:s.size≤maxLen):Calls Tryz.prog 58 #[.string s] w fun e w'=>opA (inF s) e∧Below w.heap.size w w':=by
 have HS:Hid (s.size≤maxLen):=hs;obtain⟨b,HB⟩: ∃b,Hid (QE s=b):=⟨_,rfl⟩;go_enter Tryz.func58,Tryz.ntmps58;go_wp2_with fail
 refine(Zd s _ HS.out).mono ?_;rintro _ w0 ⟨rfl,hw0⟩;obtain rfl:=hw0.symm;clear hw0;rw [HB.out];cases b
 ·have HN:Hid (inF s=none):=by show _=_;unfold inF;rw [HB.out];rfl
  go_wp2_with fail
  refine bodyPost_ret (v:= .tuple #[.string ⟨#[]⟩,.bool false]) ?_ rfl ⟨by rw [HN.out];rfl,Below.refl _ _⟩;simp (maxDischargeDepth:=9) [results,Tryz.results58,go_sem, *]
 have h200:s.size≤200:=VG HB.out;have HIN:Hid (inF s=lim (srT s)):=by show _=_;unfold inF;rw [HB.out];rfl
 by_cases h0:s.size=0
 ·have hbe:s.toList.isEmpty=true:=Hu h0;have HN:Hid (inF s=some ⟨#[]⟩):=by show _=_;rw [Zg h0];exact Qk0
  go_wp2_with fail
  refine bodyPost_ret (v:= .tuple #[.string ⟨#[]⟩,.bool true]) ?_ rfl ⟨by rw [HN.out];rfl,Below.refl _ _⟩;simp (maxDischargeDepth:=9) [results,Tryz.results58,go_sem, *]
 have h1:0<s.size:=by omega
 have hbe:s.toList.isEmpty=false:=QL h1;have q0:(0:Int)<(s.size:Int):=by omega
 by_cases h61:s[0]=61
 ·have hb:(s[0].toNat:Int)=61:=by rw [h61];rfl
  have q1:(1:Int)≤(s.size:Int):=by omega
  obtain⟨c,HC⟩: ∃c,Hid (s.extract 1 s.size=c):=⟨_,rfl⟩;have hcc:=HC.out
  have HCS:Hid (c.size≤maxLen):=by
   show _≤_;rw [←HC.out,ByteArray.size_extract];unfold maxLen;omega
  have HE:Hid (eqH s=true):=by show _=_;unfold eqH;rw [dif_pos h1,h61];rfl
  have HSR:Hid (inF s=lim (fsT (rdF c))):=by show _=_;rw [HIN.out];unfold srT;rw [HE.out,if_pos rfl,HC.out]
  clear h61;go_wp2_with fail
  refine(Hz c _ HCS.out).mono ?_;rintro _ w1 ⟨hb1,(⟨hr,rfl⟩ | ⟨out,v,ys,hr,rfl,ho,hp⟩)⟩
  ·have HN:Hid (inF s=none):=by show _=_;rw [HSR.out,hr];rfl
   have K1:Hid (Below w.heap.size w w1):=hb1;clear hb1 hr;go_wp2_with fail
   refine(XD _ (⟨Nat.zero_le _,fun i hi=>by omega⟩:FnRow w1 none 0 (fun _=>dFN)) (by omega) (fun i hi=>by omega)).mono ?_;rintro _ w2 ⟨rfl,hb2⟩;have K2:=hd (Qc K1.out hb2);obtain⟨t,HT⟩: ∃t,Hid (ftx (fun _=>dFN) 0=t):=⟨_,rfl⟩;rw [HT.out];clear hb2;go_wp2_with fail
   refine bodyPost_ret (v:= .tuple #[.string ⟨#[]⟩,.bool false]) ?_ rfl ⟨by rw [HN.out];rfl,K2.out⟩;simp (maxDischargeDepth:=9) [results,Tryz.results58,go_sem, *]
  ·obtain⟨g0,_,_⟩:=Qbs hr;obtain⟨A,cap,rfl,hfr⟩:=Ju ho hp (Hq g0).1;have HFR:Hid (FnRow w1 A out.length (ouF out)):=hfr;have HKZ:Hid (∀i,i<out.length→(ouF out i).kids.length≤1048576):=(Hq g0).2;have HN:Hid (out.length≤1048576):=by show _≤_;have:=Yd g0;omega
   have K1:Hid (Below w.heap.size w w1):=hb1;obtain⟨t,HT⟩: ∃t,Hid (ftx (ouF out) out.length=t):=⟨_,rfl⟩;have HF:Hid (inF s=lim (if t.size=0 then none else some ((⟨#[61]⟩:ByteArray)++t))):=by show _=_;rw [HSR.out,hr,←HT.out];rfl
   have HTS:Hid (t.size≤200):=by show _≤_;rw [←HT.out];exact Qcf _ _
   clear hb1 hr ho hp hfr g0;go_wp2_with fail
   refine(XD _ HFR.out HN.out HKZ.out).mono ?_;rintro _ w2 ⟨rfl,hb2⟩;have K2:=hd (Qc K1.out hb2);rw [HT.out];clear hb2;by_cases ht0:t.size=0
   ·have hte:t.toList.isEmpty=true:=Hu ht0;have HN:Hid (inF s=none):=by show _=_;rw [HF.out,if_pos ht0];rfl
    clear ht0;go_wp2_with fail
    refine bodyPost_ret (v:= .tuple #[.string ⟨#[]⟩,.bool false]) ?_ rfl ⟨by rw [HN.out];rfl,K2.out⟩;simp (maxDischargeDepth:=9) [results,Tryz.results58,go_sem, *]
   have hte:t.toList.isEmpty=false:=QL (by omega);have HSZ:Hid (((⟨#[61]⟩:ByteArray)++t).size=1+t.size):=by show _=_;rw [ByteArray.size_append];rfl
   have hwp:IntKind.i64.wrap ((t.size:Int)+1)=(t.size:Int)+1:=by have:=HTS.out;rw [IntKind.wrap_i64];omega
   have z1: ¬9223372036854775807<1+t.size:=by have:=HTS.out;omega
   by_cases hlong:t.size+1≤200
   ·have q3: ¬(200:Int)<(t.size:Int)+1:=by omega
    have HN:Hid (inF s=some ((⟨#[61]⟩:ByteArray)++t)):=by show _=_;rw [HF.out,if_neg ht0];exact EW (by rw [HSZ.out];omega)
    clear ht0;go_wp2_with fail
    refine bodyPost_ret (v:= .tuple #[.string ((⟨#[61]⟩:ByteArray)++t),.bool true]) ?_ rfl ⟨by rw [HN.out];rfl,K2.out⟩;simp (maxDischargeDepth:=9) [results,Tryz.results58,go_sem, *]
   ·have q3:(200:Int)<(t.size:Int)+1:=by omega
    have HN:Hid (inF s=none):=by show _=_;rw [HF.out,if_neg ht0];exact Qmr (by rw [HSZ.out];omega)
    clear ht0;go_wp2_with fail
    refine bodyPost_ret (v:= .tuple #[.string ⟨#[]⟩,.bool false]) ?_ rfl ⟨by rw [HN.out];rfl,K2.out⟩;simp (maxDischargeDepth:=9) [results,Tryz.results58,go_sem, *]
 have hb: ¬(s[0].toNat:Int)=61:=fun e=>h61 (UInt8.toNat_inj.1 (by have:(61:UInt8).toNat=61:=rfl;omega));have hb':((s[0].toNat:Int)==61)=false:=by simpa using hb
 have HE:Hid (eqH s=false):=by show _=_;unfold eqH;rw [dif_pos h1];simpa using h61
 clear h61;go_wp2_with fail
 refine(NQ s _ h200 h1).mono ?_;rintro _ w2 ⟨(⟨hn,k,n,rfl⟩ | ⟨v,hn,rfl⟩),hb2⟩;rotate_left
 ·have hvb:=n5_b hn;have HSR:Hid (inF s=some (txV 1 v ⟨#[]⟩)):=by show _=_;rw [HIN.out];unfold srT;rw [HE.out,if_neg (by simp),hn];exact EW (Qn4 hvb.1 hvb.2)
  have K2:Hid (Below w.heap.size w w2):=hb2;obtain⟨t,HT⟩: ∃t,Hid (txV 1 v ⟨#[]⟩=t):=⟨_,rfl⟩;rw [HT.out]at HSR;clear hb2 hn hvb;go_wp2_with fail
  refine(Ym 1 v ⟨#[]⟩ _ (by unfold maxLen;show 0≤_;omega)).mono ?_;rintro _ w3 ⟨rfl,hb3⟩;have K3:Hid (Below w.heap.size w w3):=Qc (Qc K2.out (by go_grown)) hb3;rw [HT.out];clear hb3;go_wp2_with fail
  refine bodyPost_ret (v:= .tuple #[.string t,.bool true]) ?_ rfl ⟨by rw [HSR.out];rfl,K3.out⟩;simp (maxDischargeDepth:=9) [results,Tryz.results58,go_sem, *]
 have HSR:Hid (inF s=lim (if gOk (Qu s)=true then some s else some ((⟨#[39]⟩:ByteArray)++s))):=by show _=_;rw [HIN.out];unfold srT;rw [HE.out,if_neg (by simp),hn]
 have K2:Hid (Below w.heap.size w w2):=hb2;clear hb2 hn;go_wp2_with fail
 refine(JQ s _ (by omega)).mono ?_;rintro _ w3 ⟨rfl,hb3⟩
 have HTH:Hid (w3.there w2.heap.size 0 3):=by
  intro j hj;have hz2:w2.heap.size<(w2.alloc (.cells #[.int .i64 k,.int .i64 n,.string ⟨#[]⟩] 156)).heap.size:=by simp
  have hj3:j=0∨j=1∨j=2:=by omega
  rw [Nat.zero_add,hb3.cell (p:=⟨w2.heap.size,j,none⟩) hz2,hb3.frozen (p:=⟨w2.heap.size,j,none⟩) hz2];rcases hj3 with rfl | rfl | rfl<;>simp
 have K3:Hid (Below w.heap.size w w3):=Qc (Qc K2.out (by go_grown)) hb3;have HL2:Hid (w.heap.size≤w2.heap.size):=K2.out.size;clear hb3;cases hq:gOk (Qu s)
 ·rw [Qhi hq];have HX:Hid (txV 2 0 s=(⟨#[39]⟩:ByteArray)++s):=Qjc HB.out;have HSR2:Hid (inF s=lim (some ((⟨#[39]⟩:ByteArray)++s))):=by show _=_;rw [HSR.out,if_neg (by rw [hq];simp)]
  obtain⟨t,HT⟩: ∃t,Hid ((⟨#[39]⟩:ByteArray)++s=t):=⟨_,rfl⟩;rw [HT.out]at HX HSR2;clear hq
  go_wp2_with (first
   | (refine Qen HTH.out rfl (.tmp 7) (.tmp 51) rfl 0 0 ⟨#[]⟩ rfl rfl ?_;intro w5 hr5 ht5 hb5 hs5;have HT5:Hid (w5.there w2.heap.size 0 3):=ht5;have K5:Hid (Below w.heap.size w w5):=K3.out.trans (hb5.mono HL2.out);clear hr5 ht5 hb5 hs5)
   | (refine Qen HT5.out rfl (.tmp 7) (.tmp 56) rfl 2 0 s rfl rfl ?_;intro w6 hr6 ht6 hb6 hs6;have HR6:Hid (w6.rangeAt w2.heap.size 0 [.int .i64 2,.int .i64 0,.string s]):=hr6;have K6:Hid (Below w.heap.size w w6):=K5.out.trans (hb6.mono HL2.out);clear hr6 ht6 hb6 hs6)
   | (refine Qrl HR6.out rfl (.tmp 7) rfl rfl ?_))
  refine(Ym 2 0 s _ HS.out).mono ?_;rintro _ w4 ⟨rfl,hb4⟩;have K4:=hd (Qc K6.out hb4);rw [HX.out];clear hb4;by_cases ht:t.size≤200
  ·have q3: ¬(200:Int)<(t.size:Int):=by omega
   have HN:Hid (inF s=some t):=by show _=_;rw [HSR2.out];exact EW ht
   go_wp2_with fail
   refine bodyPost_ret (v:= .tuple #[.string t,.bool true]) ?_ rfl ⟨by rw [HN.out];rfl,K4.out⟩;simp (maxDischargeDepth:=9) [results,Tryz.results58,go_sem, *]
  ·have q3:(200:Int)<(t.size:Int):=by omega
   have HN:Hid (inF s=none):=by show _=_;rw [HSR2.out];exact Qmr ht
   go_wp2_with fail
   refine bodyPost_ret (v:= .tuple #[.string ⟨#[]⟩,.bool false]) ?_ rfl ⟨by rw [HN.out];rfl,K4.out⟩;simp (maxDischargeDepth:=9) [results,Tryz.results58,go_sem, *]
 ·obtain⟨e1,e2⟩:=Qon hq;rw [e1];have HN:Hid (inF s=some s):=by show _=_;rw [HSR.out,if_pos hq];exact EW h200
  obtain⟨q,HQ⟩: ∃q,Hid (Qu s=q):=⟨_,rfl⟩;have HQS:Hid (q.2.2.size≤maxLen):=by show _≤_;rw [←HQ.out];exact Qlb h200
  rw [HQ.out]at e2 ⊢;obtain⟨k2,n2,s2⟩:=q;simp only at e2 HQS ⊢;have HX:Hid (txV k2 n2 s2=s):=e2;have q3: ¬(200:Int)<(s.size:Int):=by omega
  clear hq e1 e2
  go_wp2_with (first
   | (refine Qen HTH.out rfl (.tmp 7) (.tmp 51) rfl k2 n2 s2 rfl rfl ?_;intro w5 hr5 ht5 hb5 hs5;have HR5:Hid (w5.rangeAt w2.heap.size 0 [.int .i64 k2,.int .i64 n2,.string s2]):=hr5;have K5:Hid (Below w.heap.size w w5):=K3.out.trans (hb5.mono HL2.out);clear hr5 ht5 hb5 hs5)
   | (refine Qrl HR5.out rfl (.tmp 7) rfl rfl ?_))
  refine(Ym k2 n2 s2 _ HQS.out).mono ?_;rintro _ w4 ⟨rfl,hb4⟩;have K4:=hd (Qc K5.out hb4);rw [HX.out];clear hb4;go_wp2_with fail
  refine bodyPost_ret (v:= .tuple #[.string s,.bool true]) ?_ rfl ⟨by rw [HN.out];rfl,K4.out⟩;simp (maxDischargeDepth:=9) [results,Tryz.results58,go_sem, *]
end Go.Proofs.YtbdhinckiccniaaGreatDoor
