import Derived.Test.YtomadadmakdkgaaGreatDoorMn
import Derived.Test.YtomadadmakdkgaaGreatDoorGag
import Derived.Test.YtomadadmakdkgaaGreatDoorGad
open Go.Proofs.Tryz
open Go.Value renaming int → b, string → f, tuple → g, bool → r, agg → x
open Go.IntKind renaming i64 → d
open Go renaming bodyPost_ret → j, results → u, World → C, Calls → D
open Go.Ending renaming returned → y
open ByteArray renaming size_extract → z
open Go.ByteArray renaming toList_eq → A
open Go.RowKit renaming Below → B
set_option linter.unusedSimpArgs false
set_option linter.unusedVariables false
set_option maxHeartbeats 4000000
namespace Go.Proofs.YtomadadmakdkgaaGreatDoor
open Go.RowKit
variable {k n:Int} {s:ByteArray} {l:List UInt8}
def rvB(k n:Int)(s:ByteArray):Value:=if okV k n s then g #[x #[b d k,b d n,f s],r true]else g #[x #[b d 0,b d 0,f ⟨#[]⟩],r false]
theorem Vv(h:okV k n s=true):rvB k n s= g #[x #[b d k,b d n,f s],r true]:=by rw[rvB,h];rfl
theorem MJ(h:okV k n s=false):rvB k n s= g #[x #[b d 0,b d 0,f ⟨#[]⟩],r false]:=by rw[rvB,h];rfl
theorem Yw(h:s≠⟨l.toArray⟩):(s.toList==l)=false:=by
 rw[A];cases e:(s.data.toList==l)
 ·rfl
 ·exact absurd (ByteArray.ext (by rw[<-eq_of_beq e])) h
theorem MP(h:s=⟨l.toArray⟩):(s.toList==l)=true:=by
 rw[A,h];simp
theorem JV:(⟨#[]⟩:ByteArray).size<=maxLen:=by unfold maxLen;decide
theorem Qpf(w:C):D prog 101 #[f ⟨#[]⟩] w fun e w'=>e= y (rvB 0 0 ⟨#[]⟩)/\B w.heap.size w w':=by
 have HE:Hid (rvB 0 0 ⟨#[]⟩= g #[x #[b d 0,b d 0,f ⟨#[]⟩],r true]):=Vv (by simp[okV,emp,A]);go_enter func101,ntmps101;go_wp2_with fail
 all_goals
  refine j (v:= g #[x #[b d 0,b d 0,f ⟨#[]⟩],r true]) ?_ rfl ⟨by rw[HE.out],by go_grown⟩;simp (maxDischargeDepth:=9) [u,results101,go_sem, *]
theorem Qkl(s:ByteArray)(w:C)(hs:s.size<=281474976710656)(h:0<s.size)(h39:s[0].toNat=39):D prog 101 #[f s] w fun e w'=>e= y (rvB 2 0 (s.extract 1 s.size))/\B w.heap.size w w':=by
 have z1:=Yl h;have z2:=QZ h;have h2:(0:Int)<(s.size:Int):=by omega
 have h1:((s[0].toNat:Nat):Int)=39:=by omega
 have h3:(1:Int)<=(s.size:Int):=by omega
 have h4:Hid ((s.extract 1 s.size).size<=maxLen):=by show _<=_;rw[z];unfold maxLen;omega
 cases ho:okV 2 0 (s.extract 1 s.size)
 ·have h0:Hid (okV 2 0 (s.extract 1 s.size)=false):=ho;have HE:Hid (rvB 2 0 (s.extract 1 s.size)= g #[x #[b d 0,b d 0,f ⟨#[]⟩],r false]):=MJ ho;clear ho;go_enter func101,ntmps101
  go_wp2_with (first
  | (go_at_call 138;refine(Zo _ _ (by omega) (by omega)).mono ?_;rintro e w1 ⟨rfl,hb⟩;obtain⟨hc,hf,hC,hF,hz,hk,l0,l1⟩:=bk2 (w:=w) hb;clear hb)
  | (go_at_call 136;refine(Qq _ _ _ _ h4.out).mono ?_;rintro e w1 ⟨rfl,hb⟩;rw[h0.out];obtain⟨hc,hf,hC,hF,hz,hk,l0,l1⟩:=bk2 (w:=w) hb;clear hb))
  all_goals
   refine j (v:= g #[x #[b d 0,b d 0,f ⟨#[]⟩],r false]) ?_ rfl ⟨by rw[HE.out],by go_grown⟩;simp (maxDischargeDepth:=9) [u,results101,go_sem, *]
 ·have h0:Hid (okV 2 0 (s.extract 1 s.size)=true):=ho;have HE:Hid (rvB 2 0 (s.extract 1 s.size)= g #[x #[b d 2,b d 0,f (s.extract 1 s.size)],r true]):=Vv ho;clear ho;go_enter func101,ntmps101
  go_wp2_with (first
  | (go_at_call 138;refine(Zo _ _ (by omega) (by omega)).mono ?_;rintro e w1 ⟨rfl,hb⟩;obtain⟨hc,hf,hC,hF,hz,hk,l0,l1⟩:=bk2 (w:=w) hb;clear hb)
  | (go_at_call 136;refine(Qq _ _ _ _ h4.out).mono ?_;rintro e w1 ⟨rfl,hb⟩;rw[h0.out];obtain⟨hc,hf,hC,hF,hz,hk,l0,l1⟩:=bk2 (w:=w) hb;clear hb))
  all_goals
   refine j (v:= g #[x #[b d 2,b d 0,f (s.extract 1 s.size)],r true]) ?_ rfl ⟨by rw[HE.out],by go_grown⟩;simp (maxDischargeDepth:=9) [u,results101,go_sem, *]
theorem Qkm(s:ByteArray)(w:C)(hs:s.size<=281474976710656)(h:0<s.size)(h39:s[0].toNat≠39)(hh:s=⟨#[84,82,85,69]⟩):D prog 101 #[f s] w fun e w'=>e= y (rvB 3 1 ⟨#[]⟩)/\B w.heap.size w w':=by
 have z1:=Yl h;have z2:=QZ h;have h2:(0:Int)<(s.size:Int):=by omega
 have h1: ¬((s[0].toNat:Nat):Int)=39:=by omega
 have h1':(((s[0].toNat:Nat):Int)==39)=false:=by simpa using h1
 have e1:=MP (l:= [84,82,85,69]) hh;clear hh;cases ho:okV 3 1 ⟨#[]⟩
 ·have h0:Hid (okV 3 1 ⟨#[]⟩=false):=ho;have HE:Hid (rvB 3 1 ⟨#[]⟩= g #[x #[b d 0,b d 0,f ⟨#[]⟩],r false]):=MJ ho;clear ho;go_enter func101,ntmps101
  go_wp2_with (first
  | (go_at_call 138;refine(Zo _ _ (by omega) (by omega)).mono ?_;rintro e w1 ⟨rfl,hb⟩;obtain⟨hc,hf,hC,hF,hz,hk,l0,l1⟩:=bk2 (w:=w) hb;clear hb)
  | (go_at_call 136;refine(Qq _ _ _ _ JV).mono ?_;rintro e w1 ⟨rfl,hb⟩;rw[h0.out];obtain⟨hc,hf,hC,hF,hz,hk,l0,l1⟩:=bk2 (w:=w) hb;clear hb))
  all_goals
   refine j (v:= g #[x #[b d 0,b d 0,f ⟨#[]⟩],r false]) ?_ rfl ⟨by rw[HE.out],by go_grown⟩;simp (maxDischargeDepth:=9) [u,results101,go_sem, *]
 ·have h0:Hid (okV 3 1 ⟨#[]⟩=true):=ho;have HE:Hid (rvB 3 1 ⟨#[]⟩= g #[x #[b d 3,b d 1,f ⟨#[]⟩],r true]):=Vv ho;clear ho;go_enter func101,ntmps101
  go_wp2_with (first
  | (go_at_call 138;refine(Zo _ _ (by omega) (by omega)).mono ?_;rintro e w1 ⟨rfl,hb⟩;obtain⟨hc,hf,hC,hF,hz,hk,l0,l1⟩:=bk2 (w:=w) hb;clear hb)
  | (go_at_call 136;refine(Qq _ _ _ _ JV).mono ?_;rintro e w1 ⟨rfl,hb⟩;rw[h0.out];obtain⟨hc,hf,hC,hF,hz,hk,l0,l1⟩:=bk2 (w:=w) hb;clear hb))
  all_goals
   refine j (v:= g #[x #[b d 3,b d 1,f ⟨#[]⟩],r true]) ?_ rfl ⟨by rw[HE.out],by go_grown⟩;simp (maxDischargeDepth:=9) [u,results101,go_sem, *]
theorem Qh4(s:ByteArray)(w:C)(hs:s.size<=281474976710656)(h:0<s.size)(h39:s[0].toNat≠39)(hn:s≠⟨#[84,82,85,69]⟩)(hh:s=⟨#[70,65,76,83,69]⟩):D prog 101 #[f s] w fun e w'=>e= y (rvB 3 0 ⟨#[]⟩)/\B w.heap.size w w':=by
 have z1:=Yl h;have z2:=QZ h;have h2:(0:Int)<(s.size:Int):=by omega
 have h1: ¬((s[0].toNat:Nat):Int)=39:=by omega
 have h1':(((s[0].toNat:Nat):Int)==39)=false:=by simpa using h1
 have e0:=Yw (l:= [84,82,85,69]) hn;have e1:=MP (l:= [70,65,76,83,69]) hh;clear hh hn;cases ho:okV 3 0 ⟨#[]⟩
 ·have h0:Hid (okV 3 0 ⟨#[]⟩=false):=ho;have HE:Hid (rvB 3 0 ⟨#[]⟩= g #[x #[b d 0,b d 0,f ⟨#[]⟩],r false]):=MJ ho;clear ho;go_enter func101,ntmps101
  go_wp2_with (first
  | (go_at_call 138;refine(Zo _ _ (by omega) (by omega)).mono ?_;rintro e w1 ⟨rfl,hb⟩;obtain⟨hc,hf,hC,hF,hz,hk,l0,l1⟩:=bk2 (w:=w) hb;clear hb)
  | (go_at_call 136;refine(Qq _ _ _ _ JV).mono ?_;rintro e w1 ⟨rfl,hb⟩;rw[h0.out];obtain⟨hc,hf,hC,hF,hz,hk,l0,l1⟩:=bk2 (w:=w) hb;clear hb))
  all_goals
   refine j (v:= g #[x #[b d 0,b d 0,f ⟨#[]⟩],r false]) ?_ rfl ⟨by rw[HE.out],by go_grown⟩;simp (maxDischargeDepth:=9) [u,results101,go_sem, *]
 ·have h0:Hid (okV 3 0 ⟨#[]⟩=true):=ho;have HE:Hid (rvB 3 0 ⟨#[]⟩= g #[x #[b d 3,b d 0,f ⟨#[]⟩],r true]):=Vv ho;clear ho;go_enter func101,ntmps101
  go_wp2_with (first
  | (go_at_call 138;refine(Zo _ _ (by omega) (by omega)).mono ?_;rintro e w1 ⟨rfl,hb⟩;obtain⟨hc,hf,hC,hF,hz,hk,l0,l1⟩:=bk2 (w:=w) hb;clear hb)
  | (go_at_call 136;refine(Qq _ _ _ _ JV).mono ?_;rintro e w1 ⟨rfl,hb⟩;rw[h0.out];obtain⟨hc,hf,hC,hF,hz,hk,l0,l1⟩:=bk2 (w:=w) hb;clear hb))
  all_goals
   refine j (v:= g #[x #[b d 3,b d 0,f ⟨#[]⟩],r true]) ?_ rfl ⟨by rw[HE.out],by go_grown⟩;simp (maxDischargeDepth:=9) [u,results101,go_sem, *]
theorem Em(s:ByteArray)(w:C)(hs:s.size<=281474976710656)(h:0<s.size)(h39:s[0].toNat≠39)(hT:s≠⟨#[84,82,85,69]⟩)(hF:s≠⟨#[70,65,76,83,69]⟩)(h35:s[0].toNat≠35)(h45:s[0].toNat≠45)(hl:l16 s.data.toList=none):D prog 101 #[f s] w fun e w'=>e= y (g #[x #[b d 0,b d 0,f ⟨#[]⟩],r false])/\B w.heap.size w w':=by
 have z1:=Yl h;have z2:=QZ h;have h2:(0:Int)<(s.size:Int):=by omega
 have h1: ¬((s[0].toNat:Nat):Int)=39:=by omega
 have h1':(((s[0].toNat:Nat):Int)==39)=false:=by simpa using h1
 have e10:=Yw (l:= [84,82,85,69]) hT;have e11:=Yw (l:= [70,65,76,83,69]) hF;clear hT hF;have h5: ¬((s[0].toNat:Nat):Int)=35:=by omega
 have h5':(((s[0].toNat:Nat):Int)==35)=false:=by simpa using h5
 have h6: ¬((s[0].toNat:Nat):Int)=45:=by omega
 have h6':(((s[0].toNat:Nat):Int)==45)=false:=by simpa using h6
 have h0:Hid (s.size<=281474976710656):=hs;have HL:Hid (o16 (l16 s.data.toList)= g #[b d 0,r false]):=by show o16 _=_;rw[hl];rfl
 clear hl;go_enter func101,ntmps101
 go_wp2_with (first
  | (go_at_call 135;refine(QS s _ h0.out).mono ?_;rintro e w1 ⟨rfl,rfl⟩;rw[HL.out]))
 all_goals
  refine j (v:= g #[x #[b d 0,b d 0,f ⟨#[]⟩],r false]) ?_ rfl ⟨rfl,by go_grown⟩;simp (maxDischargeDepth:=9) [u,results101,go_sem, *]
theorem El(s:ByteArray)(w:C)(hs:s.size<=281474976710656)(h:0<s.size)(h39:s[0].toNat≠39)(hT:s≠⟨#[84,82,85,69]⟩)(hF:s≠⟨#[70,65,76,83,69]⟩)(h35:s[0].toNat≠35)(h45:s[0].toNat≠45)(m:Nat)(hm:m<10000000000000000)(hl:l16 s.data.toList=some m):D prog 101 #[f s] w fun e w'=>e= y (rvB 1 (m:Int) ⟨#[]⟩)/\B w.heap.size w w':=by
 have z1:=Yl h;have z2:=QZ h;have h2:(0:Int)<(s.size:Int):=by omega
 have h1: ¬((s[0].toNat:Nat):Int)=39:=by omega
 have h1':(((s[0].toNat:Nat):Int)==39)=false:=by simpa using h1
 have e10:=Yw (l:= [84,82,85,69]) hT;have e11:=Yw (l:= [70,65,76,83,69]) hF;clear hT hF;have h5: ¬((s[0].toNat:Nat):Int)=35:=by omega
 have h5':(((s[0].toNat:Nat):Int)==35)=false:=by simpa using h5
 have h6: ¬((s[0].toNat:Nat):Int)=45:=by omega
 have h6':(((s[0].toNat:Nat):Int)==45)=false:=by simpa using h6
 have h3:Hid (s.size<=281474976710656):=hs;have HL:Hid (o16 (l16 s.data.toList)= g #[b d (m:Int),r true]):=by show o16 _=_;rw[hl];rfl
 clear hl;cases ho:okV 1 (m:Int) ⟨#[]⟩
 ·have h0:Hid (okV 1 (m:Int) ⟨#[]⟩=false):=ho;have HE:Hid (rvB 1 (m:Int) ⟨#[]⟩= g #[x #[b d 0,b d 0,f ⟨#[]⟩],r false]):=MJ ho;clear ho;go_enter func101,ntmps101
  go_wp2_with (first
  | (go_at_call 135;refine(QS s _ h3.out).mono ?_;rintro e w1 ⟨rfl,rfl⟩;rw[HL.out])
  | (go_at_call 136;refine(Qq _ _ _ _ JV).mono ?_;rintro e w1 ⟨rfl,hb⟩;rw[h0.out];obtain⟨hc,hf,hC,hF,hz,hk,l0,l1⟩:=bk2 (w:=w) hb;clear hb))
  all_goals
   refine j (v:= g #[x #[b d 0,b d 0,f ⟨#[]⟩],r false]) ?_ rfl ⟨by rw[HE.out],by go_grown⟩;simp (maxDischargeDepth:=9) [u,results101,go_sem, *]
 ·have h0:Hid (okV 1 (m:Int) ⟨#[]⟩=true):=ho;have HE:Hid (rvB 1 (m:Int) ⟨#[]⟩= g #[x #[b d 1,b d (m:Int),f ⟨#[]⟩],r true]):=Vv ho;clear ho;go_enter func101,ntmps101
  go_wp2_with (first
  | (go_at_call 135;refine(QS s _ h3.out).mono ?_;rintro e w1 ⟨rfl,rfl⟩;rw[HL.out])
  | (go_at_call 136;refine(Qq _ _ _ _ JV).mono ?_;rintro e w1 ⟨rfl,hb⟩;rw[h0.out];obtain⟨hc,hf,hC,hF,hz,hk,l0,l1⟩:=bk2 (w:=w) hb;clear hb))
  all_goals
   refine j (v:= g #[x #[b d 1,b d (m:Int),f ⟨#[]⟩],r true]) ?_ rfl ⟨by rw[HE.out],by go_grown⟩;simp (maxDischargeDepth:=9) [u,results101,go_sem, *]
theorem Eo(s:ByteArray)(w:C)(hs:s.size<=281474976710656)(h:0<s.size)(h39:s[0].toNat≠39)(hT:s≠⟨#[84,82,85,69]⟩)(hF:s≠⟨#[70,65,76,83,69]⟩)(h35:s[0].toNat≠35)(h45:s[0].toNat=45)(hl:l16 (s.extract 1 s.size).data.toList=none):D prog 101 #[f s] w fun e w'=>e= y (g #[x #[b d 0,b d 0,f ⟨#[]⟩],r false])/\B w.heap.size w w':=by
 have z1:=Yl h;have z2:=QZ h;have h2:(0:Int)<(s.size:Int):=by omega
 have h1: ¬((s[0].toNat:Nat):Int)=39:=by omega
 have h1':(((s[0].toNat:Nat):Int)==39)=false:=by simpa using h1
 have e10:=Yw (l:= [84,82,85,69]) hT;have e11:=Yw (l:= [70,65,76,83,69]) hF;clear hT hF;have h5: ¬((s[0].toNat:Nat):Int)=35:=by omega
 have h5':(((s[0].toNat:Nat):Int)==35)=false:=by simpa using h5
 have h6:((s[0].toNat:Nat):Int)=45:=by omega
 have h3:(1:Int)<=(s.size:Int):=by omega
 have h0:Hid ((s.extract 1 s.size).size<=281474976710656):=by show _<=_;rw[z];omega
 have HL:Hid (o16 (l16 (s.extract 1 s.size).data.toList)= g #[b d 0,r false]):=by show o16 _=_;rw[hl];rfl
 clear hl;go_enter func101,ntmps101
 go_wp2_with (first
  | (go_at_call 135;refine(QS (s.extract 1 s.size) _ h0.out).mono ?_;rintro e w1 ⟨rfl,rfl⟩;rw[HL.out]))
 all_goals
  refine j (v:= g #[x #[b d 0,b d 0,f ⟨#[]⟩],r false]) ?_ rfl ⟨rfl,by go_grown⟩;simp (maxDischargeDepth:=9) [u,results101,go_sem, *]
theorem Nd(s:ByteArray)(w:C)(hs:s.size<=281474976710656)(h:0<s.size)(h39:s[0].toNat≠39)(hT:s≠⟨#[84,82,85,69]⟩)(hF:s≠⟨#[70,65,76,83,69]⟩)(h35:s[0].toNat≠35)(h45:s[0].toNat=45)(hl:l16 (s.extract 1 s.size).data.toList=some 0):D prog 101 #[f s] w fun e w'=>e= y (g #[x #[b d 0,b d 0,f ⟨#[]⟩],r false])/\B w.heap.size w w':=by
 have z1:=Yl h;have z2:=QZ h;have h2:(0:Int)<(s.size:Int):=by omega
 have h1: ¬((s[0].toNat:Nat):Int)=39:=by omega
 have h1':(((s[0].toNat:Nat):Int)==39)=false:=by simpa using h1
 have e10:=Yw (l:= [84,82,85,69]) hT;have e11:=Yw (l:= [70,65,76,83,69]) hF;clear hT hF;have h5: ¬((s[0].toNat:Nat):Int)=35:=by omega
 have h5':(((s[0].toNat:Nat):Int)==35)=false:=by simpa using h5
 have h6:((s[0].toNat:Nat):Int)=45:=by omega
 have h3:(1:Int)<=(s.size:Int):=by omega
 have h0:Hid ((s.extract 1 s.size).size<=281474976710656):=by show _<=_;rw[z];omega
 have HL:Hid (o16 (l16 (s.extract 1 s.size).data.toList)= g #[b d 0,r true]):=by show o16 _=_;rw[hl];rfl
 clear hl;go_enter func101,ntmps101
 go_wp2_with (first
  | (go_at_call 135;refine(QS (s.extract 1 s.size) _ h0.out).mono ?_;rintro e w1 ⟨rfl,rfl⟩;rw[HL.out]))
 all_goals
  refine j (v:= g #[x #[b d 0,b d 0,f ⟨#[]⟩],r false]) ?_ rfl ⟨rfl,by go_grown⟩;simp (maxDischargeDepth:=9) [u,results101,go_sem, *]
theorem En(s:ByteArray)(w:C)(hs:s.size<=281474976710656)(h:0<s.size)(h39:s[0].toNat≠39)(hT:s≠⟨#[84,82,85,69]⟩)(hF:s≠⟨#[70,65,76,83,69]⟩)(h35:s[0].toNat≠35)(h45:s[0].toNat=45)(m:Nat)(hm:m<10000000000000000)(hm0:m≠0)(hl:l16 (s.extract 1 s.size).data.toList=some m):D prog 101 #[f s] w fun e w'=>e= y (rvB 1 (-(m:Int)) ⟨#[]⟩)/\B w.heap.size w w':=by
 have z1:=Yl h;have z2:=QZ h;have h2:(0:Int)<(s.size:Int):=by omega
 have h1: ¬((s[0].toNat:Nat):Int)=39:=by omega
 have h1':(((s[0].toNat:Nat):Int)==39)=false:=by simpa using h1
 have e10:=Yw (l:= [84,82,85,69]) hT;have e11:=Yw (l:= [70,65,76,83,69]) hF;clear hT hF;have h5: ¬((s[0].toNat:Nat):Int)=35:=by omega
 have h5':(((s[0].toNat:Nat):Int)==35)=false:=by simpa using h5
 have h6:((s[0].toNat:Nat):Int)=45:=by omega
 have h3:(1:Int)<=(s.size:Int):=by omega
 have h4:Hid ((s.extract 1 s.size).size<=281474976710656):=by show _<=_;rw[z];omega
 have HL:Hid (o16 (l16 (s.extract 1 s.size).data.toList)= g #[b d (m:Int),r true]):=by show o16 _=_;rw[hl];rfl
 clear hl;have m0: ¬(m:Int)=0:=by omega
 have m1:((m:Int)==0)=false:=by simpa using m0
 cases ho:okV 1 (-(m:Int)) ⟨#[]⟩
 ·have h0:Hid (okV 1 (-(m:Int)) ⟨#[]⟩=false):=ho;have HE:Hid (rvB 1 (-(m:Int)) ⟨#[]⟩= g #[x #[b d 0,b d 0,f ⟨#[]⟩],r false]):=MJ ho;clear ho;go_enter func101,ntmps101
  go_wp2_with (first
  | (go_at_call 135;refine(QS (s.extract 1 s.size) _ h4.out).mono ?_;rintro e w1 ⟨rfl,rfl⟩;rw[HL.out])
  | (go_at_call 136;refine(Qq _ _ _ _ JV).mono ?_;rintro e w1 ⟨rfl,hb⟩;rw[h0.out];obtain⟨hc,hf,hC,hF,hz,hk,l0,l1⟩:=bk2 (w:=w) hb;clear hb))
  all_goals
   refine j (v:= g #[x #[b d 0,b d 0,f ⟨#[]⟩],r false]) ?_ rfl ⟨by rw[HE.out],by go_grown⟩;simp (maxDischargeDepth:=9) [u,results101,go_sem, *]
 ·have h0:Hid (okV 1 (-(m:Int)) ⟨#[]⟩=true):=ho;have HE:Hid (rvB 1 (-(m:Int)) ⟨#[]⟩= g #[x #[b d 1,b d (-(m:Int)),f ⟨#[]⟩],r true]):=Vv ho;clear ho;go_enter func101,ntmps101
  go_wp2_with (first
  | (go_at_call 135;refine(QS (s.extract 1 s.size) _ h4.out).mono ?_;rintro e w1 ⟨rfl,rfl⟩;rw[HL.out])
  | (go_at_call 136;refine(Qq _ _ _ _ JV).mono ?_;rintro e w1 ⟨rfl,hb⟩;rw[h0.out];obtain⟨hc,hf,hC,hF,hz,hk,l0,l1⟩:=bk2 (w:=w) hb;clear hb))
  all_goals
   refine j (v:= g #[x #[b d 1,b d (-(m:Int)),f ⟨#[]⟩],r true]) ?_ rfl ⟨by rw[HE.out],by go_grown⟩;simp (maxDischargeDepth:=9) [u,results101,go_sem, *]
def efd(s:ByteArray):Nat->Int
 | 0=>0
 | k+1=>if erT (k:Int)=s then(k:Int)else efd s k
theorem Qrz(s:ByteArray):efd s 1=0:=by
 show(if erT ((0:Nat):Int)=s then((0:Nat):Int)else efd s 0)=0;split<;>rfl
theorem Qpg(s:ByteArray)(w:C)(hs:s.size<=281474976710656)(h:0<s.size)(h39:s[0].toNat≠39)(hT:s≠⟨#[84,82,85,69]⟩)(hF:s≠⟨#[70,65,76,83,69]⟩)(h35:s[0].toNat=35):D prog 101 #[f s] w fun e w'=>e= y (rvB 4 (efd s 6) ⟨#[]⟩)/\B w.heap.size w w':=by
 have z1:=Yl h;have z2:=QZ h;have h2:(0:Int)<(s.size:Int):=by omega
 have h1: ¬((s[0].toNat:Nat):Int)=39:=by omega
 have h9:(((s[0].toNat:Nat):Int)==39)=false:=by simpa using h1
 have H1:=Yw (l:= [84,82,85,69]) hT;have H0:=Yw (l:= [70,65,76,83,69]) hF;clear hT hF;have h5:((s[0].toNat:Nat):Int)=35:=by omega
 have h8:Hid (efd s 1=0):=Qrz s;go_enter func101,ntmps101;go_wp2_with fail
 go_loopw [5] (fun i wr=> ∃k:Nat,1<=k/\k<=6/\i= b d k/\wr.cell? ⟨w.heap.size,0,none⟩=some (b d 0)/\wr.cell? ⟨w.heap.size,1,none⟩=some (b d 0)/\wr.cell? ⟨w.heap.size,2,none⟩=some (f ⟨#[]⟩)/\wr.cell? ⟨w.heap.size+1,0,none⟩=some (b d 4)/\wr.cell? ⟨w.heap.size+1,1,none⟩=some (b d (efd s k))/\wr.cell? ⟨w.heap.size+1,2,none⟩=some (f ⟨#[]⟩)/\wr.frozen? ⟨w.heap.size,0,none⟩=false/\wr.frozen? ⟨w.heap.size,1,none⟩=false/\wr.frozen? ⟨w.heap.size,2,none⟩=false/\wr.frozen? ⟨w.heap.size+1,0,none⟩=false/\wr.frozen? ⟨w.heap.size+1,1,none⟩=false/\wr.frozen? ⟨w.heap.size+1,2,none⟩=false/\B w.heap.size w wr/\w.heap.size+2<=wr.heap.size) (fun i _=>7-(intOf i).toNat)
 case atStart=>
  refine⟨1,by omega,by omega,rfl,?_,?_,?_,?_,?_,?_,?_,?_,?_,?_,?_,?_,by go_grown,by go_size⟩
  all_goals first
   | (rw[h8.out];go_simp;done)
   | (go_simp;done)
 case round=>
  clear h8;obtain⟨k,hk1,hk6,rfl,c0,c1,c2,c3,c4,c5,f0,f1,f2,f3,f4,f5,h0,h6⟩:=hrel;have l0:w.heap.size<wr.heap.size:=by omega
  have l1:w.heap.size+1<wr.heap.size:=by omega
  by_cases hlt:k<=5
  ·have q1:(k:Int)<=5:=by omega
   by_cases he:erT (k:Int)=s
   ·have e1:=VF he;have HN:Hid (efd s (k+1)=(k:Int)):=by show efd s (k+1)=_;rw[efd,pS he]
    clear he;have h3:Hid (B w.heap.size w wr):=h0;clear h0;go_wp2_with fail
    refine(Zo _ _ (by omega) (by omega)).mono ?_;rintro e w1 ⟨rfl,hb⟩;have h4:=hd (Qb h3.out hb);have g0:=(hb.frozen (p:=⟨w.heap.size,0,none⟩) l0).trans f0;have g1:=(hb.frozen (p:=⟨w.heap.size,1,none⟩) l0).trans f1;have g2:=(hb.frozen (p:=⟨w.heap.size,2,none⟩) l0).trans f2;have g3:=(hb.frozen (p:=⟨w.heap.size+1,0,none⟩) l1).trans f3
    have g4:=(hb.frozen (p:=⟨w.heap.size+1,1,none⟩) l1).trans f4;have g5:=(hb.frozen (p:=⟨w.heap.size+1,2,none⟩) l1).trans f5;have d0:=(hb.cell (p:=⟨w.heap.size,0,none⟩) l0).trans c0;have d1:=(hb.cell (p:=⟨w.heap.size,1,none⟩) l0).trans c1;have d2:=(hb.cell (p:=⟨w.heap.size,2,none⟩) l0).trans c2;have d3:=(hb.cell (p:=⟨w.heap.size+1,0,none⟩) l1).trans c3;have d4:=(hb.cell (p:=⟨w.heap.size+1,1,none⟩) l1).trans c4
    have d5:=(hb.cell (p:=⟨w.heap.size+1,2,none⟩) l1).trans c5;clear c0 c1 c2 c3 c4 c5;have m0:w.heap.size+2<=w1.heap.size:=Nat.le_trans h6 hb.size;clear hb f0 f1 f2 f3 f4 f5 l0 l1 h6 h3;go_wp2_with fail
    all_goals
     go_roundw
     case rel=>
      refine⟨k+1,by omega,by omega,by go_num,?_,?_,?_,?_,?_,?_,?_,?_,?_,?_,?_,?_,h4.out.setCell (by simp) _,by simpa using m0⟩
      all_goals first
       | (rw[HN.out];go_simp;done)
       | (go_simp;done)
     case measure=>simp[intOf];omega
   ·have e1:=QQ he;have HN:Hid (efd s (k+1)=efd s k):=by show efd s (k+1)=_;rw[efd,nG he]
    clear he;have h3:Hid (B w.heap.size w wr):=h0;clear h0;go_wp2_with fail
    refine(Zo _ _ (by omega) (by omega)).mono ?_;rintro e w1 ⟨rfl,hb⟩;have h4:=hd (Qb h3.out hb);have g0:=(hb.frozen (p:=⟨w.heap.size,0,none⟩) l0).trans f0;have g1:=(hb.frozen (p:=⟨w.heap.size,1,none⟩) l0).trans f1;have g2:=(hb.frozen (p:=⟨w.heap.size,2,none⟩) l0).trans f2;have g3:=(hb.frozen (p:=⟨w.heap.size+1,0,none⟩) l1).trans f3
    have g4:=(hb.frozen (p:=⟨w.heap.size+1,1,none⟩) l1).trans f4;have g5:=(hb.frozen (p:=⟨w.heap.size+1,2,none⟩) l1).trans f5;have d0:=(hb.cell (p:=⟨w.heap.size,0,none⟩) l0).trans c0;have d1:=(hb.cell (p:=⟨w.heap.size,1,none⟩) l0).trans c1;have d2:=(hb.cell (p:=⟨w.heap.size,2,none⟩) l0).trans c2;have d3:=(hb.cell (p:=⟨w.heap.size+1,0,none⟩) l1).trans c3;have d4:=(hb.cell (p:=⟨w.heap.size+1,1,none⟩) l1).trans c4
    have d5:=(hb.cell (p:=⟨w.heap.size+1,2,none⟩) l1).trans c5;clear c0 c1 c2 c3 c4 c5;have m0:w.heap.size+2<=w1.heap.size:=Nat.le_trans h6 hb.size;clear hb f0 f1 f2 f3 f4 f5 l0 l1 h6 h3;go_wp2_with fail
    all_goals
     go_roundw
     case rel=>exact⟨k+1,by omega,by omega,by go_num,d0,d1,d2,d3,by rw[HN.out];exact d4,d5,g0,g1,g2,g3,g4,g5,h4.out,m0⟩
     case measure=>simp[intOf];omega
  ·have q1: ¬(k:Int)<=5:=by omega
   obtain rfl:k=6:=by omega
   have h3:Hid (B w.heap.size w wr):=h0;clear h0 H1 H0 z1 z2 h1 h9;cases ho:okV 4 (efd s 6) ⟨#[]⟩
   ·have h7:Hid (okV 4 (efd s 6) ⟨#[]⟩=false):=ho;have HE:Hid (rvB 4 (efd s 6) ⟨#[]⟩= g #[x #[b d 0,b d 0,f ⟨#[]⟩],r false]):=MJ ho;clear ho;go_wp2_with fail
    refine(Qq _ _ _ _ JV).mono ?_;rintro e w1 ⟨rfl,hb⟩;try rw[h7.out]
    have h4:=hd (Qb h3.out hb);have g0:=(hb.frozen (p:=⟨w.heap.size,0,none⟩) l0).trans f0;have g1:=(hb.frozen (p:=⟨w.heap.size,1,none⟩) l0).trans f1;have g2:=(hb.frozen (p:=⟨w.heap.size,2,none⟩) l0).trans f2;have d0:=(hb.cell (p:=⟨w.heap.size,0,none⟩) l0).trans c0;have d1:=(hb.cell (p:=⟨w.heap.size,1,none⟩) l0).trans c1;have d2:=(hb.cell (p:=⟨w.heap.size,2,none⟩) l0).trans c2
    have d3:=(hb.cell (p:=⟨w.heap.size+1,0,none⟩) l1).trans c3;have d4:=(hb.cell (p:=⟨w.heap.size+1,1,none⟩) l1).trans c4;have d5:=(hb.cell (p:=⟨w.heap.size+1,2,none⟩) l1).trans c5;clear c0 c1 c2 c3 c4 c5;clear hb f0 f1 f2 f3 f4 f5 l0 l1 h6 h3;go_wp2_with fail
    refine j (v:= g #[x #[b d 0,b d 0,f ⟨#[]⟩],r false]) ?_ rfl ⟨by rw[HE.out],((h4.out.setCell (by simp) _).setCell (by simp) _).setCell (by simp) _⟩;simp (maxDischargeDepth:=9) [u,results101,go_sem, *]
   ·have h7:Hid (okV 4 (efd s 6) ⟨#[]⟩=true):=ho;have HE:Hid (rvB 4 (efd s 6) ⟨#[]⟩= g #[x #[b d 4,b d (efd s 6),f ⟨#[]⟩],r true]):=Vv ho;clear ho;go_wp2_with fail
    refine(Qq _ _ _ _ JV).mono ?_;rintro e w1 ⟨rfl,hb⟩;try rw[h7.out]
    have h4:=hd (Qb h3.out hb);have g0:=(hb.frozen (p:=⟨w.heap.size,0,none⟩) l0).trans f0;have g1:=(hb.frozen (p:=⟨w.heap.size,1,none⟩) l0).trans f1;have g2:=(hb.frozen (p:=⟨w.heap.size,2,none⟩) l0).trans f2;have d0:=(hb.cell (p:=⟨w.heap.size,0,none⟩) l0).trans c0;have d1:=(hb.cell (p:=⟨w.heap.size,1,none⟩) l0).trans c1;have d2:=(hb.cell (p:=⟨w.heap.size,2,none⟩) l0).trans c2
    have d3:=(hb.cell (p:=⟨w.heap.size+1,0,none⟩) l1).trans c3;have d4:=(hb.cell (p:=⟨w.heap.size+1,1,none⟩) l1).trans c4;have d5:=(hb.cell (p:=⟨w.heap.size+1,2,none⟩) l1).trans c5;clear c0 c1 c2 c3 c4 c5;clear hb f0 f1 f2 f3 f4 f5 l0 l1 h6 h3;go_wp2_with fail
    refine j (v:= g #[x #[b d 4,b d (efd s 6),f ⟨#[]⟩],r true]) ?_ rfl ⟨by rw[HE.out],((h4.out.setCell (by simp) _).setCell (by simp) _).setCell (by simp) _⟩;simp (maxDischargeDepth:=9) [u,results101,go_sem, *]
def Mo:Value:= g #[x #[b d 0,b d 0,f ⟨#[]⟩],r false]
def rvO(o:Option Int):Value:=match o with
 | some v=>rvB 1 v ⟨#[]⟩
 | none=>Mo
def rvS(s:ByteArray):Value:=
 if h:0<s.size then(if s[0].toNat=39 then rvB 2 0 (s.extract 1 s.size)else if s=trT 1 then rvB 3 1 ⟨#[]⟩else if s=trT 0 then rvB 3 0 ⟨#[]⟩
  else if s[0].toNat=35 then rvB 4 (efd s 6) ⟨#[]⟩else rvO (MW s.data.toList))else rvB 0 0 ⟨#[]⟩
theorem JZ(s:ByteArray):(s.extract 1 s.size).data.toList=s.data.toList.tail:=by
 obtain⟨⟨l⟩⟩:=s;cases l with
 | nil=>rfl
 | cons a t=>
  have e:(ByteArray.extract ⟨⟨a::t⟩⟩ 1 (ByteArray.size ⟨⟨a::t⟩⟩)).data.toList=((a::t).extract 1 (a::t).length):=by simp[ByteArray.size]
  rw[e];simp[List.extract]
theorem Quw(h:0<s.size)(h45:s[0].toNat=45):s.data.toList.head? =some 45:=by
 rw[Yx h];congr 1
 apply UInt8.toNat_inj.1;rw[h45];rfl
theorem Qrm(h:0<s.size)(h45:s[0].toNat≠45): ¬s.data.toList.head? =some 45:=by
 rw[Yx h];intro e;have:s[0]=45:=by simpa using e
 apply h45;rw[this];rfl
theorem VW(s:ByteArray)(w:C)(hs:s.size<=281474976710656):D prog 101 #[f s] w fun e w'=>e= y (rvS s)/\B w.heap.size w w':=by
 by_cases h:0<s.size
 ·by_cases h1:s[0].toNat=39
  ·rw[show rvS s=rvB 2 0 (s.extract 1 s.size) by unfold rvS;rw[dif_pos h,pS h1]];exact Qkl s w hs h h1
  by_cases hT:s=trT 1
  ·rw[show rvS s=rvB 3 1 ⟨#[]⟩ by unfold rvS;rw[dif_pos h,nG h1,pS hT]];exact Qkm s w hs h h1 hT
  by_cases hF:s=trT 0
  ·rw[show rvS s=rvB 3 0 ⟨#[]⟩ by unfold rvS;rw[dif_pos h,nG h1,nG hT,pS hF]];exact Qh4 s w hs h h1 hT hF
  by_cases h2:s[0].toNat=35
  ·rw[show rvS s=rvB 4 (efd s 6) ⟨#[]⟩ by unfold rvS;rw[dif_pos h,nG h1,nG hT,nG hF,pS h2]];exact Qpg s w hs h h1 hT hF h2
  rw[show rvS s=rvO (MW s.data.toList) by unfold rvS;rw[dif_pos h,nG h1,nG hT,nG hF,nG h2]];by_cases h3:s[0].toNat=45
  ·unfold MW;rw[pS (Quw h h3)];cases hl:l16 s.data.toList.tail with
   | none=>exact Eo s w hs h h1 hT hF h2 h3 (by rw[JZ];exact hl)
   | some m=>
    have hm:=(Jg hl).2.1;simp only;by_cases h0:m=0
    ·subst h0;rw[pS rfl];exact Nd s w hs h h1 hT hF h2 h3 (by rw[JZ];exact hl)
    ·rw[nG h0];exact En s w hs h h1 hT hF h2 h3 m hm h0 (by rw[JZ];exact hl)
  ·unfold MW;rw[nG (Qrm h h3)];cases hl:l16 s.data.toList with
   | none=>exact Em s w hs h h1 hT hF h2 h3 hl
   | some m=>exact El s w hs h h1 hT hF h2 h3 m (Jg hl).2.1 hl
 ·rw[show rvS s=rvB 0 0 ⟨#[]⟩ by unfold rvS;rw[dif_neg h]];obtain rfl:=Za (s:=s) (by omega);exact Qpf w
theorem Jh:emp ⟨#[]⟩=true:=by simp[emp,A]
theorem Du(h:gOk (k,n,s)=okV k n s):rvT (k,n,s)=rvB k n s:=by unfold rvT rvB;rw[h]
theorem rv0:rvT (0,0,⟨#[]⟩)=rvB 0 0 ⟨#[]⟩:=Du (by simp[gOk,okV,Jh])
theorem rv1(n:Int):rvT (1,n,⟨#[]⟩)=rvB 1 n ⟨#[]⟩:=Du (by simp[gOk,okV,Jh])
theorem rv2(s:ByteArray):rvT (2,0,s)=rvB 2 0 s:=Du (by simp[gOk,okV])
theorem rv3(n:Int):rvT (3,n,⟨#[]⟩)=rvB 3 n ⟨#[]⟩:=Du (by simp[gOk,okV,Jh])
theorem rv4(n:Int):rvT (4,n,⟨#[]⟩)=rvB 4 n ⟨#[]⟩:=Du (by simp[gOk,okV,Jh])
theorem rv5:rvT (5,0,⟨#[]⟩)=Mo:=rfl
theorem Qnh(h:Ym n=false):rvB 1 n ⟨#[]⟩=Mo:=by simp[rvB,okV,h,Mo]
theorem Qtw:rvB 4 0 ⟨#[]⟩=Mo:=by simp[rvB,okV,JH,Mo]
theorem XM(k:Int)(h1:1<=k)(h5:k<=5): ∀s,s=erT k-> ∀h:0<s.size,s[0].toNat=35:=by
 have hk:k=1\/k=2\/k=3\/k=4\/k=5:=by omega
 rintro s rfl h;rcases hk with rfl | rfl | rfl | rfl | rfl<;>rfl
theorem BM{v:Int}(h:Lib.itoa v=l): ∀c,l.head? =some c->c.toNat=45\/(48<=c.toNat/\c.toNat<=57):=by
 intro c hc;subst h;unfold Lib.itoa at hc;split at hc
 ·left
  simp only[List.head?_cons,Option.some.injEq]at hc;rw[<-hc];rfl
 ·exact Or.inr (Ec _ c hc)
theorem Md{v:Int}(h:YW l=some v):Lib.itoa v=l/\Lib.parseIntB 64 l= .ok v:=by
 unfold YW at h;split at h
 ·split at h
  ·rename_i hp hi
   cases h
   exact⟨hi,hp⟩
  ·cases h
 ·cases h
theorem Qlh(l:List UInt8):rvT (Qn6 (YW l))=rvO (MW l):=by
 cases hr:YW l with
 | none=>
  cases hs:MW l with
  | none=>rfl
  | some v=>
   obtain⟨h1,h2⟩:=KO hs;rw[NC h2 h1]at hr;cases hr
 | some v=>
  obtain⟨h1,h2⟩:=Md hr;show rvT (1,v,⟨#[]⟩)=_;rw[rv1];cases hn:Ym v
  ·rw[Qnh hn];cases hs:MW l with
   | none=>rfl
   | some v'=>
    obtain⟨h3,h4⟩:=KO hs;rw[h2]at h4;cases h4
    show Mo=rvB 1 v ⟨#[]⟩;rw[Qnh hn]
  ·have hb: -1000000000000000<=v/\v<=1000000000000000:=of_decide_eq_true hn;rw[<-h1,Mg v (by omega) (by omega)];rfl
theorem Qie(h:0<s.size)(h35:s[0].toNat=35):YW s.data.toList=none:=by
 cases hr:YW s.data.toList with
 | none=>rfl
 | some v=>
  have:=BM (Md hr).1 _ (Yx h);omega
theorem DQ(k:Nat)(h1:1<=k)(h5:k<=5)(h:s=erT k):efd s 6=k:=by
 subst h;have hk:k=1\/k=2\/k=3\/k=4\/k=5:=by omega
 rcases hk with rfl | rfl | rfl | rfl | rfl<;>decide
theorem Qms(h: ∀k:Nat,1<=k->k<=5->s≠erT k):efd s 6=0:=by
 have e: ∀k:Nat,k<=6->efd s k=0:=by
  intro k;induction k with
  | zero=>intro _;rfl
  | succ k ih=>
   intro hk;rw[efd];by_cases h0:k=0
   ·subst h0;split
    ·rfl
    ·exact ih (by omega)
   ·rw[nG (fun e=>h k (by omega) (by omega) e.symm)];exact ih (by omega)
 exact e 6 (Nat.le_refl _)
theorem Ny(s:ByteArray):rvT (Qu s)=rvS s:=by
 unfold Qu rvS;by_cases h:0<s.size
 ·rw[dif_pos h,dif_pos h];by_cases h1:s[0].toNat=39
  ·rw[pS h1,pS h1];exact rv2 _
  rw[nG h1,nG h1];unfold YK;by_cases hF:s=trT 0
  ·rw[pS hF,nG (by rw[hF];decide),pS hF];exact rv3 0
  by_cases hT:s=trT 1
  ·rw[nG hF,pS hT,pS hT];exact rv3 1
  rw[nG hF,nG hT,nG hT,nG hF];by_cases h0:s[0].toNat=35
  ·rw[pS h0];by_cases n1:s=erT 1
   ·rw[pS n1,DQ 1 (by omega) (by omega) n1];exact rv4 1
   by_cases n2:s=erT 2
   ·rw[nG n1,pS n2,DQ 2 (by omega) (by omega) n2];exact rv4 2
   by_cases n3:s=erT 3
   ·rw[nG n1,nG n2,pS n3,DQ 3 (by omega) (by omega) n3];exact rv4 3
   by_cases n4:s=erT 4
   ·rw[nG n1,nG n2,nG n3,pS n4,DQ 4 (by omega) (by omega) n4];exact rv4 4
   by_cases n5:s=erT 5
   ·rw[nG n1,nG n2,nG n3,nG n4,pS n5,DQ 5 (by omega) (by omega) n5];exact rv4 5
   rw[nG n1,nG n2,nG n3,nG n4,nG n5,Qie h h0,Qms (fun k k1 k5=> ?_),Qtw]
   ·exact rv5
   ·have hk:k=1\/k=2\/k=3\/k=4\/k=5:=by omega
    rcases hk with rfl | rfl | rfl | rfl | rfl<;>assumption
  ·rw[nG h0,nG (fun e=>h0 (XM 1 (by omega) (by omega) s e h)),nG (fun e=>h0 (XM 2 (by omega) (by omega) s e h)),nG (fun e=>h0 (XM 3 (by omega) (by omega) s e h)),nG (fun e=>h0 (XM 4 (by omega) (by omega) s e h)),nG (fun e=>h0 (XM 5 (by omega) (by omega) s e h))];exact Qlh _
 ·rw[dif_neg h,dif_neg h];exact rv0
end Go.Proofs.YtomadadmakdkgaaGreatDoor
