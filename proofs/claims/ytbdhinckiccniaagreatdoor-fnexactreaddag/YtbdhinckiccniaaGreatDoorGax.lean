import Derived.Test.YtbdhinckiccniaaGreatDoorMn
import Derived.Test.YtbdhinckiccniaaGreatDoorGat
import Derived.Test.YtbdhinckiccniaaGreatDoorGan
set_option linter.unusedSimpArgs false
set_option linter.unusedVariables false
set_option maxHeartbeats 8000000
set_option maxRecDepth 100000
namespace Go.Proofs.YtbdhinckiccniaaGreatDoor
open Go.RowKit
def sgN (l:List UInt8):Nat:=if l.head? =some 40∨l.head? =some 41∨l.head? =some 44∨l.head? =some 58 then 1 else(sgT (QV l)).length
theorem Qqf: ∀k:Fin 256,decide (0≤Lib.indexByte [40,41,44,58] (UInt8.ofNat k.val))=decide (UInt8.ofNat k.val=40∨UInt8.ofNat k.val=41∨UInt8.ofNat k.val=44∨UInt8.ofNat k.val=58):=by decide+kernel
theorem Qk9 (b:UInt8):decide (0≤Lib.indexByte [40,41,44,58] b)=decide (b=40∨b=41∨b=44∨b=58):=by
 have h:=Qqf ⟨b.toNat,b.toNat_lt⟩;simp only [UInt8.ofNat_toNat]at h;exact h
theorem Qpz {k:Nat} {l:List UInt8} (h:(sgT (k:Int)).isPrefixOf l=true):lnG (k+1) l=max (lnG k l) (sgT (k:Int)).length:=by rw [lnG,if_pos h]
theorem Qsu {k:Nat} {l:List UInt8} (h:(sgT (k:Int)).isPrefixOf l=false):lnG (k+1) l=lnG k l:=by rw [lnG,if_neg (by rw [h];simp)]
theorem UU (s:ByteArray) (w:World) (h0:0<s.size) (hs:s.size≤1000) (ho:OT w):Calls Tryz.prog 318 #[.string s] w fun e w'=>
  e= .returned (.int .i64 (sgN s.data.toList:Nat))∧Below w.heap.size w w':=by
 have q0:(0:Int)<(s.size:Int):=by omega
 have HH:Hid (s.data.toList.head? =some s[0]):=Yz h0;obtain⟨cs,hlen,hrg,hix⟩:=Qmi ho;have HLN:Hid (cs.length=24):=hlen;have HR:Hid (w.rangeAt 1 0 cs):=hrg;have HI2:Hid (∀k:Nat,k<12→ ∀w:World,(Instr.index 262 (.agg cs.toArray) (.int .i64 (k:Int))).run Tryz.prog w= .ok (.agg #[.string (bs (sgT (k:Int))),.int .i64 (bnO k)]) w):=hix;clear hlen hrg hix;obtain⟨ix,hix⟩: ∃ix,Lib.indexByte (⟨#[40,41,44,58]⟩:ByteArray).data.toList ((s[0].toNat:Int)).toNat.toUInt8=ix:=⟨_,rfl⟩
 have HIX:Hid (Lib.indexByte (⟨#[40,41,44,58]⟩:ByteArray).data.toList ((s[0].toNat:Int)).toNat.toUInt8=ix):=hix;clear hix
 have HI:Hid (0≤ix↔(s[0]=40∨s[0]=41∨s[0]=44∨s[0]=58)):=by
  have h:=Qk9 s[0];rw [decide_eq_decide]at h;show _↔_;rw [←h,←HIX.out,Int.toNat_natCast,show s[0].toNat.toUInt8=s[0]from UInt8.ofNat_toNat]
 clear ho;go_enter Tryz.func318,Tryz.ntmps318;go_wp2_with fail
 refine(Tryz.strings_IndexByte _ _ _).mono ?_;rintro _ w1 ⟨rfl,hw1⟩;obtain rfl:=hw1.symm;clear hw1;rw [HIX.out];by_cases hi:0≤ix
 ·have HE:Hid (sgN s.data.toList=1):=by
   show _=_;unfold sgN;rw [if_pos];rw [HH.out];have h9:=HI.out.1 hi;simp only [Option.some.injEq];exact h9
  go_wp2_with fail
  go_ret;exact⟨by rw [HE.out];rfl,Below.refl _ _⟩
 ·have HE:Hid (sgN s.data.toList=lnG 12 s.data.toList):=by
   show _=_;unfold sgN;rw [if_neg,Qst];rw [HH.out];simp only [Option.some.injEq];exact fun h=>hi (HI.out.2 h)
  clear HI HIX HH;obtain⟨l,HL⟩: ∃l,Hid (s.data.toList=l):=⟨_,rfl⟩;have HE2:Hid (sgN s.data.toList=lnG 12 l):=by show _=_;rw [HE.out,HL.out]
  go_wp2_with (refine wpList_load_mid rfl 262 (.global 1) rfl 1 0 rfl cs _ HR.out Tryz.underlying262 rfl (by rw [HLN.out];kernel_rfl) ?_)
  generalize (Value.agg cs.toArray)=tb at*
  go_loopw [3,11] (fun a b wr=> ∃k:Nat,k≤12∧a= .int .i64 (lnG k l:Nat)∧b= .int .i64 (k:Nat)∧Below w.heap.size w wr) (fun _ b _=>12-(intOf b).toNat)
  case atStart=>exact⟨0,Nat.zero_le _,rfl,rfl,Below.refl _ _⟩
  case round=>
   obtain⟨k,hk,rfl,rfl,hbw⟩:=hrel;have HBW:Hid (Below w.heap.size w wr):=hbw;clear hbw;by_cases h12:k<12
   ·have q1:(k:Int)<12:=by omega
    have hw1:IntKind.i64.wrap ((k:Int)+1)=(k:Int)+1:=by rw [IntKind.wrap_i64];omega
    obtain⟨x,HX⟩: ∃x,Hid (bs (sgT (k:Int))=x):=⟨_,rfl⟩;obtain⟨y,HY⟩: ∃y,Hid (bnO k=y):=⟨_,rfl⟩;have HIK:Hid (∀w:World,(Instr.index 262 tb (.int .i64 (k:Int))).run Tryz.prog w= .ok (.agg #[.string x,.int .i64 y]) w):=fun w=>by rw [←HX.out,←HY.out];exact HI2.out k h12 w
    have HXS:Hid (x.size=(sgT (k:Int)).length):=by show _=_;rw [←HX.out];rfl
    have HXD:Hid (x.data.toList=sgT (k:Int)):=by show _=_;rw [←HX.out];rfl
    obtain⟨g,HG⟩: ∃g,Hid (lnG k l=g):=⟨_,rfl⟩;rw [HG.out];cases hp:(sgT (k:Int)).isPrefixOf l
    ·have HP:Hid (Lib.hasPrefix s.data.toList x.data.toList=false):=by show _=_;rw [Lib.hasPrefix,HL.out,HXD.out];exact hp
     have HN:Hid (lnG (k+1) l=g):=by show _=_;rw [Qsu hp,HG.out]
     clear hp
     go_wp2_with (first
      | (refine QR rfl _ _ _ rfl tb (.int .i64 (k:Int)) _ rfl rfl (HIK.out _) ?_)
      | (go_at_call 323;refine(Tryz.strings_HasPrefix _ _ _).mono ?_;rintro e w1 ⟨rfl,hw1⟩;obtain rfl:=hw1.symm;clear hw1;rw [HP.out]))
     exact⟨⟨k+1,by omega,by rw [HN.out],by simp,Qc HBW.out (by go_grown)⟩,by simp [intOf];omega⟩
    ·have HP:Hid (Lib.hasPrefix s.data.toList x.data.toList=true):=by show _=_;rw [Lib.hasPrefix,HL.out,HXD.out];exact hp
     have HN:Hid (lnG (k+1) l=max g x.size):=by show _=_;rw [Qpz hp,HG.out,HXS.out]
     clear hp;by_cases hmx:g<x.size
     ·have q3:(g:Int)<(x.size:Int):=by omega
      have HN2:Hid (lnG (k+1) l=x.size):=by show _=_;rw [HN.out];omega
      go_wp2_with (first
       | (refine QR rfl _ _ _ rfl tb (.int .i64 (k:Int)) _ rfl rfl (HIK.out _) ?_)
       | (go_at_call 323;refine(Tryz.strings_HasPrefix _ _ _).mono ?_;rintro e w1 ⟨rfl,hw1⟩;obtain rfl:=hw1.symm;clear hw1;rw [HP.out]))
      exact⟨⟨k+1,by omega,by rw [HN2.out];congr 1;omega,by simp,Qc HBW.out (by go_grown)⟩,by simp [intOf];omega⟩
     ·have q3: ¬(g:Int)<(x.size:Int):=by omega
      have q4:(x.size:Int)≤(g:Int):=by omega
      have HN2:Hid (lnG (k+1) l=g):=by show _=_;rw [HN.out];omega
      go_wp2_with (first
       | (refine QR rfl _ _ _ rfl tb (.int .i64 (k:Int)) _ rfl rfl (HIK.out _) ?_)
       | (go_at_call 323;refine(Tryz.strings_HasPrefix _ _ _).mono ?_;rintro e w1 ⟨rfl,hw1⟩;obtain rfl:=hw1.symm;clear hw1;rw [HP.out]))
      exact⟨⟨k+1,by omega,by rw [HN2.out];congr 1;omega,by simp,Qc HBW.out (by go_grown)⟩,by simp [intOf];omega⟩
   ·obtain rfl:k=12:=by omega
    go_wp2_with fail
    go_ret;exact⟨by rw [HE2.out];rfl,HBW.out⟩
theorem Zt {s:ByteArray} (h:0<s.size):s.data.toList=s[0]::rest s 1:=by
 rw [←QU s 0 h];exact List.drop_zero.symm
theorem Qjf {s:ByteArray} (h:0<s.size) (hb:s[0]=34):YM s.data.toList=qN s 1:=by
 rw [Zt h,Zf,if_pos hb];unfold qN qNo;have hz:(rest s 1).length+1=s.size:=by rw [Zu];omega
 cases Zh (rest s 1)with
 | none=>rfl
 | some x=>simp only;rw [hz]
theorem Qjg {s:ByteArray} (h:0<s.size) (hb:s[0]=35):YM s.data.toList=(erL (YJ s.data.toList)).length:=by
 conv=>lhs;rw [Zt h]
 rw [Zf,if_neg (by rw [hb];decide),if_pos hb,←Zt h]
theorem Qg8 {s:ByteArray} (h:0<s.size) (h1:s[0]≠34) (h2:s[0]≠35) (hw:isW s[0]=true):YM s.data.toList=((rest s 0).takeWhile isW).length:=by
 conv=>lhs;rw [Zt h]
 rw [Zf,if_neg h1,if_neg h2,if_pos hw,←Zt h];rfl
theorem Qg9 {s:ByteArray} (h:0<s.size) (h1:s[0]≠34) (h2:s[0]≠35) (hw:isW s[0]=false):YM s.data.toList=sgN s.data.toList:=by
 conv=>lhs;rw [Zt h]
 rw [Zf,if_neg h1,if_neg h2,if_neg (by rw [hw];simp),←Zt h];unfold sgN;rw [Yz h];simp only [Option.some.injEq]
def Qvl (n:Nat) (w:World) (e:Ending) (w':World):Prop:=((n≠0∧e= .returned (.int .i64 (n:Nat)))∨(n=0∧e= .panicked noF))∧Below w.heap.size w w'
theorem Un (s:ByteArray) (w:World) (h0:0<s.size) (hs:s.size≤1000) (ho:OT w):Calls Tryz.prog 303 #[.string s] w (Qvl (YM s.data.toList) w):=by
 have q0:(0:Int)<(s.size:Int):=by omega
 have HO:Hid (OT w):=ho;have H0:Hid (0<s.size∧s.size≤1000):=⟨h0,hs⟩;clear ho;have ne_int: ∀c:UInt8,s[0]≠c→ ¬(s[0].toNat:Int)=(c.toNat:Int):=fun c h e=>h (UInt8.toNat_inj.1 (by omega));by_cases h34:s[0]=34
 ·have hb:(s[0].toNat:Int)=34:=by rw [h34];rfl
  obtain⟨n,HN⟩: ∃n,Hid (YM s.data.toList=n):=⟨_,rfl⟩;have HQ:Hid (qN s 1=n):=by show _=_;rw [←Qjf h0 h34,HN.out]
  rw [HN.out];clear h34 ne_int;go_enter Tryz.func303,Tryz.ntmps303;go_wp2_with fail
  refine(Gn s _ H0.out.2 H0.out.1).mono ?_;rintro _ w1 ⟨rfl,hw1⟩;obtain rfl:=hw1.symm;clear hw1;rw [HQ.out];by_cases hn:n=0
  ·subst hn;go_wp2_with fail
   refine(Zn _).mono ?_;rintro _ w2 ⟨rfl,hw2⟩;obtain rfl:=hw2.symm;clear hw2;go_wp2_with fail
   exact⟨rfl,Or.inr ⟨rfl,rfl⟩,Below.refl _ _⟩
  ·have q1: ¬(n:Int)=0:=by omega
   have q2:((n:Int)==0)=false:=by simpa using q1
   have HNN:Hid (n≠0):=hn;clear hn;go_wp2_with fail
   go_ret;exact⟨Or.inl ⟨HNN.out,rfl⟩,Below.refl _ _⟩
 have hb: ¬(s[0].toNat:Int)=34:=ne_int 34 h34;have hb':((s[0].toNat:Int)==34)=false:=by simpa using hb
 by_cases h35:s[0]=35
 ·have hc:(s[0].toNat:Int)=35:=by rw [h35];rfl
  obtain⟨n,HN⟩: ∃n,Hid (YM s.data.toList=n):=⟨_,rfl⟩;have HQ:Hid ((erL (YJ s.data.toList)).length=n):=by show _=_;rw [←Qjg h0 h35,HN.out]
  rw [HN.out];clear h34 h35 ne_int;go_enter Tryz.func303,Tryz.ntmps303;go_wp2_with fail
  refine(Uq s _).mono ?_;rintro _ w1 ⟨rfl,hw1⟩;obtain rfl:=hw1.symm;clear hw1;rw [HQ.out];by_cases hn:n=0
  ·subst hn;go_wp2_with fail
   refine(Zn _).mono ?_;rintro _ w2 ⟨rfl,hw2⟩;obtain rfl:=hw2.symm;clear hw2;go_wp2_with fail
   exact⟨rfl,Or.inr ⟨rfl,rfl⟩,Below.refl _ _⟩
  ·have q1: ¬(n:Int)=0:=by omega
   have q2:((n:Int)==0)=false:=by simpa using q1
   have HNN:Hid (n≠0):=hn;clear hn;go_wp2_with fail
   go_ret;exact⟨Or.inl ⟨HNN.out,rfl⟩,Below.refl _ _⟩
 have hc: ¬(s[0].toNat:Int)=35:=ne_int 35 h35;have hc':((s[0].toNat:Int)==35)=false:=by simpa using hc
 cases hw:isW s[0]
 ·obtain⟨n,HN⟩: ∃n,Hid (YM s.data.toList=n):=⟨_,rfl⟩;have HQ:Hid (sgN s.data.toList=n):=by show _=_;rw [←Qg9 h0 h34 h35 hw,HN.out]
  have HW:Hid (isW s[0]=false):=hw;rw [HN.out];clear h34 h35 ne_int hw;go_enter Tryz.func303,Tryz.ntmps303;go_wp2_with fail
  refine(YH s[0] _).mono ?_;rintro _ w1 ⟨rfl,hw1⟩;obtain rfl:=hw1.symm;clear hw1;rw [HW.out];go_wp2_with fail
  refine(UU s _ H0.out.1 H0.out.2 HO.out).mono ?_;rintro _ w2 ⟨rfl,hb2⟩;have HB:Hid (Below w.heap.size w w2):=hb2;clear hb2;rw [HQ.out];by_cases hn:n=0
  ·subst hn;go_wp2_with fail
   refine(Zn _).mono ?_;rintro _ w3 ⟨rfl,hw3⟩;obtain rfl:=hw3.symm;clear hw3;go_wp2_with fail
   exact⟨rfl,Or.inr ⟨rfl,rfl⟩,HB.out⟩
  ·have q1: ¬(n:Int)=0:=by omega
   have q2:((n:Int)==0)=false:=by simpa using q1
   have HNN:Hid (n≠0):=hn;clear hn;go_wp2_with fail
   go_ret;exact⟨Or.inl ⟨HNN.out,rfl⟩,HB.out⟩
 ·obtain⟨n,HN⟩: ∃n,Hid (YM s.data.toList=n):=⟨_,rfl⟩;have HQ:Hid (((rest s 0).takeWhile isW).length=n):=by show _=_;rw [←Qg8 h0 h34 h35 hw,HN.out]
  have HW:Hid (isW s[0]=true):=hw;rw [HN.out];clear h34 h35 ne_int hw;go_enter Tryz.func303,Tryz.ntmps303;go_wp2_with fail
  refine(YH s[0] _).mono ?_;rintro _ w1 ⟨rfl,hw1⟩;obtain rfl:=hw1.symm;clear hw1;rw [HW.out];go_wp2_with fail
  refine(UT s _ H0.out.2).mono ?_;rintro _ w2 ⟨rfl,hw2⟩;obtain rfl:=hw2.symm;clear hw2;rw [HQ.out];by_cases hn:n=0
  ·subst hn;go_wp2_with fail
   refine(Zn _).mono ?_;rintro _ w3 ⟨rfl,hw3⟩;obtain rfl:=hw3.symm;clear hw3;go_wp2_with fail
   exact⟨rfl,Or.inr ⟨rfl,rfl⟩,Below.refl _ _⟩
  ·have q1: ¬(n:Int)=0:=by omega
   have q2:((n:Int)==0)=false:=by simpa using q1
   have HNN:Hid (n≠0):=hn;clear hn;go_wp2_with fail
   go_ret;exact⟨Or.inl ⟨HNN.out,rfl⟩,Below.refl _ _⟩
theorem infoStr:(Tryz.prog.info? 9).map (fun i=>(i.zero,i.size,i.bytes))=some (some (.string ⟨#[]⟩),1,16):=by kernel_rfl
theorem Qra {ops:Array Oper} {rest:List Oper} {o:Oper} {a:Act} {Q:Exit→Act→World→Prop} (w:World) (hgd:o.guard=none) (s x:Operand)
  (ho:o.op= .call {callee:= .builtin .append,args:= #[s,x],argTypes:= #[61,61]}) (v:Value) (hs:a.eval s=v) (base:Nat) (hb:base≤w.heap.size) (n:Nat) (ys:List Value) (hown:w.ownsRow base 9 1 v n ys)
  (z:ByteArray) (g:Nat) (hx:a.eval x= .slice (some ⟨g,0,none⟩) 1 1) (hc:w.heap[g]? =some (.cells #[.string z] 9 (0,0))) (hk:n≤30000)
  (h: ∀gg cap w',w'.ownsRow base 9 1 (.slice (some ⟨gg,0,none⟩) (n+1) cap) (n+1) (ys++ [.string z])→w.grownBy w' v.ownBlock→(v.ownBlock=some gg∨gg=w.heap.size)→gg<w'.heap.size→wpList Tryz.prog ops Q rest (a.put o.dst (.slice (some ⟨gg,0,none⟩) (n+1) cap)) w'):wpList Tryz.prog ops Q (o::rest) a w:=by
 obtain⟨i0,hi0,hz0,hz1,hz2⟩:=info_parts infoStr;refine wpList_append_lies w hgd s x 61 ho base 9 i0 _ 1 16 Tryz.underlying61 hi0 hz0 hz1 hz2 rfl (by decide) v n ys hs hown ⟨g,0,none⟩ 1 1 [.string z] hx rfl ?_ ?_ (by decide) ?_ ?_ hb w.heap.size rfl h
 ·exact World.news_of_block hc
 ·intro u hu;simp only [List.mem_cons,List.not_mem_nil,or_false]at hu;rw [hu];rfl
 ·unfold maxLen;omega
 ·omega
def pcV (ws:List (List UInt8)):List Value:=ws.map fun l=> .string (bs l)
def Qt3 (l:List UInt8) (w:World) (e:Ending) (w':World):Prop:=((∃ws v,Yx 1001 l=some ws∧e= .returned v∧w'.ownsRow w.heap.size 9 1 v ws.length (pcV ws))∨(Yx 1001 l=none∧e= .panicked noF))∧Below w.heap.size w w'
def EP (v:Value):Nat:=match v with
 | .string s=>s.size
 | _=>0
theorem Qjd (m:Nat) (l:List UInt8):Yx m (sb l)=Yx m l:=by
 cases m with
 | zero=>rfl
 | succ m=>rw [Yx,Yx,Ze,EO]
theorem Qim (t:ByteArray) (n:Nat) (h:n≤t.size):t.extract 0 n=bs (t.data.toList.take n):=by
 rw [Xq t 0 n (Nat.zero_le _)];rfl
theorem Ht (t:ByteArray) (n:Nat) (h:n≤t.size):(t.extract n t.size).data.toList=t.data.toList.drop n:=by
 rw [Xq t n t.size h];show((rest t n).take (t.size-n))=_;rw [List.take_of_length_le (by rw [Zu];omega)];rfl
theorem Oh (s0:ByteArray) (w:World) (hs:s0.size≤1000) (ho:OT w):Calls Tryz.prog 286 #[.string s0] w (Qt3 s0.data.toList w):=by
 have HO:Hid (OT w):=ho;obtain⟨l0,HL0⟩: ∃l,Hid (s0.data.toList=l):=⟨_,rfl⟩;rw [HL0.out];clear ho;go_enter Tryz.func286,Tryz.ntmps286;go_wp2_with fail
 go_loopw [0,3] (fun a p wr=> ∃s ws,a= .string s∧ws.length+s.size≤1000∧wr.ownsRow w.heap.size 9 1 p ws.length (pcV ws)∧Below w.heap.size w wr∧Yx 1001 l0=(Yx (1001-ws.length) s.data.toList).map (fun r=>ws++r)) (fun a _ _=>EP a)
 case atStart=>exact⟨s0,[],rfl,by simpa using hs,⟨rfl,Or.inl ⟨rfl,rfl⟩⟩,Below.refl _ _,by rw [HL0.out];cases Yx 1001 l0<;>rfl⟩
 case round=>
  obtain⟨s,ws,rfl,hsz,hown,hbl,htk⟩:=hrel;have HSZ:Hid (ws.length+s.size≤1000):=hsz;have HOW:Hid (wr.ownsRow w.heap.size 9 1 u3 ws.length (pcV ws)):=hown;have HBL:Hid (Below w.heap.size w wr):=hbl;obtain⟨j,HJ⟩: ∃j,Hid (1001-ws.length=j+1):=⟨1000-ws.length,by show _=_;omega⟩;rw [HJ.out,←Qjd (j+1) s.data.toList]at htk;have HTK:Hid (Yx 1001 l0=(Yx (j+1) (sb s.data.toList)).map (fun r=>ws++r)):=htk
  obtain⟨l,HL⟩: ∃l,Hid (sb s.data.toList=l):=⟨_,rfl⟩;rw [HL.out]at HTK;have HSB:Hid (sb l=l):=by show _=_;rw [←HL.out,Ze]
  have HLL:Hid (l.length≤s.size):=by show _≤_;rw [←HL.out];exact YD _
  obtain⟨t,HT⟩: ∃t,Hid (bs l=t):=⟨_,rfl⟩;have HTR:Hid ((⟨(Lib.trimLeftB s.data.toList 32).toArray⟩:ByteArray)=t):=by show _=_;rw [←HT.out,←HL.out];rfl
  have HTD:Hid (t.data.toList=l):=by show _=_;rw [←HT.out];rfl
  have HTS:Hid (t.size=l.length):=by show _=_;rw [←HT.out];rfl
  clear hsz hown hbl htk;go_wp2_with fail
  refine(Tryz.strings_TrimLeft_one s 32 (by decide) _).mono ?_;rintro _ w1 ⟨rfl,hw1⟩;obtain rfl:=hw1.symm;clear hw1;rw [HTR.out];by_cases hl:l= []
  ·have hbe:t.toList.isEmpty=true:=by rw [←HT.out,ByteArray.toList_eq,hl];rfl
   have HE:Hid (Yx 1001 l0=some ws):=by show _=_;rw [HTK.out,Qje (by rw [HSB.out];exact hl)];simp
   clear hl;go_wp2_with fail
   go_ret;exact⟨Or.inl ⟨ws,u3,HE.out,rfl,HOW.out⟩,HBL.out⟩
  ·have hbe:t.toList.isEmpty=false:=by
    rw [←HT.out,ByteArray.toList_eq];show l.isEmpty=false;cases hq:l with
    | nil=>exact absurd hq hl
    | cons a t=>rfl
   have HZ:Hid (0<t.size):=by show _<_;rw [HTS.out];exact List.length_pos_iff.2 hl
   have HST:Hid (Yx (j+1) l=if YM l=0 then none else(Yx j (l.drop (YM l))).map fun ws=>l.take (YM l)::ws):=by
    have h9:=Qg7 (m:=j) (l:=l) (by rw [HSB.out];exact hl);rw [HSB.out]at h9;exact h9
   clear hl;have HTZ:Hid (t.size≤1000):=by show _≤_;have a1:=HTS.out;have a2:=HLL.out;have a3:=HSZ.out;omega
   have HOT:Hid (OT wr):=(fun m hm=>⟨(HBL.out.cell (p:=⟨1,_,none⟩) HO.out.lt).trans (HO.out m hm).1,(HBL.out.cell (p:=⟨1,_,none⟩) HO.out.lt).trans (HO.out m hm).2⟩);go_wp2_with fail
   refine(Un t _ HZ.out HTZ.out HOT.out).mono ?_;rw [HTD.out];obtain⟨n,HN⟩: ∃n,Hid (YM l=n):=⟨_,rfl⟩;rw [HN.out]at HST ⊢;rintro _ w2 ⟨(⟨hn,rfl⟩ | ⟨hn,rfl⟩),hb2⟩;rotate_left
   ·have HE:Hid (Yx 1001 l0=none):=by show _=_;rw [HTK.out,HST.out,if_pos hn];rfl
    have HB2:=hd (Qc HBL.out hb2);clear hn hb2;go_wp2_with fail
    exact⟨rfl,Or.inr ⟨HE.out,rfl⟩,HB2.out⟩
   have HNT:Hid (n≤t.size):=by show _≤_;rw [HTS.out,←HN.out];exact Qfh l
   have HE:Hid (Yx 1001 l0=(Yx (1001-(ws++ [l.take n]).length) (l.drop n)).map (fun r=>ws++ [l.take n]++r)):=by
    show _=_;rw [HTK.out,HST.out,if_neg hn,List.length_append,show 1001-(ws.length+ [l.take n].length)=j by have:=HJ.out;simp only [List.length_cons,List.length_nil];omega];cases Yx j (l.drop n)with
    | none=>rfl
    | some q=>simp
   have HB2:=hd (Qc HBL.out hb2);have HOW2:=hd (Qf HOW.out hb2);obtain⟨q1,q2,q3⟩:(0:Int)≤(n:Int)∧(n:Int)≤(t.size:Int)∧(t.size:Int)≤(t.size:Int):=by have:=HNT.out;omega
   obtain⟨u,HU⟩: ∃u,Hid (t.extract 0 n=u):=⟨_,rfl⟩;have HUB:Hid (u=bs (l.take n)):=by show _=_;rw [←HU.out,Qim t n HNT.out,HTD.out]
   obtain⟨y,HY⟩: ∃y,Hid (t.extract n t.size=y):=⟨_,rfl⟩;have HYD:Hid (y.data.toList=l.drop n):=by show _=_;rw [←HY.out,Ht t n HNT.out,HTD.out]
   have HYS:Hid (y.size+n=t.size):=by
    show _=_;have h9:y.size=(l.drop n).length:=by rw [←HYD.out];rfl
    have a1:=HTS.out;have a2:=HNT.out;rw [h9,List.length_drop];omega
   have hu:=HU.out;have hy:=HY.out;have HNZ:Hid (n≠0):=hn;have HWS:Hid (w.heap.size≤w2.heap.size):=HB2.out.size;have HKL:Hid (ws.length≤30000):=by show _≤_;have:=HSZ.out;omega
   obtain⟨nw,HNW⟩: ∃nw,Hid (ws.length=nw):=⟨_,rfl⟩;rw [HNW.out]at HOW2 HKL;clear hn hb2;go_wp2_with (at_builtin;refine Qra _ rfl _ _ rfl u3 rfl w.heap.size ?hb nw (pcV ws) ?hw u w2.heap.size rfl ?hc HKL.out ?_)
   case hb=>have:=HWS.out;simp;omega
   case hw=>exact HOW2.out.alloc _
   case hc=>exact heap_alloc_new _ _
   intro gg gcap w3 hown3 hgrow hat hlt3
   have HOW3:Hid (w3.ownsRow w.heap.size 9 1 (.slice (some ⟨gg,0,none⟩) (nw+1) gcap) (ws++ [l.take n]).length (pcV (ws++ [l.take n]))):=by
    show World.ownsRow _ _ _ _ _ _ _;unfold pcV;rw [List.map_append,List.length_append,HNW.out,List.map_singleton,←HUB.out];exact hown3
   have HB3:Hid (Below w.heap.size w w3):=by
    have h1:Below w.heap.size w (w2.alloc (.cells #[.string u] 9)):=Qc HB2.out (by go_grown);have h2:=HOW2.out.alloc (.cells #[.string u] 9);exact h1.trans ⟨hgrow.os,hgrow.tape,hgrow.output,hgrow.size,fun q hq=>hgrow.block q (Nat.lt_of_lt_of_le hq h1.size) (fun e=>by have:=(h2.lt q e.symm).1;omega)⟩
   clear hown3 hgrow hat hlt3;go_wp2_with fail
   refine⟨⟨y,ws++ [l.take n],rfl,?_,HOW3.out,HB3.out,by rw [HYD.out];exact HE.out⟩,?_⟩
   ·rw [List.length_append];have a1:=HYS.out;have a2:=HNZ.out;have a3:=HTS.out;have a4:=HLL.out;have a5:=HSZ.out;simp only [List.length_cons,List.length_nil];omega
   ·have a1:=HYS.out;have a2:=HNZ.out;have a3:=HTS.out;have a4:=HLL.out;simp only [EP];omega
end Go.Proofs.YtbdhinckiccniaaGreatDoor
