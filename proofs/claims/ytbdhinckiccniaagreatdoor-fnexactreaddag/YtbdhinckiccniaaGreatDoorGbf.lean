import Derived.Test.YtbdhinckiccniaaGreatDoorMn
import Derived.Test.YtbdhinckiccniaaGreatDoorGbd
import Derived.Test.YtbdhinckiccniaaGreatDoorGay
set_option linter.unusedSimpArgs false
set_option linter.unusedVariables false
set_option maxHeartbeats 4000000
set_option maxRecDepth 100000
namespace Go.Proofs.YtbdhinckiccniaaGreatDoor
open Go.RowKit
def Zb:List UInt8→List UInt8
 | []=> []
 | [b]=> [b]
 | b::c::t=>if b=48 then Zb (c::t)else b::c::t
theorem Kp: ∀(l:List UInt8),Zm (Zb l) 0=Zm l 0
 | []=>rfl
 | [b]=>rfl
 | b::c::t=>by
  rw [Zb];by_cases h:b=48
  ·rw [if_pos h,Kp (c::t)];subst h;conv=>rhs;rw [Zm]
   rw [if_pos (by decide)];rfl
  ·rw [if_neg h]
theorem Qjk {l:List UInt8} (h:l≠ []):Zb l≠ []:=by
 induction l with
 | nil=>exact absurd rfl h
 | cons b t ih=>
  cases t with
  | nil=>simp [Zb]
  | cons c u=>
   rw [Zb];split
   ·exact ih (by simp)
   ·simp
theorem Qc3 (l:List UInt8):(Zb l).head?≠some 48∨Zb l= [48]:=by
 induction l with
 | nil=>left;simp [Zb]
 | cons b t ih=>
  cases t with
  | nil=>
   by_cases h:b=48
   ·right;rw [h];rfl
   ·left;simp [Zb,h]
  | cons c u=>
   rw [Zb];by_cases h:b=48
   ·rw [if_pos h];exact ih
   ·rw [if_neg h];left;simpa using h
theorem Ms: ∀(l:List UInt8) (n m:Nat),Lib.parseUintM (2^64-1) n l= .ok m→Zm l n=some m
 | [],n,m,h=>by
  simp only [Lib.parseUintM]at h;cases h
  rfl
 | a::l,n,m,h=>by
  simp only [Lib.parseUintM]at h;rw [Zm];split at h
  ·rename_i hd
   rw [if_pos hd];split at h
   ·cases h
   ·split at h
    ·cases h
    ·exact Ms l _ m h
  ·cases h
def u15 (l:List UInt8):Option Nat:=match l16 (Zb l)with
 | some m=>if m≤1000000000000000 then some m else none
 | none=>none
theorem Qbc {l:List UInt8} {m:Nat} (h:l≠ []):u15 l=some m↔Zm l 0=some m∧m≤1000000000000000:=by
 constructor
 ·intro hu;unfold u15 at hu;split at hu
  ·rename_i q hq
   split at hu
   ·rename_i hle
    cases hu
    exact⟨by rw [←Kp];exact(Xk hq).2.2.1,hle⟩
   ·cases hu
  ·cases hu
 ·rintro⟨hd,hle⟩;rw [←Kp]at hd
  have hl:l16 (Zb l)=some m:=by
   rcases Qc3 l with hh | hh
   ·have h9:=Qck (Zb l) m hd (Qjk h) hh;rw [←h9.2];exact Ey m (by omega)
   ·rw [hh]at hd ⊢;have:m=0:=by simp [Zm]at hd;exact hd.symm
    subst this;rfl
  unfold u15;rw [hl];simp only;rw [if_pos hle]
theorem GH {l:List UInt8} {m:Nat} (h:l≠ []):u15 l=some m↔Lib.parseUintB 64 l= .ok m∧m≤1000000000000000:=by
 rw [Qbc h];constructor
 ·rintro⟨hd,hle⟩;refine⟨?_,hle⟩;unfold Lib.parseUintB;rw [if_neg (by simpa using h)];exact Jv l 0 m hd (by omega)
 ·rintro⟨hp,hle⟩;refine⟨?_,hle⟩;unfold Lib.parseUintB at hp;rw [if_neg (by simpa using h)]at hp;exact Ms l 0 m hp
def Qog (b:Bool) (o:Option Nat):Option Int:=match o with
 | some m=>some (if b then-(m:Int)else(m:Int))
 | none=>none
def n5 (l:List UInt8):Option Int:=if l.head? =some 45 then(if l.tail= []then none else Qog true (u15 l.tail))else(if l= []then none else Qog false (u15 l))
def nTo (p:Bool) (e:Lib.NumEnd Int):Option Int:=match e with
 | .ok v=>if p then none else if ZP v=true then some v else none
 | _=>none
def nT (l:List UInt8):Option Int:=nTo (decide (l.head? =some 43)) (Lib.parseIntB 64 l)
theorem Qf8 {v:Int} (h:ZP v=true):nTo false (.ok v)=some v:=by unfold nTo;simp [h]
theorem Qmp {v:Int} {p:Bool} (h:ZP v=false):nTo p (.ok v)=none:=by unfold nTo;simp [h]
theorem Qb2 {e:Lib.NumEnd Int}:nTo true e=none:=by cases e<;>rfl
theorem XZ (v:Int):ZP v=true↔ -1000000000000000≤v∧v≤1000000000000000:=by
 unfold ZP;rw [decide_eq_true_iff]
theorem Qbb {l:List UInt8} (h:l≠ []) (hu:u15 l=none) {u:Nat} (hp:Lib.parseUintB 64 l= .ok u):1000000000000000<u:=by
 rcases Nat.lt_or_ge 1000000000000000 u with h9 | h9
 ·exact h9
 ·rw [(GH h).2 ⟨hp,h9⟩]at hu;cases hu
theorem Qre:(2:Nat)^(64-1)=9223372036854775808:=rfl
theorem Qfr {v:Int} (h: ¬(-1000000000000000≤v∧v≤1000000000000000)):ZP v=false:=by
 unfold ZP;exact decide_eq_false h
theorem Qmm (l:List UInt8):nT l=n5 l:=by
 cases l with
 | nil=>rfl
 | cons c r=>
  by_cases h45:c=45
  ·subst h45;have e:decide ((45::r).head? =some 43)=false:=by simp
   unfold nT n5;rw [e,Lib.parseIntB_minus,if_pos (show(45::r).head? =some 45 from rfl),List.tail_cons,Qre];by_cases hr:r= []
   ·rw [if_pos hr,hr];rfl
   ·rw [if_neg hr];cases hu:u15 r with
    | some m=>
     obtain⟨hp,hle⟩:=(GH hr).1 hu;rw [hp];simp only [Lib.signedC];rw [if_neg (by omega),Qf8 ((XZ _).2 (by omega))];rfl
    | none=>
     cases hp:Lib.parseUintB 64 r with
     | ok u=>
      have h9:=Qbb hr hu hp;simp only [Lib.signedC];by_cases hb:9223372036854775808<u
      ·rw [if_pos hb];rfl
      ·rw [if_neg hb,Qmp (Qfr (by omega))];rfl
     | «syntax»=>rfl
     | range=>rfl
  ·have n45: ¬(c::r).head? =some 45:=by simpa using h45
   by_cases h43:c=43
   ·subst h43;have e:decide ((43::r).head? =some 43)=true:=by simp
    unfold nT n5;rw [e,Qb2,if_neg n45,if_neg (by simp)]
    have hu:u15 (43::r)=none:=by
     cases hq:u15 (43::r)with
     | none=>rfl
     | some m=>
      have h9:=((Qbc (l:=43::r) (by simp)).1 hq).1;rw [Zm,if_neg (by decide)]at h9;cases h9
    rw [hu];rfl
   ·have e:decide ((c::r).head? =some 43)=false:=by simpa using h43
    unfold nT n5;rw [e,if_neg n45,if_neg (by simp),Lib.parseIntB_plain 64 c r (fun e=>h43 (UInt8.toNat_inj.1 e)) (fun e=>h45 (UInt8.toNat_inj.1 e)),Qre];cases hu:u15 (c::r)with
    | some m=>
     obtain⟨hp,hle⟩:=(GH (l:=c::r) (by simp)).1 hu;rw [hp];simp only [Lib.signlessC];rw [if_neg (by omega),Qf8 ((XZ _).2 (by omega))];rfl
    | none=>
     cases hp:Lib.parseUintB 64 (c::r)with
     | ok u=>
      have h9:=Qbb (by simp) hu hp;simp only [Lib.signlessC];by_cases hb:9223372036854775808≤u
      ·rw [if_pos hb];rfl
      ·rw [if_neg hb,Qmp (Qfr (by omega))];rfl
     | «syntax»=>rfl
     | range=>rfl
theorem n5_b {l:List UInt8} {v:Int} (h:n5 l=some v): -1000000000000000≤v∧v≤1000000000000000:=by
 rw [←Qmm]at h;unfold nT nTo at h;split at h
 ·split at h
  ·cases h
  ·split at h
   ·rename_i hr
    cases h
    exact(XZ _).1 hr
   ·cases h
 ·cases h
def eqH (s:ByteArray):Bool:=if h:0<s.size then s[0]==61 else false
def fsT (o:Option (List FN)):Option ByteArray:=match o with
 | some out=>if(ftx (ouF out) out.length).size=0 then none else some ((⟨#[61]⟩:ByteArray)++ftx (ouF out) out.length)
 | none=>none
def lim (o:Option ByteArray):Option ByteArray:=match o with
 | some t=>if t.size≤200 then some t else none
 | none=>none
def srT (s:ByteArray):Option ByteArray:=
 if eqH s then fsT (rdF (s.extract 1 s.size))else match n5 s.data.toList with
  | some n=>some (txV 1 n ⟨#[]⟩)
  | none=>if gOk (Qu s)=true then some s else some ((⟨#[39]⟩:ByteArray)++s)
def inF (s:ByteArray):Option ByteArray:=if QE s then lim (srT s)else none
theorem Qva (s:ByteArray):Lib.hasPrefix s.data.toList (⟨#[61]⟩:ByteArray).data.toList=eqH s:=by
 show [61].isPrefixOf s.data.toList=_;unfold eqH;by_cases h:0<s.size
 ·rw [dif_pos h,Zt h];rw [Bool.eq_iff_iff];simp only [List.isPrefixOf,Bool.and_true,beq_iff_eq];exact eq_comm
 ·rw [dif_neg h];obtain rfl:=Zg (s:=s) (by omega);rfl
def DM (s:ByteArray):ByteArray:=if eqH s then s.extract 1 s.size else s
theorem Qln {s:ByteArray} (h:eqH s=true):0<s.size:=by
 unfold eqH at h;split at h
 ·assumption
 ·cases h
theorem Qh7 (s:ByteArray) (w:World) (hs:s.size≤281474976710656):Calls Tryz.prog 236 #[.string s,.string ⟨#[61]⟩] w fun e w'=>
  e= .returned (.tuple #[.string (DM s),.bool (eqH s)])∧w'=w:=by
 have HH:Hid (Lib.hasPrefix s.data.toList (⟨#[61]⟩:ByteArray).data.toList=eqH s):=Qva s;cases h:eqH s
 ·have HE:Hid (eqH s=false):=h;have HC:Hid (DM s=s):=by show DM s=s;rw [DM,h];rfl
  clear h;go_enter Tryz.func236,Tryz.ntmps236;go_wp2_with fail
  refine(Tryz.stringslite_HasPrefix s _ _).mono ?_;rintro e w1 ⟨rfl,hw1⟩;obtain rfl:=hw1.symm;clear hw1;rw [HH.out,HE.out];go_wp2_with fail
  refine bodyPost_ret (v:= .tuple #[.string s,.bool false]) ?_ rfl ⟨by rw [HC.out],rfl⟩;simp (maxDischargeDepth:=9) [results,Tryz.results236,go_sem, *]
 ·have HE:Hid (eqH s=true):=h;have h0:(1:Int)≤(s.size:Int):=by have:=Qln h;omega
  have HC:Hid (DM s=s.extract 1 s.size):=by show DM s=_;rw [DM,h];rfl
  clear h;go_enter Tryz.func236,Tryz.ntmps236;go_wp2_with fail
  refine(Tryz.stringslite_HasPrefix s _ _).mono ?_;rintro e w1 ⟨rfl,hw1⟩;obtain rfl:=hw1.symm;clear hw1;rw [HH.out,HE.out];go_wp2_with fail
  refine bodyPost_ret (v:= .tuple #[.string (s.extract 1 s.size),.bool true]) ?_ rfl ⟨by rw [HC.out],rfl⟩;simp (maxDischargeDepth:=9) [results,Tryz.results236,go_sem, *]
theorem Qko (s:ByteArray) (w:World) (hs:s.size≤281474976710656):Calls Tryz.prog 185 #[.string s,.string ⟨#[61]⟩] w fun e w'=>
  e= .returned (.tuple #[.string (DM s),.bool (eqH s)])∧w'=w:=by
 obtain⟨c,HC⟩: ∃c,Hid (DM s=c):=⟨_,rfl⟩;obtain⟨b,HB⟩: ∃b,Hid (eqH s=b):=⟨_,rfl⟩;rw [HC.out,HB.out];go_enter Tryz.func185,Tryz.ntmps185;go_wp2_with fail
 refine(Qh7 s _ hs).mono ?_;rintro e w1 ⟨rfl,hw1⟩;obtain rfl:=hw1.symm;clear hw1;rw [HC.out,HB.out];go_wp2_with fail
 refine bodyPost_ret (v:= .tuple #[.string c,.bool b]) ?_ rfl ⟨rfl,rfl⟩;simp (maxDischargeDepth:=9) [results,Tryz.results185,go_sem, *]
def Qaf (l:List UInt8) (w:World) (e:Ending) (w':World):Prop:=
 ((n5 l=none∧ ∃k n,e= .returned (.tuple #[.agg #[.int .i64 k,.int .i64 n,.string ⟨#[]⟩],.bool false]))∨ ∃v,n5 l=some v∧e= .returned (.tuple #[.agg #[.int .i64 1,.int .i64 v,.string ⟨#[]⟩],.bool true]))∧Below w.heap.size w w'
theorem NM {l:List UInt8} {v:Int} {b:Bool} (h:n5 l=if ZP v=true then some v else none) (hb:ZP v=b):(n5 l=none∧ ∃k n,Ending.returned (.tuple #[.agg #[.int .i64 1,.int .i64 v,.string ⟨#[]⟩],.bool b])= .returned (.tuple #[.agg #[.int .i64 k,.int .i64 n,.string ⟨#[]⟩],.bool false]))∨ ∃v',n5 l=some v'∧Ending.returned (.tuple #[.agg #[.int .i64 1,.int .i64 v,.string ⟨#[]⟩],.bool b])= .returned (.tuple #[.agg #[.int .i64 1,.int .i64 v',.string ⟨#[]⟩],.bool true]):=by
 cases b
 ·left
  rw [h,hb];exact⟨rfl,1,v,rfl⟩
 ·right
  rw [h,hb];exact⟨v,rfl,rfl⟩
theorem VI (v:Int):okV 1 v ⟨#[]⟩=ZP v:=by
 unfold okV;simp [Xm]
theorem Gm (s:ByteArray) (w:World) (hs:s.size≤1000) (hv:Vars w):Calls Tryz.prog 201 #[.string s] w (Qaf s.data.toList w):=by
 have HV:Hid (Vars w):=hv;have HNE:Hid (nT s.data.toList=n5 s.data.toList):=Qmm _;clear hv;cases hp:Lib.parseIntB 64 s.data.toList with
 | ok v=>
  have hbd: -9223372036854775808≤v∧v≤9223372036854775807:=by have:=Lib.parseIntB_bounds hp;omega
  have h0:0<s.size:=by
   rcases Nat.eq_zero_or_pos s.size with h9 | h9
   ·obtain rfl:=Zg h9;cases hp
   ·exact h9
  have q0:(0:Int)<(s.size:Int):=by omega
  have HP:Hid (Lib.parseIntB 64 s.data.toList= .ok v):=hp;by_cases h43:s[0]=43
  ·have hb:(s[0].toNat:Int)=43:=by rw [h43];rfl
   have HN:Hid (n5 s.data.toList=none):=by
    show _=_;rw [←HNE.out];unfold nT;rw [Yz h0,h43,decide_eq_true rfl,Qb2]
   clear hp h43;go_enter Tryz.func201,Tryz.ntmps201;go_wp2_with fail
   refine(Tryz.strconv_ParseInt_10_at64_ok s (by omega) v HP.out _).mono ?_;rintro e w1 ⟨rfl,hw⟩;have hb1:Below (w.alloc (.cells #[.int .i64 0,.int .i64 0,.string ⟨#[]⟩] 156)).heap.size (w.alloc (.cells #[.int .i64 0,.int .i64 0,.string ⟨#[]⟩] 156)) w1:=(by rcases hw with rfl | ⟨t,rfl⟩;exact Below.refl _ _;exact Lib.bytesWorld_below _ _ _);obtain⟨hc,hf,hC,hF,hz,hk,l0⟩:=bk1 (w:=w) (by go_grown) (by go_size) hb1;clear hw hb1;go_wp2_with fail
   refine bodyPost_ret (v:= .tuple #[.agg #[.int .i64 0,.int .i64 0,.string ⟨#[]⟩],.bool false]) ?_ rfl ⟨Or.inl ⟨HN.out,0,0,rfl⟩,by go_grown⟩;simp (maxDischargeDepth:=9) [results,Tryz.results201,go_sem, *]
  ·have hb: ¬(s[0].toNat:Int)=43:=fun e=>h43 (UInt8.toNat_inj.1 (by have:(43:UInt8).toNat=43:=rfl;omega));have hb':((s[0].toNat:Int)==43)=false:=by simpa using hb
   have HN:Hid (n5 s.data.toList=if ZP v=true then some v else none):=by
    show _=_;rw [←HNE.out];unfold nT;rw [Yz h0,HP.out,decide_eq_false (by simpa using h43)];rfl
   obtain⟨b,HBN⟩: ∃b,Hid (ZP v=b):=⟨_,rfl⟩;have HOK:Hid (okV 1 v ⟨#[]⟩=b):=by show _=_;rw [VI,HBN.out]
   clear hp h43;go_enter Tryz.func201,Tryz.ntmps201;go_wp2_with fail
   refine(Tryz.strconv_ParseInt_10_at64_ok s (by omega) v HP.out _).mono ?_;rintro e w1 ⟨rfl,hw⟩;have hb1:Below (w.alloc (.cells #[.int .i64 0,.int .i64 0,.string ⟨#[]⟩] 156)).heap.size (w.alloc (.cells #[.int .i64 0,.int .i64 0,.string ⟨#[]⟩] 156)) w1:=(by rcases hw with rfl | ⟨t,rfl⟩;exact Below.refl _ _;exact Lib.bytesWorld_below _ _ _);clear hw;go_wp2_with fail
   refine(YX v _).mono ?_;rintro e w2 ⟨rfl,hb2⟩;obtain⟨hc,hf,hC,hF,hz,hk,l0⟩:=bk1 (w:=w) (by go_grown) (by go_size) (Qc hb1 hb2);clear hb1 hb2;go_wp2_with fail
   go_region_with (first
    | (go_at_call 244;refine(Yr 1 v ⟨#[]⟩ _ (by unfold maxLen;show 0≤_;omega)).mono ?_;rintro e w3 ⟨rfl,hb3⟩;rw [HOK.out];obtain⟨hc3,hf3,hC3,hF3,hz3,hk3,l3⟩:=bk1 (w:=w) (by go_grown) (by go_size) hb3;clear hb3))
   all_goals go_wp2_with fail
   all_goals
    refine bodyPost_ret (v:= .tuple #[.agg #[.int .i64 1,.int .i64 v,.string ⟨#[]⟩],.bool b]) ?_ rfl ⟨NM HN.out HBN.out,by go_grown⟩;simp (maxDischargeDepth:=9) [results,Tryz.results201,go_sem, *]
 | «syntax»=>
  obtain⟨tp,p,h2⟩:=HV.out.2.1;have HP:Hid (Lib.parseIntB 64 s.data.toList= .«syntax»):=hp;have HN:Hid (n5 s.data.toList=none):=by show _=_;rw [←HNE.out];unfold nT;rw [hp];rfl
  have HQ : Hid (w.var? Tryz.prog "strconv.ErrSyntax" = some #[.iface tp p]) := h2
  clear h2 hp;go_enter Tryz.func201,Tryz.ntmps201;go_wp2_with fail
  refine(Tryz.strconv_ParseInt_10_at64_syntax_var s (by omega) HP.out tp p _ (XW HQ.out (by go_grown))).mono ?_;rintro e w1 ⟨N,rfl,hN,hh,hb1⟩;obtain⟨hc,hf,hC,hF,hz,hk,l0⟩:=bk1 (w:=w) (by go_grown) (by go_size) hb1;clear hh hN hb1;go_wp2_with fail
  refine bodyPost_ret (v:= .tuple #[.agg #[.int .i64 0,.int .i64 0,.string ⟨#[]⟩],.bool false]) ?_ rfl ⟨Or.inl ⟨HN.out,0,0,rfl⟩,by go_grown⟩;simp (maxDischargeDepth:=9) [results,Tryz.results201,go_sem, *]
 | range=>
  obtain⟨tp,p,h2⟩:=HV.out.2.2;have HP:Hid (Lib.parseIntB 64 s.data.toList= .range):=hp;have HN:Hid (n5 s.data.toList=none):=by show _=_;rw [←HNE.out];unfold nT;rw [hp];rfl
  have HQ : Hid (w.var? Tryz.prog "strconv.ErrRange" = some #[.iface tp p]) := h2
  clear h2 hp;go_enter Tryz.func201,Tryz.ntmps201;go_wp2_with fail
  refine(Tryz.strconv_ParseInt_10_at64_range_var s (by omega) HP.out tp p _ (XW HQ.out (by go_grown))).mono ?_;rintro e w1 ⟨N,rfl,hN,hh,hb1⟩;obtain⟨hc,hf,hC,hF,hz,hk,l0⟩:=bk1 (w:=w) (by go_grown) (by go_size) hb1;clear hh hN hb1;go_wp2_with fail
  refine bodyPost_ret (v:= .tuple #[.agg #[.int .i64 0,.int .i64 0,.string ⟨#[]⟩],.bool false]) ?_ rfl ⟨Or.inl ⟨HN.out,0,0,rfl⟩,by go_grown⟩;simp (maxDischargeDepth:=9) [results,Tryz.results201,go_sem, *]
theorem Qbs {s:ByteArray} {out:List FN} (h:rdF s=some out):good out=true∧1≤out.length∧Zk (ouF out) out.length=true:=by
 unfold rdF at h;split at h
 ·obtain⟨y,hy⟩: ∃y,PB RF 1 1 0 [] s.data.toList []=y:=⟨_,rfl⟩;rw [hy]at h;cases y with
  | none=>cases h
  | some z=>
   unfold rdE at h;simp only at h;split at h
   ·rename_i hc
    cases h
    refine⟨hc.2.1,?_,hc.2.2⟩;have h9:=hc.2.2;unfold Zk at h9;simp only [Bool.and_eq_true,decide_eq_true_eq]at h9;exact h9.1.1.1.1.1
   ·cases h
 ·cases h
theorem Hq {out:List FN} (h:good out=true):(∀i,i<out.length→(ouF out i).cs.size≤maxLen)∧(∀i,i<out.length→(ouF out i).kids.length≤1048576):=
 ⟨fun i hi=>Nat.le_trans (Xx (Hl h i hi)).1 (by unfold maxLen;omega),fun i hi=>Nat.le_trans (Xx (Hl h i hi)).2 (by omega)⟩
theorem Qcf (F:Nat→FN) (n:Nat):(ftx F n).size≤200:=by
 unfold ftx;split
 ·rename_i h
  rw [Qt];exact h.2
 ·exact Nat.zero_le _
def opA (o:Option ByteArray) (e:Ending):Prop:=match o with
 | some t=>e= .returned (.tuple #[.string t,.bool true])
 | none=>e= .returned (.tuple #[.string ⟨#[]⟩,.bool false])
theorem Hu {t:ByteArray} (h:t.size=0):t.toList.isEmpty=true:=by
 rw [Zg h,ByteArray.toList_eq];rfl
theorem Kn (s:ByteArray) (w:World) (hs:s.size≤maxLen) (hg:GI w):Calls Tryz.prog 200 #[.string s] w fun e w'=>opA (fsT (rdF s)) e∧Below w.heap.size w w':=by
 have HG:Hid (GI w):=hg;have HS:Hid (s.size≤maxLen):=hs;clear hg;go_enter Tryz.func200,Tryz.ntmps200;go_wp2_with fail
 refine(Gr s w HS.out HG.out).mono ?_;rintro _ w1 ⟨hb,(⟨hr,rfl⟩ | ⟨out,v,ys,hr,rfl,ho,hp,hkd⟩)⟩
 ·have HN:Hid (fsT (rdF s)=none):=by show _=_;rw [hr];rfl
  have K1:Hid (Below w.heap.size w w1):=hb;clear hb hr;go_wp2_with fail
  refine(XK _ (⟨Nat.zero_le _,fun i hi=>by omega⟩:FnRow w1 none 0 (fun _=>dFN)) (by omega) (fun i hi=>by omega) (HG.out.gt.below K1.out)).mono ?_;rintro _ w2 ⟨rfl,hb2⟩;have K2:=hd (Qc K1.out hb2);obtain⟨t,HT⟩: ∃t,Hid (ftx (fun _=>dFN) 0=t):=⟨_,rfl⟩;rw [HT.out];clear hb2;go_wp2_with fail
  refine bodyPost_ret (v:= .tuple #[.string ⟨#[]⟩,.bool false]) ?_ rfl ⟨by rw [HN.out];rfl,K2.out⟩;simp (maxDischargeDepth:=9) [results,Tryz.results200,go_sem, *]
 ·obtain⟨g0,_,_⟩:=Qbs hr;obtain⟨A,cap,rfl,hfr⟩:=Ju ho hp (Hq g0).1;have HFR:Hid (FnRow w1 A out.length (ouF out)):=hfr;have HKZ:Hid (∀i,i<out.length→(ouF out i).kids.length≤1048576):=(Hq g0).2;have HN:Hid (out.length≤1048576):=by show _≤_;have:=Yd g0;omega
  have K1:Hid (Below w.heap.size w w1):=hb;obtain⟨t,HT⟩: ∃t,Hid (ftx (ouF out) out.length=t):=⟨_,rfl⟩;have HF:Hid (fsT (rdF s)=if t.size=0 then none else some ((⟨#[61]⟩:ByteArray)++t)):=by show _=_;rw [hr,←HT.out];rfl
  have HTS:Hid (t.size≤200):=by show _≤_;rw [←HT.out];exact Qcf _ _
  clear hb hr ho hp hkd hfr g0;go_wp2_with fail
  refine(XK _ HFR.out HN.out HKZ.out (HG.out.gt.below K1.out)).mono ?_;rintro _ w2 ⟨rfl,hb2⟩;have K2:=hd (Qc K1.out hb2);rw [HT.out];clear hb2;by_cases h0:t.size=0
  ·have hbe:t.toList.isEmpty=true:=Hu h0;have HN:Hid (fsT (rdF s)=none):=by show _=_;rw [HF.out,if_pos h0]
   clear h0;go_wp2_with fail
   refine bodyPost_ret (v:= .tuple #[.string ⟨#[]⟩,.bool false]) ?_ rfl ⟨by rw [HN.out];rfl,K2.out⟩;simp (maxDischargeDepth:=9) [results,Tryz.results200,go_sem, *]
  ·have hbe:t.toList.isEmpty=false:=QL (by omega);have HN:Hid (fsT (rdF s)=some ((⟨#[61]⟩:ByteArray)++t)):=by show _=_;rw [HF.out,if_neg h0]
   have z1: ¬9223372036854775807<1+t.size:=by have:=HTS.out;omega
   clear h0;go_wp2_with fail
   refine bodyPost_ret (v:= .tuple #[.string ((⟨#[61]⟩:ByteArray)++t),.bool true]) ?_ rfl ⟨by rw [HN.out];rfl,K2.out⟩;simp (maxDischargeDepth:=9) [results,Tryz.results200,go_sem, *]
theorem Og (s:ByteArray) (w:World) (hs:s.size≤200) (hw:QE s=true) (hg:GI w):Calls Tryz.prog 153 #[.string s] w fun e w'=>opA (srT s) e∧Below w.heap.size w w':=by
 have HG:Hid (GI w):=hg;have HS:Hid (s.size≤200):=hs;have HML:Hid (s.size≤maxLen):=by show _≤_;unfold maxLen;omega
 obtain⟨c,HC⟩: ∃c,Hid (DM s=c):=⟨_,rfl⟩;obtain⟨b,HB⟩: ∃b,Hid (eqH s=b):=⟨_,rfl⟩;clear hg hw;go_enter Tryz.func153,Tryz.ntmps153;go_wp2_with fail
 refine(Qko s _ (by omega)).mono ?_;rintro _ w1 ⟨rfl,hw1⟩;obtain rfl:=hw1.symm;clear hw1;rw [HC.out,HB.out];cases b
 rotate_left
 ·have HSR:Hid (srT s=fsT (rdF c)):=by show _=_;unfold srT;rw [HB.out,if_pos rfl,←HC.out,DM,HB.out];rfl
  have HCS:Hid (c.size≤maxLen):=by
   show _≤_;rw [←HC.out,DM,HB.out];simp only [if_true];rw [ByteArray.size_extract];unfold maxLen;omega
  go_wp2_with fail
  refine(Kn c _ HCS.out HG.out).mono ?_;rintro e w2 ⟨he,hb⟩;have K2:Hid (Below w.heap.size w w2):=hb;clear hb;cases ho:fsT (rdF c)with
  | none=>
   rw [ho]at he HSR;obtain rfl:e= .returned (.tuple #[.string ⟨#[]⟩,.bool false]):=he;clear ho;go_wp2_with fail
   refine bodyPost_ret (v:= .tuple #[.string ⟨#[]⟩,.bool false]) ?_ rfl ⟨by rw [HSR.out];rfl,K2.out⟩;simp (maxDischargeDepth:=9) [results,Tryz.results153,go_sem, *]
  | some t=>
   rw [ho]at he HSR;obtain rfl:e= .returned (.tuple #[.string t,.bool true]):=he;clear ho;go_wp2_with fail
   refine bodyPost_ret (v:= .tuple #[.string t,.bool true]) ?_ rfl ⟨by rw [HSR.out];rfl,K2.out⟩;simp (maxDischargeDepth:=9) [results,Tryz.results153,go_sem, *]
 go_wp2_with fail
 refine(Gm s _ (by omega) HG.out.vs).mono ?_;rintro _ w2 ⟨(⟨hn,k,n,rfl⟩ | ⟨v,hn,rfl⟩),hb2⟩;rotate_left
 ·have HSR:Hid (srT s=some (txV 1 v ⟨#[]⟩)):=by show _=_;unfold srT;rw [HB.out,if_neg (by simp),hn]
  have K2:Hid (Below w.heap.size w w2):=hb2;obtain⟨t,HT⟩: ∃t,Hid (txV 1 v ⟨#[]⟩=t):=⟨_,rfl⟩;rw [HT.out]at HSR;clear hb2 hn;go_wp2_with fail
  refine(JS 1 v ⟨#[]⟩ _ ((HG.out.gt.vt.below K2.out).below (by go_grown)) (by unfold maxLen;show 0≤_;omega)).mono ?_;rintro _ w3 ⟨rfl,hb3⟩;have K3:Hid (Below w.heap.size w w3):=Qc (Qc K2.out (by go_grown)) hb3;rw [HT.out];clear hb3;go_wp2_with fail
  refine bodyPost_ret (v:= .tuple #[.string t,.bool true]) ?_ rfl ⟨by rw [HSR.out];rfl,K3.out⟩;simp (maxDischargeDepth:=9) [results,Tryz.results153,go_sem, *]
 have HSR:Hid (srT s=if gOk (Qu s)=true then some s else some ((⟨#[39]⟩:ByteArray)++s)):=by show _=_;unfold srT;rw [HB.out,if_neg (by simp),hn]
 have K2:Hid (Below w.heap.size w w2):=hb2;clear hb2 hn;go_wp2_with fail
 refine(JT s _ (by omega) ((HG.out.vs.below K2.out).below (by go_grown))).mono ?_;rintro _ w3 ⟨rfl,hb3⟩;have K3:Hid (Below w.heap.size w w3):=Qc (Qc K2.out (by go_grown)) hb3;clear hb3;obtain⟨q,HQ⟩: ∃q,Hid (Qu s=q):=⟨_,rfl⟩;rw [HQ.out]at HSR ⊢;unfold rvT
 cases hq:gOk q
 ·have HSR2:Hid (srT s=some ((⟨#[39]⟩:ByteArray)++s)):=by show _=_;rw [HSR.out,if_neg (by rw [hq];simp)]
  simp only [Bool.false_eq_true,if_false];clear hq;go_wp2_with fail
  refine(KO s _ (by omega)).mono ?_;rintro _ w4 ⟨rfl,hw4⟩
  have K4:Hid (Below w.heap.size w w4):=by
   show Below _ _ _;rw [hw4];exact Qc K3.out (by go_grown)
  clear hw4;go_wp2_with fail
  refine bodyPost_ret (v:= .tuple #[.string ((⟨#[39]⟩:ByteArray)++s),.bool true]) ?_ rfl ⟨by rw [HSR2.out];rfl,K4.out⟩;simp (maxDischargeDepth:=9) [results,Tryz.results153,go_sem, *]
 ·have HSR2:Hid (srT s=some s):=by show _=_;rw [HSR.out,if_pos hq]
  simp only [if_true];obtain⟨q1,q2,q3⟩:=q;simp only;clear hq;go_wp2_with fail
  refine bodyPost_ret (v:= .tuple #[.string s,.bool true]) ?_ rfl ⟨by rw [HSR2.out];rfl,Qc K3.out (by go_grown)⟩;simp (maxDischargeDepth:=9) [results,Tryz.results153,go_sem, *]
theorem Hb (s:ByteArray) (w:World) (hs:s.size≤maxLen) (hg:GI w):Calls Tryz.prog 97 #[.string s] w fun e w'=>opA (inF s) e∧Below w.heap.size w w':=by
 have HG:Hid (GI w):=hg;have HS:Hid (s.size≤maxLen):=hs;clear hg;by_cases h200:s.size≤200
 rotate_left
 ·have q1:(200:Int)<(s.size:Int):=by omega
  have HN:Hid (inF s=none):=by show _=_;unfold inF QE;rw [decide_eq_false h200];rfl
  go_enter Tryz.func97,Tryz.ntmps97;go_wp2_with fail
  refine bodyPost_ret (v:= .tuple #[.string ⟨#[]⟩,.bool false]) ?_ rfl ⟨by rw [HN.out];rfl,Below.refl _ _⟩;simp (maxDischargeDepth:=9) [results,Tryz.results97,go_sem, *]
 have q1: ¬(200:Int)<(s.size:Int):=by omega
 have q1':decide ((200:Int)<(s.size:Int))=false:=by simpa using q1
 obtain⟨b,HB⟩: ∃b,Hid (Zy s.data.toList=b):=⟨_,rfl⟩;have HRW:Hid (QE s=b):=by show _=_;unfold QE;rw [decide_eq_true h200,HB.out];rfl
 go_enter Tryz.func97,Tryz.ntmps97;go_wp2_with fail
 refine(Jm s _ HS.out).mono ?_;rintro _ w0 ⟨rfl,hw0⟩;obtain rfl:=hw0.symm;clear hw0;rw [HB.out];cases b
 ·have HN:Hid (inF s=none):=by show _=_;unfold inF;rw [HRW.out];rfl
  go_wp2_with fail
  refine bodyPost_ret (v:= .tuple #[.string ⟨#[]⟩,.bool false]) ?_ rfl ⟨by rw [HN.out];rfl,Below.refl _ _⟩;simp (maxDischargeDepth:=9) [results,Tryz.results97,go_sem, *]
 have HIN:Hid (inF s=lim (srT s)):=by show _=_;unfold inF;rw [HRW.out];rfl
 go_wp2_with fail
 refine(Og s _ h200 HRW.out HG.out).mono ?_;rintro e w1 ⟨he,hb⟩;have K1:Hid (Below w.heap.size w w1):=hb;clear hb;cases ho:srT s with
 | none=>
  rw [ho]at he HIN;obtain rfl:e= .returned (.tuple #[.string ⟨#[]⟩,.bool false]):=he;have HN:Hid (inF s=none):=HIN.out;clear ho;go_wp2_with fail
  refine bodyPost_ret (v:= .tuple #[.string ⟨#[]⟩,.bool false]) ?_ rfl ⟨by rw [HN.out];rfl,K1.out⟩;simp (maxDischargeDepth:=9) [results,Tryz.results97,go_sem, *]
 | some t=>
  rw [ho]at he HIN;obtain rfl:e= .returned (.tuple #[.string t,.bool true]):=he;have HL:Hid (inF s=if t.size≤200 then some t else none):=HIN.out;clear ho HIN;by_cases ht:t.size≤200
  ·have q3: ¬(200:Int)<(t.size:Int):=by omega
   have HN:Hid (inF s=some t):=by show _=_;rw [HL.out,if_pos ht]
   go_wp2_with fail
   refine bodyPost_ret (v:= .tuple #[.string t,.bool true]) ?_ rfl ⟨by rw [HN.out];rfl,K1.out⟩;simp (maxDischargeDepth:=9) [results,Tryz.results97,go_sem, *]
  ·have q3:(200:Int)<(t.size:Int):=by omega
   have HN:Hid (inF s=none):=by show _=_;rw [HL.out,if_neg ht]
   go_wp2_with fail
   refine bodyPost_ret (v:= .tuple #[.string ⟨#[]⟩,.bool false]) ?_ rfl ⟨by rw [HN.out];rfl,K1.out⟩;simp (maxDischargeDepth:=9) [results,Tryz.results97,go_sem, *]
end Go.Proofs.YtbdhinckiccniaaGreatDoor
