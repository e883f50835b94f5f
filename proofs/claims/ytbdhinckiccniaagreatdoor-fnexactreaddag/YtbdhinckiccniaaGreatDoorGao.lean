import Derived.Test.YtbdhinckiccniaaGreatDoorGan
set_option linter.unusedSimpArgs false
set_option linter.unusedVariables false
set_option maxHeartbeats 8000000
set_option maxRecDepth 100000
namespace Go.Proofs.YtbdhinckiccniaaGreatDoor
open Go.RowKit
theorem Qgm {l:List UInt8} {n:Nat} (h1:1≤n) (h5:n≤5) (h:(erL n).isPrefixOf l=true) (hno: ∀i,1≤i→i<n→(erL i).isPrefixOf l=false):YJ l=n:=by
 have hk:n=1∨n=2∨n=3∨n=4∨n=5:=by omega
 unfold YJ;rcases hk with rfl | rfl | rfl | rfl | rfl
 ·rw [if_pos h]
 ·rw [if_neg (by rw [hno 1 (by omega) (by omega)];simp),if_pos h]
 ·rw [if_neg (by rw [hno 1 (by omega) (by omega)];simp),if_neg (by rw [hno 2 (by omega) (by omega)];simp),if_pos h]
 ·rw [if_neg (by rw [hno 1 (by omega) (by omega)];simp),if_neg (by rw [hno 2 (by omega) (by omega)];simp),if_neg (by rw [hno 3 (by omega) (by omega)];simp),if_pos h]
 ·rw [if_neg (by rw [hno 1 (by omega) (by omega)];simp),if_neg (by rw [hno 2 (by omega) (by omega)];simp),if_neg (by rw [hno 3 (by omega) (by omega)];simp),if_neg (by rw [hno 4 (by omega) (by omega)];simp),if_pos h]
theorem Dz {l:List UInt8} (hno: ∀i,1≤i→i<6→(erL i).isPrefixOf l=false):YJ l=0:=by
 unfold YJ;rw [if_neg (by rw [hno 1 (by omega) (by omega)];simp),if_neg (by rw [hno 2 (by omega) (by omega)];simp),if_neg (by rw [hno 3 (by omega) (by omega)];simp),if_neg (by rw [hno 4 (by omega) (by omega)];simp),if_neg (by rw [hno 5 (by omega) (by omega)];simp)]
theorem Qqq (n:Nat) (h1:1≤n) (h5:n≤5): ∃e nm:ByteArray,erT (n:Int)=e∧e.extract 1 e.size=nm∧1≤e.size∧e.size≤10∧nm.size≤10∧erL n=35::nm.data.toList:=by
 have hk:n=1∨n=2∨n=3∨n=4∨n=5:=by omega
 rcases hk with rfl | rfl | rfl | rfl | rfl
 ·exact⟨⟨#[35,68,73,86,33]⟩,⟨#[68,73,86,33]⟩,rfl,by decide,by decide,by decide,by decide,rfl⟩
 ·exact⟨⟨#[35,84,89,80,69,33]⟩,⟨#[84,89,80,69,33]⟩,rfl,by decide,by decide,by decide,by decide,rfl⟩
 ·exact⟨⟨#[35,82,69,70,33]⟩,⟨#[82,69,70,33]⟩,rfl,by decide,by decide,by decide,by decide,rfl⟩
 ·exact⟨⟨#[35,79,86,69,82,33]⟩,⟨#[79,86,69,82,33]⟩,rfl,by decide,by decide,by decide,by decide,rfl⟩
 ·exact⟨⟨#[35,67,89,67,76,69,33]⟩,⟨#[67,89,67,76,69,33]⟩,rfl,by decide,by decide,by decide,by decide,rfl⟩
theorem St.draws {Z:Nat→Prop} {W w1:World} {v v1:Value} {r:Nat} {s:ByteArray} {B k:Nat} {bad:Bool} {out:List FN} (h:St Z W v r s B w1 k bad v1 out) (n:Nat):St Z W v r s B (w1.drewN n) k bad v1 out:=
 h.gb (h.st.rs.draws n) (Qq _ _ n)
theorem Qh1 {Z:Nat→Prop} {r:Nat} {s:ByteArray} {B m:Nat} (hm:m≤20000) (hs:s.size≤1000) (W:World) (k:Nat) (v:Value) (out:List FN) (t:List UInt8) (h:RdS Z W r s k false v B out) (hg:good out=true) (hk:12*QJ s k+2≤m+1) (hsb:sb (rest s k)=35::t):
  Calls Tryz.prog 215 #[.pointer (some ⟨r,0,none⟩)] W (Qcx Z r s B (m+1) W v (PB RF 3 0 0 [] (rest s k) out)):=by
 have HG:Hid (good out=true):=hg;have HS0:Hid (St Z W v r s B W k false v out):=St.start h;obtain⟨l,HL⟩: ∃l,Hid (rest s k=l):=⟨_,rfl⟩;have HLN:Hid (l.length≤1000):=by show _≤_;rw [←HL.out];exact(Yj s k hs).2
 have HLK:Hid (QJ s k=(sb l).length):=by show _=_;unfold QJ;rw [HL.out]
 rw [HL.out]at hsb ⊢;have HSB:Hid (sb l=35::t):=hsb;have HGL:Hid (out.length≤60):=Yd hg;have HJ0:Hid (sb (rest s k)=sb l):=by show _=_;rw [HL.out]
 clear h hg hsb;go_enter Tryz.func215,Tryz.ntmps215;go_wp2_with fail
 have HN1:Hid (isB false (bs [45]) (rest s k)=false∧isR false (bs [45]) (rest s k)=sb (rest s k)):=Ho (by rw [HJ0.out];rw [HSB.out];simp);refine(ZF r s (bs [45]) k false v W HS0.out.st.rs hs (by decide)).mono ?_;rintro e w1 ⟨rfl,j1,hrj,hre,hgb⟩;rw [HN1.out.1];rw [HN1.out.2,HJ0.out]at hre;have HS1:Hid (St Z W v r s B w1 j1 false v out):=HS0.out.gb hrj hgb;have HR1:Hid (rest s j1=sb l):=hre
 have HJ1:Hid (sb (rest s j1)=sb l):=by show _=_;rw [HR1.out,Ze]
 clear hrj hre hgb HS0 HN1;go_wp2_with fail
 have HN2:Hid (isB false (bs [40]) (rest s j1)=false∧isR false (bs [40]) (rest s j1)=sb (rest s j1)):=Ho (by rw [HJ1.out];rw [HSB.out];simp);refine(ZF r s (bs [40]) j1 false v w1 HS1.out.st.rs hs (by decide)).mono ?_;rintro e w2 ⟨rfl,j2,hrj,hre,hgb⟩;rw [HN2.out.1];rw [HN2.out.2,HJ1.out]at hre;have HS2:Hid (St Z W v r s B w2 j2 false v out):=HS1.out.gb hrj hgb;have HR2:Hid (rest s j2=sb l):=hre
 have HJ2:Hid (sb (rest s j2)=sb l):=by show _=_;rw [HR2.out,Ze]
 clear hrj hre hgb HS1 HN2;go_wp2_with fail
 have HN3:Hid (isB false (bs [34]) (rest s j2)=false∧isR false (bs [34]) (rest s j2)=sb (rest s j2)):=Ho (by rw [HJ2.out];rw [HSB.out];simp);refine(ZF r s (bs [34]) j2 false v w2 HS2.out.st.rs hs (by decide)).mono ?_;rintro e w3 ⟨rfl,j3,hrj,hre,hgb⟩;rw [HN3.out.1];rw [HN3.out.2,HJ2.out]at hre;have HS3:Hid (St Z W v r s B w3 j3 false v out):=HS2.out.gb hrj hgb;have HR3:Hid (rest s j3=sb l):=hre
 have HJ3:Hid (sb (rest s j3)=sb l):=by show _=_;rw [HR3.out,Ze]
 clear hrj hre hgb HS2 HN3;go_wp2_with fail
 have HY:Hid (isB false (bs [35]) (rest s j3)=true∧isR false (bs [35]) (rest s j3)=t):=Qaa (by rw [HJ3.out];exact HSB.out);refine(ZF r s (bs [35]) j3 false v w3 HS3.out.st.rs hs (by decide)).mono ?_;rintro e w4 ⟨rfl,j4,hrj,hre,hgb⟩;rw [HY.out.1];rw [HY.out.2]at hre;have HS4:Hid (St Z W v r s B w4 j4 false v out):=HS3.out.gb hrj hgb;have HR4:Hid (rest s j4=t):=hre
 have HLT:Hid (QJ s j4<QJ s k):=by
  show(sb (rest s j4)).length<QJ s k;rw [HLK.out,HSB.out,HR4.out];exact Nat.lt_succ_of_le (YD t)
 clear hrj hre hgb HS3 HY;go_wp2_with fail
 go_loopw [5] (fun a wr=> ∃n:Nat,a= .int .i64 n∧1≤n∧n≤6∧(∀i,1≤i→i<n→(erL i).isPrefixOf (35::t)=false)∧St Z W v r s B wr j4 false v out) (fun a _=>6-(intOf a).toNat)
 case atStart=>exact⟨1,rfl,by omega,by omega,fun i h1 h2=>by omega,HS4.out⟩
 case round=>
  clear HS4;obtain⟨n,rfl,hn1,hn6,hno,hst⟩:=hrel;have HST:Hid (St Z W v r s B wr j4 false v out):=hst;have HNO:Hid (∀i,1≤i→i<n→(erL i).isPrefixOf (35::t)=false):=hno;obtain⟨hj4,⟨c0,c1,c2,c3⟩,f1,f2,f3⟩:=hst.st.rs;clear hst hno;by_cases hn5:n≤5
  rotate_left
  ·obtain rfl:n=6:=by omega
   have q: ¬((6:Nat):Int)≤5:=by omega
   go_wp2_with fail
   go_ret;refine⟨_,j4,_,v,_,rfl,HST.out.mad,?_,by have:=HGL.out;omega⟩;rw [Qdn HLN.out HSB.out (by rw [HSB.out];exact Dz HNO.out)];exact⟨fun e=>(by cases e),fun _=>ZH⟩
  ·have q:(n:Int)≤5:=by omega
   obtain⟨e,nm,he,hnm,he1,he10,hnl,hel⟩:=Qqq n hn1 hn5;have HNM:Hid (e.extract 1 e.size=nm):=hnm;have HEL:Hid (erL n=35::nm.data.toList):=hel;have HE:Hid (erT (n:Int)=e):=he;have p0:(1:Int)≤(e.size:Int):=by omega
   clear hnm hel he;go_wp2_with fail
   refine(QZ (n:Int) _ (by omega) (by omega)).mono ?_;rintro _ w5 ⟨rfl,hb5⟩;rw [HE.out];have HST5:Hid (St Z W v r s B w5 j4 false v out):=HST.out.bel hb5;obtain⟨_,⟨c0,c1,c2,c3⟩,f1,f2,f3⟩:=HST5.out.st.rs;clear hb5;go_wp2_with fail
   try rw [HNM.out]
   have HPRE:Hid ((erL n).isPrefixOf (35::t)=nm.data.toList.isPrefixOf (rest s j4)):=by show _=_;rw [HEL.out,HR4.out];simp [List.isPrefixOf]
   have HNX:Hid ((n:Int)+1=((n+1:Nat):Int)):=by show _=_;omega
   have hw1:IntKind.i64.wrap ((n:Int)+1)=(n:Int)+1:=by rw [IntKind.wrap_i64];omega
   have hwr:IntKind.i64.wrap ((j4:Int)+(nm.size:Int))=(j4:Int)+(nm.size:Int):=by rw [IntKind.wrap_i64];omega
   by_cases hbig:s.size<j4+nm.size
   ·have q1: ¬(j4:Int)+(nm.size:Int)≤(s.size:Int):=by omega
    have q1':decide ((j4:Int)+(nm.size:Int)≤(s.size:Int))=false:=by simpa using q1
    have HB:Hid ((erL n).isPrefixOf (35::t)=false):=by show _=_;rw [HPRE.out,Qfu hj4 hbig]
    go_quiet (fail)
    go_wp2_with fail
    exact⟨⟨n+1,by rw [HNX.out],by omega,by omega,fun i h1 h2=>by rcases Nat.lt_succ_iff_lt_or_eq.1 h2 with h3 | rfl;exact HNO.out i h1 h3;exact HB.out,HST5.out.draws _⟩,by simp [intOf];omega⟩
   ·have q1:(j4:Int)+(nm.size:Int)≤(s.size:Int):=by omega
    have q2:(0:Int)≤(j4:Int):=by omega
    have q4:(j4:Int)≤(j4:Int)+(nm.size:Int):=by omega
    have q5:(0:Int)≤(j4:Int)+(nm.size:Int):=by omega
    have q6:((j4:Int)+(nm.size:Int)).toNat=j4+nm.size:=by omega
    have HP:Hid (nm.data.toList.isPrefixOf (rest s j4)=((s.extract j4 (j4+nm.size)).toList==nm.toList)):=Qfv (by omega);cases heq:((s.extract j4 (j4+nm.size)).toList==nm.toList)
    ·have HB:Hid ((erL n).isPrefixOf (35::t)=false):=by show _=_;rw [HPRE.out,HP.out,heq]
     go_quiet (fail)
     go_wp2_with fail
     exact⟨⟨n+1,by rw [HNX.out],by omega,by omega,fun i h1 h2=>by rcases Nat.lt_succ_iff_lt_or_eq.1 h2 with h3 | rfl;exact HNO.out i h1 h3;exact HB.out,HST5.out.draws _⟩,by simp [intOf];omega⟩
    ·have HB:Hid ((erL n).isPrefixOf (35::t)=true):=by show _=_;rw [HPRE.out,HP.out,heq]
     go_quiet (fail)
     go_wp2_with fail
     have HST6:Hid (St Z W v r s B ((w5.drewN nq).setCell ⟨r,1,none⟩ (.int .i64 ((j4:Int)+(nm.size:Int)))) (j4+nm.size) false v out):=(HST5.out.draws nq).at (j4+nm.size) _ (by omega) (by omega)
     have HRN:Hid (rest s (j4+nm.size)=(sb l).drop (erL n).length):=by
      show _=_;rw [Dj,HR4.out,HSB.out,HEL.out];simp
     have HER:Hid (YJ (sb l)=n):=by show _=_;rw [HSB.out];exact Qgm hn1 hn5 HB.out HNO.out
     have HN1:Hid (1≤n):=hn1;clear HB HPRE HP heq c0 c1 c2 c3 f1 f2 f3;refine(Bj (n:Int) _).mono ?_;rintro _ w7 ⟨rfl,hb7⟩;have HST7:Hid (St Z W v r s B w7 (j4+nm.size) false v out):=HST6.out.bel hb7;clear hb7;go_wp2_with fail
     refine(JG (RF.cst 4 (n:Int) []) none 0 r s (j4+nm.size) false v B out _ (HST7.out.st) (Yc _ _) (fun _ h=>by cases h) (by show(bs []).size≤maxLen;exact Nat.zero_le _) (by have:=HGL.out;omega)).mono ?_;rintro _ w8 ⟨v8,rfl,hs8,hnb8,hfr8⟩;have HST8:Hid (St Z W v r s B w8 (j4+nm.size) (false || !(decide (out.length+1≤60)&&QN (RF.cst 4 (n:Int) []))) v8 (out++ [RF.cst 4 (n:Int) []])):=HST7.out.step hs8 hnb8 hfr8;clear hs8 hnb8 hfr8;go_wp2_with fail
     go_ret;refine⟨_,_,_,v8,_,rfl,HST8.out,?_,?_⟩
     ·rw [Qpn HLN.out HSB.out HER.out HN1.out,←HRN.out];exact YL HG.out
     ·rw [List.length_append];have:=HGL.out;simp only [List.length_cons,List.length_nil];omega
theorem Qlf: ∀k:Fin 10,Xc (fnT ((k.val:Int)+1))=(k.val:Int)+1∧fnT ((k.val:Int)+1)≠ []:=by decide
theorem Qli (n:Nat) (h1:1≤n) (h:n≤10):Xc (fnT (n:Int))=(n:Int)∧fnT (n:Int)≠ []:=by
 have h9:=Qlf ⟨n-1,by omega⟩;simp only [show((n-1:Nat):Int)+1=(n:Int) by omega]at h9;exact h9
theorem Qil {w:List UInt8} (h:Xc w≠0): ∃n:Nat,1≤n∧n≤10∧fnT (n:Int)=w:=by
 revert h
 unfold Xc;repeat' split
 all_goals first
  | (intro h;exact absurd rfl h)
  | skip
 ·rename_i h;intro _;exact⟨1,by omega,by omega,h.symm⟩
 ·rename_i h;intro _;exact⟨2,by omega,by omega,h.symm⟩
 ·rename_i h;intro _;exact⟨3,by omega,by omega,h.symm⟩
 ·rename_i h;intro _;exact⟨4,by omega,by omega,h.symm⟩
 ·rename_i h;intro _;exact⟨5,by omega,by omega,h.symm⟩
 ·rename_i h;intro _;exact⟨6,by omega,by omega,h.symm⟩
 ·rename_i h;intro _;exact⟨7,by omega,by omega,h.symm⟩
 ·rename_i h;intro _;exact⟨8,by omega,by omega,h.symm⟩
 ·rename_i h;intro _;exact⟨9,by omega,by omega,h.symm⟩
 ·rename_i h;intro _;exact⟨10,by omega,by omega,h.symm⟩
theorem Qfd {l:List UInt8} (h:l.takeWhile isW≠ []): ∃c t,l=c::t∧isW c=true:=by
 cases l with
 | nil=>exact absurd rfl h
 | cons c t=>
  refine⟨c,t,rfl,?_⟩;cases hc:isW c
  ·exact absurd (by simp [List.takeWhile,hc]) h
  ·rfl
theorem Qn1 {k n k' n':Int} {s s':ByteArray} (h:vlA k n s=vlA k' n' s'):s=s':=by
 unfold vlA at h;simp only [Value.tuple.injEq,Array.mk.injEq,List.cons.injEq,Value.agg.injEq,Value.string.injEq]at h;exact h.1.2.2.1
theorem Qfl {k n k' n':Int} {s t:ByteArray} (h:rvB k n s=vlA k' n' t):t=s:=by
 rcases Df k n s with e | e
 ·rw [e]at h;exact(Qn1 h).symm
 ·rw [e]at h;unfold GS vlA at h;simp at h
theorem Qop {s t:ByteArray} {k n:Int} (h:rvS s=vlA k n t):t.size≤s.size:=by
 have hz: ∀(k' n':Int),rvB k' n' ⟨#[]⟩=vlA k n t→t.size≤s.size:=fun k' n' h=>by rw [Qfl h];exact Nat.zero_le _
 unfold rvS at h;split at h
 ·split at h
  ·rw [Qfl h,ByteArray.size_extract];omega
  split at h
  ·exact hz _ _ h
  split at h
  ·exact hz _ _ h
  split at h
  ·exact hz _ _ h
  ·unfold rvO at h;split at h
   ·exact hz _ _ h
   ·unfold GS vlA at h;simp at h
 ·exact hz _ _ h
theorem Qmb {l:List UInt8} {v:Int × Int × List UInt8} (h:rvL l=some v):(bs v.2.2).size≤l.length:=by
 have h1:=Qop (Qep h);rw [Qt]at h1;rw [Qt]at h1;rw [Qt];exact h1
def NH (l:List UInt8):Prop:=l.head?≠some 45∧l.head?≠some 40∧l.head?≠some 34∧l.head?≠some 35
def rvE (w:List UInt8):Option (Int × Int × List UInt8):=if w= []then none else rvL w
theorem Qpm {l:List UInt8} {out:List FN} (hn:l.length≤1000) (hh:NH (sb l)) (hc: ∀i:Nat,1≤i→i≤10→fnT (i:Int)=(sb l).takeWhile isW→pk ((sb l).dropWhile isW)≠ [40]):
  PB RF 3 0 0 [] l out=Qml (rvE ((sb l).takeWhile isW)) (rpL ((sb l).takeWhile isW)) ((sb l).dropWhile isW) out:=by
 by_cases hw:(sb l).takeWhile isW= []
 ·have h1:PB RF 3 0 0 [] l out=none:=(Qpj hn hh.1 hh.2.1 hh.2.2.1 hh.2.2.2 (fun c t hs=>by
   rw [hs]at hw;cases hq:isW c
   ·rfl
   ·rw [List.takeWhile_cons,if_pos hq]at hw;cases hw)).1
  rw [h1,hw,JH,rvE,if_pos rfl];rfl
 ·obtain⟨c,t,hs,hq⟩:=Qfd hw;by_cases hf:Xc ((sb l).takeWhile isW)=0
  ·rw [Qkj (x:=rvL ((sb l).takeWhile isW)) (y:=rpL ((sb l).takeWhile isW)) hn hs hq hf rfl rfl,rvE,if_neg hw]
  ·obtain⟨n,h1,h10,hw2⟩:=Qil hf;rw [Qmk hn hs hq hf,if_neg (hc n h1 h10 hw2)];obtain⟨g1,g2⟩:=Qpl ⟨n-1,by omega⟩;simp only [show((n-1:Nat):Int)+1=(n:Int) by omega]at g1 g2;rw [hw2]at g1 g2;rw [rvE,if_neg hw,g1,g2];rfl
theorem Qpo {l:List UInt8} {out:List FN} {n:Nat} (hn:l.length≤1000) (h1:1≤n) (h10:n≤10) (hw:fnT (n:Int)=(sb l).takeWhile isW) (hp:pk ((sb l).dropWhile isW)= [40]):
  PB RF 3 0 0 [] l out=Zv (PB RF 6 0 0 [] (nx ((sb l).dropWhile isW)) out) (fun k l1 o1=>PB RF 5 (n:Int) 0 [k] l1 o1):=by
 obtain⟨g1,g2⟩:=Qli n h1 h10;obtain⟨c,t,hs,hq⟩:=Qfd (l:=sb l) (by rw [←hw];exact g2);have hf:Xc ((sb l).takeWhile isW)=(n:Int):=by rw [←hw];exact g1
 rw [Qmk hn hs hq (by rw [hf];omega),if_pos hp,hf]
theorem UC (a b:List UInt8):((bs a).toList==(bs b).toList)=decide (a=b):=by
 rw [ByteArray.toList_eq,ByteArray.toList_eq];show(a==b)=_;rw [Bool.eq_iff_iff];simp
theorem Qqx {l:List UInt8} (h:pk (l.dropWhile isW)= [40]):(sb (nx (l.dropWhile isW))).length<l.length:=by
 have h1:=He (l:=l.dropWhile isW) (by rw [h];simp);have h2:=YD (nx (l.dropWhile isW));have h3:=(List.dropWhile_sublist isW (l:=l)).length_le;omega
theorem Mv {Z:Nat→Prop} {r:Nat} {s:ByteArray} {B m:Nat} (hm:m≤20000) (hRP:RPC) (hC:Qek Z r s B m) (hs:s.size≤1000) (W:World) (k:Nat) (v:Value) (out:List FN) (h:RdS Z W r s k false v B out) (hg:good out=true) (hk:12*QJ s k+2≤m+1) (hsb:NH (sb (rest s k))):
  Calls Tryz.prog 215 #[.pointer (some ⟨r,0,none⟩)] W (Qcx Z r s B (m+1) W v (PB RF 3 0 0 [] (rest s k) out)):=by
 have HRP:Hid RPC:=hRP;have HC:Hid (Qek Z r s B m):=hC;clear hRP hC;have HG:Hid (good out=true):=hg;have HS0:Hid (St Z W v r s B W k false v out):=St.start h;obtain⟨l,HL⟩: ∃l,Hid (rest s k=l):=⟨_,rfl⟩;have HLN:Hid (l.length≤1000):=by show _≤_;rw [←HL.out];exact(Yj s k hs).2
 have HLK:Hid (QJ s k=(sb l).length):=by show _=_;unfold QJ;rw [HL.out]
 rw [HL.out]at hsb ⊢;have HSB:Hid (NH (sb l)):=hsb;have HGL:Hid (out.length≤60):=Yd hg;have HJ0:Hid (sb (rest s k)=sb l):=by show _=_;rw [HL.out]
 clear h hg hsb;go_enter Tryz.func215,Tryz.ntmps215;go_wp2_with fail
 have HN1:Hid (isB false (bs [45]) (rest s k)=false∧isR false (bs [45]) (rest s k)=sb (rest s k)):=Ho (by rw [HJ0.out];exact HSB.out.1);refine(ZF r s (bs [45]) k false v W HS0.out.st.rs hs (by decide)).mono ?_;rintro e w1 ⟨rfl,j1,hrj,hre,hgb⟩;rw [HN1.out.1];rw [HN1.out.2,HJ0.out]at hre;have HS1:Hid (St Z W v r s B w1 j1 false v out):=HS0.out.gb hrj hgb;have HR1:Hid (rest s j1=sb l):=hre
 have HJ1:Hid (sb (rest s j1)=sb l):=by show _=_;rw [HR1.out,Ze]
 clear hrj hre hgb HS0 HN1;go_wp2_with fail
 have HN2:Hid (isB false (bs [40]) (rest s j1)=false∧isR false (bs [40]) (rest s j1)=sb (rest s j1)):=Ho (by rw [HJ1.out];exact HSB.out.2.1);refine(ZF r s (bs [40]) j1 false v w1 HS1.out.st.rs hs (by decide)).mono ?_;rintro e w2 ⟨rfl,j2,hrj,hre,hgb⟩;rw [HN2.out.1];rw [HN2.out.2,HJ1.out]at hre;have HS2:Hid (St Z W v r s B w2 j2 false v out):=HS1.out.gb hrj hgb;have HR2:Hid (rest s j2=sb l):=hre
 have HJ2:Hid (sb (rest s j2)=sb l):=by show _=_;rw [HR2.out,Ze]
 clear hrj hre hgb HS1 HN2;go_wp2_with fail
 have HN3:Hid (isB false (bs [34]) (rest s j2)=false∧isR false (bs [34]) (rest s j2)=sb (rest s j2)):=Ho (by rw [HJ2.out];exact HSB.out.2.2.1);refine(ZF r s (bs [34]) j2 false v w2 HS2.out.st.rs hs (by decide)).mono ?_;rintro e w3 ⟨rfl,j3,hrj,hre,hgb⟩;rw [HN3.out.1];rw [HN3.out.2,HJ2.out]at hre;have HS3:Hid (St Z W v r s B w3 j3 false v out):=HS2.out.gb hrj hgb;have HR3:Hid (rest s j3=sb l):=hre
 have HJ3:Hid (sb (rest s j3)=sb l):=by show _=_;rw [HR3.out,Ze]
 clear hrj hre hgb HS2 HN3;go_wp2_with fail
 have HN4:Hid (isB false (bs [35]) (rest s j3)=false∧isR false (bs [35]) (rest s j3)=sb (rest s j3)):=Ho (by rw [HJ3.out];exact HSB.out.2.2.2);refine(ZF r s (bs [35]) j3 false v w3 HS3.out.st.rs hs (by decide)).mono ?_;rintro e w4 ⟨rfl,j4,hrj,hre,hgb⟩;rw [HN4.out.1];rw [HN4.out.2,HJ3.out]at hre;have HS4:Hid (St Z W v r s B w4 j4 false v out):=HS3.out.gb hrj hgb;have HR4:Hid (rest s j4=sb l):=hre
 have HJ4:Hid (sb (rest s j4)=sb l):=by show _=_;rw [HR4.out,Ze]
 clear hrj hre hgb HS3 HN4;go_wp2_with fail
 refine(Ec r s j4 false v w4 HS4.out.st.rs hs).mono ?_;rintro e w5 ⟨rfl,j5,hrj5,hre5,hgb5⟩;have HS5:Hid (St Z W v r s B w5 j5 false v out):=HS4.out.gb hrj5 hgb5;have HTW:Hid (((rest s j4).takeWhile isW).length≤1000):=BP s j4 hs;rw [HR4.out]at hre5 HTW ⊢;obtain⟨wd,HWD⟩: ∃wd,Hid ((sb l).takeWhile isW=wd):=⟨_,rfl⟩;obtain⟨dw,HDW⟩: ∃dw,Hid ((sb l).dropWhile isW=dw):=⟨_,rfl⟩
 rw [HWD.out]at HTW ⊢;obtain⟨wb,HWB0⟩: ∃wb,Hid ((⟨wd.toArray⟩:ByteArray)=wb):=⟨_,rfl⟩;rw [HWB0.out];have HWB:Hid (bs wd=wb):=HWB0.out;clear HWB0;have HWZ:Hid (wb.size≤1000):=by show _≤_;rw [←HWB.out,Qt];exact HTW.out
 have HJ5:Hid (sb (rest s j5)=sb dw):=by show _=_;rw [hre5,HDW.out]
 clear hrj5 hre5 hgb5 HS4;go_wp2_with fail
 go_loopw [8] (fun a wr=> ∃(n j:Nat),a= .int .i64 n∧1≤n∧n≤11∧(∀i:Nat,1≤i→i<n→fnT (i:Int)=wd→pk dw≠ [40])∧sb (rest s j)=sb dw∧St Z W v r s B wr j false v out) (fun a _=>11-(intOf a).toNat)
 case atStart=>exact⟨1,j5,rfl,by omega,by omega,fun i h1 h2=>by omega,HJ5.out,HS5.out⟩
 case round=>
  clear HS5 HJ5;obtain⟨n,j,rfl,hn1,hn11,hno,hjr,hst⟩:=hrel;have HST:Hid (St Z W v r s B wr j false v out):=hst;have HNO:Hid (∀i:Nat,1≤i→i<n→fnT (i:Int)=wd→pk dw≠ [40]):=hno;have HJ:Hid (sb (rest s j)=sb dw):=hjr;clear hst hno hjr;by_cases hn10:n≤10
  ·have q:(n:Int)≤10:=by omega
   have HNX:Hid ((n:Int)+1=((n+1:Nat):Int)):=by show _=_;omega
   have hw1:IntKind.i64.wrap ((n:Int)+1)=(n:Int)+1:=by rw [IntKind.wrap_i64];omega
   go_wp2_with fail
   refine(Db (n:Int) _ (by omega) (by omega)).mono ?_;rintro _ w6 ⟨rfl,hb6⟩;have HST6:Hid (St Z W v r s B w6 j false v out):=HST.out.bel hb6;obtain⟨fb,HFB⟩: ∃fb,Hid (bs (fnT (n:Int))=fb):=⟨_,rfl⟩;rw [HFB.out];clear hb6 HST;by_cases hf:fnT (n:Int)=wd
   ·have hbq:(fb.toList==wb.toList)=true:=by rw [←HFB.out,←HWB.out,UC];simpa using hf
    have HF:Hid (fnT (n:Int)=wd):=hf;clear hf;go_wp2_with fail
    by_cases hp:pk dw= [40]
    ·have HP:Hid (pk dw= [40]):=hp;have HPJ:Hid (pk (rest s j)= [40]):=by show _=_;rw [←Xj,HJ.out,Xj,hp]
     have HNXJ:Hid (nx (rest s j)=nx dw):=JJ HJ.out (by rw [HPJ.out];simp);have HIB:Hid (isB false (bs [40]) (rest s j)=true):=by show _=_;rw [JB _ 40 (by simp),HPJ.out];rfl
     have HIR:Hid (isR false (bs [40]) (rest s j)=nx dw):=by show _=_;rw [Gk (by simp) HPJ.out,HNXJ.out]
     clear hp;refine(ZF r s (bs [40]) j false v _ HST6.out.st.rs hs (by decide)).mono ?_;rintro _ w7 ⟨rfl,j7,hrj7,hre7,hgb7⟩;rw [HIB.out];rw [HIR.out]at hre7;have HST7:Hid (St Z W v r s B w7 j7 false v out):=HST6.out.gb hrj7 hgb7;have HJ7:Hid (rest s j7=nx dw):=hre7
     have HL7:Hid (QJ s j7<QJ s k):=by
      show(sb (rest s j7)).length<QJ s k;rw [HLK.out,HJ7.out,←HDW.out];exact Qqx (by rw [HDW.out];exact HP.out)
     clear hrj7 hre7 hgb7;go_wp2_with fail
     refine(HC.out w7 j7 v out (n:Int) HST7.out.st HG.out (by omega) (by omega) (by have:=HL7.out;omega)).mono ?_;rintro _ w8 ⟨x8,k8,bad8,v8,out8,rfl,hst8,hag8,hlen8⟩;have HST8:Hid (St Z W v r s B w8 k8 bad8 v8 out8):=HST7.out.step hst8.st hst8.nb hst8.fr
     have HAG8:Hid (ZR (PB RF 3 0 0 [] l out) bad8 x8 (rest s k8) out8):=by
      show ZR _ _ _ _ _;rw [Qpo HLN.out hn1 hn10 (by rw [HWD.out];exact HF.out) (by rw [HDW.out];exact HP.out),HDW.out,←HJ7.out];exact hag8
     have HL8:Hid (out8.length≤61+m):=hlen8;clear hst8 hag8 hlen8;go_wp2_with fail
     go_ret;exact⟨x8,k8,bad8,v8,out8,rfl,HST8.out,HAG8.out,Nat.le_succ_of_le HL8.out⟩
    ·have HP:Hid (¬pk dw= [40]):=hp;have HPJ:Hid (pk (rest s j)≠ [40]):=by show _≠_;rw [←Xj,HJ.out,Xj];exact hp
     have HIB:Hid (isB false (bs [40]) (rest s j)=false∧isR false (bs [40]) (rest s j)=sb (rest s j)):=Gl (by simp) HPJ.out;clear hp;refine(ZF r s (bs [40]) j false v _ HST6.out.st.rs hs (by decide)).mono ?_;rintro _ w7 ⟨rfl,j7,hrj7,hre7,hgb7⟩;rw [HIB.out.1];rw [HIB.out.2,HJ.out]at hre7;have HST7:Hid (St Z W v r s B w7 j7 false v out):=HST6.out.gb hrj7 hgb7
     have HJ7:Hid (sb (rest s j7)=sb dw):=by show _=_;rw [hre7,Ze]
     clear hrj7 hre7 hgb7;go_wp2_with fail
     exact⟨⟨n+1,j7,by rw [HNX.out],by omega,by omega,fun i h1 h2 h3=>by rcases Nat.lt_succ_iff_lt_or_eq.1 h2 with h4 | rfl;exact HNO.out i h1 h4 h3;exact HP.out,HJ7.out,HST7.out⟩,by simp [intOf];omega⟩
   ·have hbq:(fb.toList==wb.toList)=false:=by rw [←HFB.out,←HWB.out,UC];simpa using hf
    have HF:Hid (¬fnT (n:Int)=wd):=hf;clear hf;go_wp2_with fail
    exact⟨⟨n+1,j,by rw [HNX.out],by omega,by omega,fun i h1 h2 h3=>by rcases Nat.lt_succ_iff_lt_or_eq.1 h2 with h4 | rfl;exact HNO.out i h1 h4 h3;exact absurd h3 HF.out,HJ.out,HST6.out⟩,by simp [intOf];omega⟩
  ·obtain rfl:n=11:=by omega
   have q: ¬((11:Nat):Int)≤10:=by omega
   have HPB:Hid (PB RF 3 0 0 [] l out=Qml (rvE wd) (rpL wd) dw out):=by
    show _=_;rw [Qpm HLN.out HSB.out (fun i h1 h2 h3=>by rw [HDW.out];exact HNO.out i h1 (by omega) (by rw [HWD.out]at h3;exact h3)),HWD.out,HDW.out]
   clear HNO;go_wp2_with fail
   refine(JQ wb _ (by have:=HWZ.out;omega)).mono ?_;rintro _ w6 ⟨rfl,hb6⟩;have HST6:Hid (St Z W v r s B w6 j false v out):=HST.out.bel hb6;clear hb6 HST;cases hx:rvL wd with
   | none=>
    rw [←HWB.out,Qrh hx];unfold GS;try rw [HWB.out]
    have HX:Hid (rvE wd=none):=by show _=_;unfold rvE;rw [hx];simp
    clear hx;go_wp2_with fail
    have HST7:Hid (St Z W v r s B (w6.alloc (.cells #[.int .i64 0,.int .i64 0,.string ⟨#[]⟩] 156)) j false v out):=HST6.out.bel (by go_grown);have hrp:=HRP.out wd (w6.alloc (.cells #[.int .i64 0,.int .i64 0,.string ⟨#[]⟩] 156)) (by have:=HTW.out;omega);rw [HWB.out]at hrp;refine hrp.mono ?_;clear hrp;rintro _ w8 ⟨rfl,hb8⟩;have HST8:Hid (St Z W v r s B w8 j false v out):=HST7.out.bel hb8
    clear hb8 HST7;cases hy:rpL wd with
    | none=>
     rw [Qdi hy];have HN:Hid (PB RF 3 0 0 [] l out=none):=by show _=_;rw [HPB.out,HX.out,hy];rfl
     obtain⟨_,⟨c0,c1,c2,c3⟩,f1,f2,f3⟩:=HST8.out.st.rs;have hrl8:r<w8.heap.size:=HST8.out.st.rs.lt;clear hy;go_wp2_with fail
     go_ret;exact⟨0,j,true,v,out,rfl,HST8.out.mad.bel (by go_grown),by rw [HN.out];exact⟨fun e=>(by cases e),fun _=>ZH⟩,by have:=HGL.out;omega⟩
    | some p=>
     rw [EQ hy];have HN:Hid (PB RF 3 0 0 [] l out=some ((out.length:Int),sb dw,out++ [RF.cel p])):=by show _=_;rw [HPB.out,HX.out,hy];rfl
     clear hy;go_wp2_with fail
     refine(JG (RF.cel p) none 0 r s j false v B out _ (HST8.out.st.bel (by go_grown)) (Yc _ _) (fun _ h=>by cases h) (by show(⟨#[]⟩:ByteArray).size≤maxLen;exact Nat.zero_le _) (by have:=HGL.out;omega)).mono ?_;rintro _ w9 ⟨v9,rfl,hs9,hnb9,hfr9⟩;have HST9:Hid (St Z W v r s B w9 j (false || !(decide (out.length+1≤60)&&QN (RF.cel p))) v9 (out++ [RF.cel p])):=(HST8.out.bel (by go_grown)).step hs9 hnb9 hfr9;clear hs9 hnb9 hfr9;go_wp2_with fail
     go_ret;refine⟨_,j,_,v9,_,rfl,HST9.out,?_,?_⟩
     ·rw [HN.out,←HJ.out];exact YL HG.out
     ·rw [List.length_append];have:=HGL.out;simp only [List.length_cons,List.length_nil];omega
   | some vv=>
    have HVS:Hid ((bs vv.2.2).size≤maxLen):=by show _≤_;have h1:=Qmb hx;have h2:=HTW.out;unfold maxLen;omega
    rw [←HWB.out,Qep hx];unfold vlA;try rw [HWB.out]
    by_cases hwn:wd= []
    ·have HWN:Hid (wd= []):=hwn;have HX:Hid (rvE wd=none):=by show _=_;unfold rvE;rw [if_pos hwn]
     have hbe:wb.toList.isEmpty=true:=by rw [←HWB.out,ByteArray.toList_eq,hwn];rfl
     clear hx hwn;go_wp2_with fail
     have HST7:Hid (St Z W v r s B (w6.alloc (.cells #[.int .i64 vv.1,.int .i64 vv.2.1,.string (bs vv.2.2)] 156)) j false v out):=HST6.out.bel (by go_grown);have hrp:=HRP.out wd (w6.alloc (.cells #[.int .i64 vv.1,.int .i64 vv.2.1,.string (bs vv.2.2)] 156)) (by have:=HTW.out;omega);rw [HWB.out]at hrp;refine hrp.mono ?_;clear hrp;rintro _ w8 ⟨rfl,hb8⟩;have HST8:Hid (St Z W v r s B w8 j false v out):=HST7.out.bel hb8
     clear hb8 HST7;have hy:rpL wd=none:=by rw [HWN.out];exact JH
     rw [Qdi hy];have HN:Hid (PB RF 3 0 0 [] l out=none):=by show _=_;rw [HPB.out,HX.out,hy];rfl
     obtain⟨_,⟨c0,c1,c2,c3⟩,f1,f2,f3⟩:=HST8.out.st.rs;have hrl8:r<w8.heap.size:=HST8.out.st.rs.lt;clear hy;go_wp2_with fail
     go_ret;exact⟨0,j,true,v,out,rfl,HST8.out.mad.bel (by go_grown),by rw [HN.out];exact⟨fun e=>(by cases e),fun _=>ZH⟩,by have:=HGL.out;omega⟩
    ·have HX:Hid (rvE wd=some vv):=by show _=_;unfold rvE;rw [if_neg hwn,hx]
     have HN:Hid (PB RF 3 0 0 [] l out=some ((out.length:Int),sb dw,out++ [RF.cst vv.1 vv.2.1 vv.2.2])):=by show _=_;rw [HPB.out,HX.out];rfl
     have hbe:wb.toList.isEmpty=false:=by
      rw [←HWB.out,ByteArray.toList_eq];show wd.isEmpty=false;cases hq:wd with
      | nil=>exact absurd hq hwn
      | cons a t=>rfl
     clear hx hwn;go_wp2_with fail
     refine(JG (RF.cst vv.1 vv.2.1 vv.2.2) none 0 r s j false v B out _ (HST6.out.st.bel (by go_grown)) (Yc _ _) (fun _ h=>by cases h) (HVS.out) (by have:=HGL.out;omega)).mono ?_;rintro _ w9 ⟨v9,rfl,hs9,hnb9,hfr9⟩;have HST9:Hid (St Z W v r s B w9 j (false || !(decide (out.length+1≤60)&&QN (RF.cst vv.1 vv.2.1 vv.2.2))) v9 (out++ [RF.cst vv.1 vv.2.1 vv.2.2])):=(HST6.out.bel (by go_grown)).step hs9 hnb9 hfr9;clear hs9 hnb9 hfr9;go_wp2_with fail
     go_ret;refine⟨_,j,_,v9,_,rfl,HST9.out,?_,?_⟩
     ·rw [HN.out,←HJ.out];exact YL HG.out
     ·rw [List.length_append];have:=HGL.out;simp only [List.length_cons,List.length_nil];omega
end Go.Proofs.YtbdhinckiccniaaGreatDoor
