import Derived.Test.YtomadadmakdkgaaGreatDoorMn
import Derived.Test.YtomadadmakdkgaaGreatDoorGbd
import Derived.Test.YtomadadmakdkgaaGreatDoorGay
open Go.Proofs.Tryz
open Go.Value renaming string → d, tuple → g, int → j, bool → C, agg → I
open Go renaming bodyPost_ret → f, results → B, World → G
open Go.IntKind renaming i64 → x
open Go.Ending renaming returned → D
open Go.RowKit renaming Below → E
open Go.RowKit.Below renaming refl → H
open Go.Obj renaming cells → J
set_option linter.unusedSimpArgs false
set_option linter.unusedVariables false
set_option maxHeartbeats 4000000
set_option maxRecDepth 100000
namespace Go.Proofs.YtomadadmakdkgaaGreatDoor
open Go.RowKit
variable {l:List UInt8} {v:Int}
def Zr:List UInt8->List UInt8
 | []=> []
 | [b]=> [b]
 | b::c::t=>if b=48 then Zr (c::t)else b::c::t
theorem Gt: ∀(l:List UInt8),ZL (Zr l) 0=ZL l 0
 | []=>rfl
 | [b]=>rfl
 | b::c::t=>by
  rw[Zr];by_cases h:b=48
  ·rw[pS h,Gt (c::t)];subst h;conv=>rhs;rw[ZL]
   rw[pS (by decide)];rfl
  ·rw[nG h]
theorem Qkj(h:l≠ []):Zr l≠ []:=by
 induction l with
 | nil=>exact absurd rfl h
 | cons b t ih=>
  cases t with
  | nil=>simp[Zr]
  | cons c u=>
   rw[Zr];split
   ·exact ih (by simp)
   ·simp
theorem Qdv(l:List UInt8):(Zr l).head?≠some 48\/Zr l= [48]:=by
 induction l with
 | nil=>left;simp[Zr]
 | cons b t ih=>
  cases t with
  | nil=>
   by_cases h:b=48
   ·right;rw[h];rfl
   ·left;simp[Zr,h]
  | cons c u=>
   rw[Zr];by_cases h:b=48
   ·rw[pS h];exact ih
   ·rw[nG h];left;simpa using h
theorem NM: ∀(l:List UInt8) (n m:Nat),Lib.parseUintM (2^64-1) n l= .ok m->ZL l n=some m
 | [],n,m,h=>by
  simp only[Lib.parseUintM]at h;cases h
  rfl
 | a::l,n,m,h=>by
  simp only[Lib.parseUintM]at h;rw[ZL];split at h
  ·rename_i hd
   rw[pS hd];split at h
   ·cases h
   ·split at h
    ·cases h
    ·exact NM l _ m h
  ·cases h
def u15(l:List UInt8):Option Nat:=match l16 (Zr l)with
 | some m=>if m<=1000000000000000 then some m else none
 | none=>none
theorem Qb6{m:Nat}(h:l≠ []):u15 l=some m↔ZL l 0=some m/\m<=1000000000000000:=by
 constructor
 ·intro hu;unfold u15 at hu;split at hu
  ·rename_i q hq
   split at hu
   ·rename_i h0
    cases hu
    exact⟨by rw[<-Gt];exact(Jg hq).2.2.1,h0⟩
   ·cases hu
  ·cases hu
 ·rintro⟨hd,h0⟩;rw[<-Gt]at hd
  have hl:l16 (Zr l)=some m:=by
   rcases Qdv l with hh | hh
   ·have h9:=Qc7 (Zr l) m hd (Qkj h) hh;rw[<-h9.2];exact Qaq m (by omega)
   ·rw[hh]at hd ⊢;have:m=0:=by simp[ZL]at hd;exact hd.symm
    subst this;rfl
  unfold u15;rw[hl];simp only;rw[pS h0]
theorem Me{m:Nat}(h:l≠ []):u15 l=some m↔Lib.parseUintB 64 l= .ok m/\m<=1000000000000000:=by
 rw[Qb6 h];constructor
 ·rintro⟨hd,h0⟩;refine⟨?_,h0⟩;unfold Lib.parseUintB;rw[nG (by simpa using h)];exact Vr l 0 m hd (by omega)
 ·rintro⟨hp,h0⟩;refine⟨?_,h0⟩;unfold Lib.parseUintB at hp;rw[nG (by simpa using h)]at hp;exact NM l 0 m hp
def Qpk(b:Bool)(o:Option Nat):Option Int:=match o with
 | some m=>some (if b then-(m:Int)else(m:Int))
 | none=>none
def n5(l:List UInt8):Option Int:=if l.head? =some 45 then(if l.tail= []then none else Qpk true (u15 l.tail))else(if l= []then none else Qpk false (u15 l))
def nTo(p:Bool)(e:Lib.NumEnd Int):Option Int:=match e with
 | .ok v=>if p then none else if Ym v=true then some v else none
 | _=>none
def nT(l:List UInt8):Option Int:=nTo (decide (l.head? =some 43)) (Lib.parseIntB 64 l)
theorem Qgw(h:Ym v=true):nTo false (.ok v)=some v:=by unfold nTo;simp[h]
theorem Qnt{p:Bool}(h:Ym v=false):nTo p (.ok v)=none:=by unfold nTo;simp[h]
theorem Qcs{e:Lib.NumEnd Int}:nTo true e=none:=by cases e<;>rfl
theorem JU(v:Int):Ym v=true↔ -1000000000000000<=v/\v<=1000000000000000:=by
 unfold Ym;rw[decide_eq_true_iff]
theorem Qb5(h:l≠ [])(hu:u15 l=none){u:Nat}(hp:Lib.parseUintB 64 l= .ok u):1000000000000000<u:=by
 rcases Nat.lt_or_ge 1000000000000000 u with h9 | h9
 ·exact h9
 ·rw[(Me h).2 ⟨hp,h9⟩]at hu;cases hu
theorem Qsl:(2:Nat)^(64-1)=9223372036854775808:=rfl
theorem Qgc(h: ¬(-1000000000000000<=v/\v<=1000000000000000)):Ym v=false:=by
 unfold Ym;exact decide_eq_false h
theorem Qnq(l:List UInt8):nT l=n5 l:=by
 cases l with
 | nil=>rfl
 | cons c r=>
  by_cases h0:c=45
  ·subst h0;have e:decide ((45::r).head? =some 43)=false:=by simp
   unfold nT n5;rw[e,Lib.parseIntB_minus,pS (show(45::r).head? =some 45 from rfl),List.tail_cons,Qsl];by_cases hr:r= []
   ·rw[pS hr,hr];rfl
   ·rw[nG hr];cases hu:u15 r with
    | some m=>
     obtain⟨hp,h3⟩:=(Me hr).1 hu;rw[hp];simp only[Lib.signedC];rw[nG (by omega),Qgw ((JU _).2 (by omega))];rfl
    | none=>
     cases hp:Lib.parseUintB 64 r with
     | ok u=>
      have h9:=Qb5 hr hu hp;simp only[Lib.signedC];by_cases hb:9223372036854775808<u
      ·rw[pS hb];rfl
      ·rw[nG hb,Qnt (Qgc (by omega))];rfl
     | «syntax»=>rfl
     | range=>rfl
  ·have h2: ¬(c::r).head? =some 45:=by simpa using h0
   by_cases h1:c=43
   ·subst h1;have e:decide ((43::r).head? =some 43)=true:=by simp
    unfold nT n5;rw[e,Qcs,nG h2,nG (by simp)]
    have hu:u15 (43::r)=none:=by
     cases hq:u15 (43::r)with
     | none=>rfl
     | some m=>
      have h9:=((Qb6 (l:=43::r) (by simp)).1 hq).1;rw[ZL,nG (by decide)]at h9;cases h9
    rw[hu];rfl
   ·have e:decide ((c::r).head? =some 43)=false:=by simpa using h1
    unfold nT n5;rw[e,nG h2,nG (by simp),Lib.parseIntB_plain 64 c r (fun e=>h1 (UInt8.toNat_inj.1 e)) (fun e=>h0 (UInt8.toNat_inj.1 e)),Qsl];cases hu:u15 (c::r)with
    | some m=>
     obtain⟨hp,h3⟩:=(Me (l:=c::r) (by simp)).1 hu;rw[hp];simp only[Lib.signlessC];rw[nG (by omega),Qgw ((JU _).2 (by omega))];rfl
    | none=>
     cases hp:Lib.parseUintB 64 (c::r)with
     | ok u=>
      have h9:=Qb5 (by simp) hu hp;simp only[Lib.signlessC];by_cases hb:9223372036854775808<=u
      ·rw[pS hb];rfl
      ·rw[nG hb,Qnt (Qgc (by omega))];rfl
     | «syntax»=>rfl
     | range=>rfl
theorem n5_b(h:n5 l=some v): -1000000000000000<=v/\v<=1000000000000000:=by
 rw[<-Qnq]at h;unfold nT nTo at h;split at h
 ·split at h
  ·cases h
  ·split at h
   ·rename_i hr
    cases h
    exact(JU _).1 hr
   ·cases h
 ·cases h
def eqH(s:ByteArray):Bool:=if h:0<s.size then s[0]==61 else false
def fsT(o:Option (List FN)):Option ByteArray:=match o with
 | some out=>if(ftx (ouF out) out.length).size=0 then none else some ((⟨#[61]⟩:ByteArray)++ftx (ouF out) out.length)
 | none=>none
def lim(o:Option ByteArray):Option ByteArray:=match o with
 | some t=>if t.size<=200 then some t else none
 | none=>none
def srT(s:ByteArray):Option ByteArray:=
 if eqH s then fsT (rdF (s.extract 1 s.size))else match n5 s.data.toList with
  | some n=>some (txV 1 n ⟨#[]⟩)
  | none=>if gOk (Qu s)=true then some s else some ((⟨#[39]⟩:ByteArray)++s)
def inF(s:ByteArray):Option ByteArray:=if QJ s then lim (srT s)else none
theorem Qw5(s:ByteArray):Lib.hasPrefix s.data.toList (⟨#[61]⟩:ByteArray).data.toList=eqH s:=by
 show [61].isPrefixOf s.data.toList=_;unfold eqH;by_cases h:0<s.size
 ·rw[dif_pos h,Yd h];rw[Bool.eq_iff_iff];simp only[List.isPrefixOf,Bool.and_true,beq_iff_eq];exact eq_comm
 ·rw[dif_neg h];obtain rfl:=Za (s:=s) (by omega);rfl
def JP(s:ByteArray):ByteArray:=if eqH s then s.extract 1 s.size else s
theorem Qmr{s:ByteArray}(h:eqH s=true):0<s.size:=by
 unfold eqH at h;split at h
 ·assumption
 ·cases h
theorem Qi0(s:ByteArray)(w:G)(hs:s.size<=281474976710656):Calls prog 174 #[d s,d ⟨#[61]⟩] w fun e w'=>
  e= D (g #[d (JP s),C (eqH s)])/\w'=w:=by
 have HH:Hid (Lib.hasPrefix s.data.toList (⟨#[61]⟩:ByteArray).data.toList=eqH s):=Qw5 s;cases h:eqH s
 ·have HE:Hid (eqH s=false):=h;have HC:Hid (JP s=s):=by show JP s=s;rw[JP,h];rfl
  clear h;go_enter func174,ntmps174;go_wp2_with fail
  refine(Tryz.stringslite_HasPrefix s _ _).mono ?_;rintro e w1 ⟨rfl,hw1⟩;obtain rfl:=hw1.symm;clear hw1;rw[HH.out,HE.out];go_wp2_with fail
  refine f (v:= g #[d s,C false]) ?_ rfl ⟨by rw[HC.out],rfl⟩;simp (maxDischargeDepth:=9) [B,results174,go_sem, *]
 ·have HE:Hid (eqH s=true):=h;have h0:(1:Int)<=(s.size:Int):=by have:=Qmr h;omega
  have HC:Hid (JP s=s.extract 1 s.size):=by show JP s=_;rw[JP,h];rfl
  clear h;go_enter func174,ntmps174;go_wp2_with fail
  refine(Tryz.stringslite_HasPrefix s _ _).mono ?_;rintro e w1 ⟨rfl,hw1⟩;obtain rfl:=hw1.symm;clear hw1;rw[HH.out,HE.out];go_wp2_with fail
  refine f (v:= g #[d (s.extract 1 s.size),C true]) ?_ rfl ⟨by rw[HC.out],rfl⟩;simp (maxDischargeDepth:=9) [B,results174,go_sem, *]
theorem OK(s:ByteArray)(w:G)(hs:s.size<=281474976710656):Calls prog 145 #[d s,d ⟨#[61]⟩] w fun e w'=>
  e= D (g #[d (JP s),C (eqH s)])/\w'=w:=by
 obtain⟨c,HC⟩: ∃c,Hid (JP s=c):=⟨_,rfl⟩;obtain⟨b,HB⟩: ∃b,Hid (eqH s=b):=⟨_,rfl⟩;rw[HC.out,HB.out];go_enter func145,ntmps145;go_wp2_with fail
 refine(Qi0 s _ hs).mono ?_;rintro e w1 ⟨rfl,hw1⟩;obtain rfl:=hw1.symm;clear hw1;rw[HC.out,HB.out];go_wp2_with fail
 refine f (v:= g #[d c,C b]) ?_ rfl ⟨rfl,rfl⟩;simp (maxDischargeDepth:=9) [B,results145,go_sem, *]
def Qbm(l:List UInt8)(w:G)(e:Ending)(w':G):Prop:=
 ((n5 l=none/\ ∃k n,e= D (g #[I #[j x k,j x n,d ⟨#[]⟩],C false]))\/ ∃v,n5 l=some v/\e= D (g #[I #[j x 1,j x v,d ⟨#[]⟩],C true]))/\E w.heap.size w w'
theorem Ds{b:Bool}(h:n5 l=if Ym v=true then some v else none)(hb:Ym v=b):(n5 l=none/\ ∃k n,Ending.returned (g #[I #[j x 1,j x v,d ⟨#[]⟩],C b])= D (g #[I #[j x k,j x n,d ⟨#[]⟩],C false]))\/ ∃v',n5 l=some v'/\Ending.returned (g #[I #[j x 1,j x v,d ⟨#[]⟩],C b])= D (g #[I #[j x 1,j x v',d ⟨#[]⟩],C true]):=by
 cases b
 ·left
  rw[h,hb];exact⟨rfl,1,v,rfl⟩
 ·right
  rw[h,hb];exact⟨v,rfl,rfl⟩
theorem Hs(v:Int):okV 1 v ⟨#[]⟩=Ym v:=by
 unfold okV;simp[Jh]
theorem UL(s:ByteArray)(w:G)(hs:s.size<=1000)(hv:Vars w):Calls prog 147 #[d s] w (Qbm s.data.toList w):=by
 have HV:Hid (Vars w):=hv;have h4:Hid (nT s.data.toList=n5 s.data.toList):=Qnq _;clear hv;cases hp:Lib.parseIntB 64 s.data.toList with
 | ok v=>
  have hbd: -9223372036854775808<=v/\v<=9223372036854775807:=by have:=Lib.parseIntB_bounds hp;omega
  have h0:0<s.size:=by
   rcases Nat.eq_zero_or_pos s.size with h9 | h9
   ·obtain rfl:=Za h9;cases hp
   ·exact h9
  have q0:(0:Int)<(s.size:Int):=by omega
  have HP:Hid (Lib.parseIntB 64 s.data.toList= .ok v):=hp;by_cases h3:s[0]=43
  ·have hb:(s[0].toNat:Int)=43:=by rw[h3];rfl
   have HN:Hid (n5 s.data.toList=none):=by
    show _=_;rw[<-h4.out];unfold nT;rw[Yx h0,h3,decide_eq_true rfl,Qcs]
   clear hp h3;go_enter func147,ntmps147;go_wp2_with fail
   refine(Tryz.strconv_ParseInt_10_at64_ok s (by omega) v HP.out _).mono ?_;rintro e w1 ⟨rfl,hw⟩;have h1:E (w.alloc (J #[j x 0,j x 0,d ⟨#[]⟩] 144)).heap.size (w.alloc (J #[j x 0,j x 0,d ⟨#[]⟩] 144)) w1:=(by rcases hw with rfl | ⟨t,rfl⟩;exact H _ _;exact Lib.bytesWorld_below _ _ _);obtain⟨hc,hf,hC,hF,hz,hk,l0⟩:=bk1 (w:=w) h1;clear hw h1;go_wp2_with fail
   refine f (v:= g #[I #[j x 0,j x 0,d ⟨#[]⟩],C false]) ?_ rfl ⟨Or.inl ⟨HN.out,0,0,rfl⟩,by go_grown⟩;simp (maxDischargeDepth:=9) [B,results147,go_sem, *]
  ·have hb: ¬(s[0].toNat:Int)=43:=fun e=>h3 (UInt8.toNat_inj.1 (by have:(43:UInt8).toNat=43:=rfl;omega));have hb':((s[0].toNat:Int)==43)=false:=by simpa using hb
   have HN:Hid (n5 s.data.toList=if Ym v=true then some v else none):=by
    show _=_;rw[<-h4.out];unfold nT;rw[Yx h0,HP.out,decide_eq_false (by simpa using h3)];rfl
   obtain⟨b,h5⟩: ∃b,Hid (Ym v=b):=⟨_,rfl⟩;have h6:Hid (okV 1 v ⟨#[]⟩=b):=by show _=_;rw[Hs,h5.out]
   clear hp h3;go_enter func147,ntmps147;go_wp2_with fail
   refine(Tryz.strconv_ParseInt_10_at64_ok s (by omega) v HP.out _).mono ?_;rintro e w1 ⟨rfl,hw⟩;have h1:E (w.alloc (J #[j x 0,j x 0,d ⟨#[]⟩] 144)).heap.size (w.alloc (J #[j x 0,j x 0,d ⟨#[]⟩] 144)) w1:=(by rcases hw with rfl | ⟨t,rfl⟩;exact H _ _;exact Lib.bytesWorld_below _ _ _);clear hw;go_wp2_with fail
   refine(XU v _).mono ?_;rintro e w2 ⟨rfl,hb2⟩;obtain⟨hc,hf,hC,hF,hz,hk,l0⟩:=bk1 (w:=w) (Qb h1 hb2);clear h1 hb2;go_wp2_with fail
   go_region_with (first
    | (go_at_call 177;refine(YY 1 v ⟨#[]⟩ _ (by unfold maxLen;show 0<=_;omega)).mono ?_;rintro e w3 ⟨rfl,hb3⟩;rw[h6.out];obtain⟨hc3,hf3,hC3,hF3,hz3,hk3,l3⟩:=bk1 (w:=w) hb3;clear hb3))
   all_goals go_wp2_with fail
   all_goals
    refine f (v:= g #[I #[j x 1,j x v,d ⟨#[]⟩],C b]) ?_ rfl ⟨Ds HN.out h5.out,by go_grown⟩;simp (maxDischargeDepth:=9) [B,results147,go_sem, *]
 | «syntax»=>
  obtain⟨tp,p,h2⟩:=HV.out.2.1;have HP:Hid (Lib.parseIntB 64 s.data.toList= .«syntax»):=hp;have HN:Hid (n5 s.data.toList=none):=by show _=_;rw[<-h4.out];unfold nT;rw[hp];rfl
  have HQ : Hid (w.var? prog "strconv.ErrSyntax" = some #[.iface tp p]) := h2
  clear h2 hp;go_enter func147,ntmps147;go_wp2_with fail
  refine(Tryz.strconv_ParseInt_10_at64_syntax_var s (by omega) HP.out tp p _ (JR HQ.out (by go_grown))).mono ?_;rintro e w1 ⟨N,rfl,hN,hh,h1⟩;obtain⟨hc,hf,hC,hF,hz,hk,l0⟩:=bk1 (w:=w) h1;clear hh hN h1;go_wp2_with fail
  refine f (v:= g #[I #[j x 0,j x 0,d ⟨#[]⟩],C false]) ?_ rfl ⟨Or.inl ⟨HN.out,0,0,rfl⟩,by go_grown⟩;simp (maxDischargeDepth:=9) [B,results147,go_sem, *]
 | range=>
  obtain⟨tp,p,h2⟩:=HV.out.2.2;have HP:Hid (Lib.parseIntB 64 s.data.toList= .range):=hp;have HN:Hid (n5 s.data.toList=none):=by show _=_;rw[<-h4.out];unfold nT;rw[hp];rfl
  have HQ : Hid (w.var? prog "strconv.ErrRange" = some #[.iface tp p]) := h2
  clear h2 hp;go_enter func147,ntmps147;go_wp2_with fail
  refine(Tryz.strconv_ParseInt_10_at64_range_var s (by omega) HP.out tp p _ (JR HQ.out (by go_grown))).mono ?_;rintro e w1 ⟨N,rfl,hN,hh,h1⟩;obtain⟨hc,hf,hC,hF,hz,hk,l0⟩:=bk1 (w:=w) h1;clear hh hN h1;go_wp2_with fail
  refine f (v:= g #[I #[j x 0,j x 0,d ⟨#[]⟩],C false]) ?_ rfl ⟨Or.inl ⟨HN.out,0,0,rfl⟩,by go_grown⟩;simp (maxDischargeDepth:=9) [B,results147,go_sem, *]
theorem XL{s:ByteArray}{out:List FN}(h:rdF s=some out):good out=true/\1<=out.length/\Zb (ouF out) out.length=true:=by
 unfold rdF at h;split at h
 ·obtain⟨y,hy⟩: ∃y,PB RF 1 1 0 [] s.data.toList []=y:=⟨_,rfl⟩;rw[hy]at h;cases y with
  | none=>cases h
  | some z=>
   unfold rdE at h;simp only at h;split at h
   ·rename_i hc
    cases h
    refine⟨hc.2.1,?_,hc.2.2⟩;have h9:=hc.2.2;unfold Zb at h9;simp only[Bool.and_eq_true,decide_eq_true_eq]at h9;exact h9.1.1.1.1.1
   ·cases h
 ·cases h
theorem Uo{out:List FN}(h:good out=true):(∀i,i<out.length->(ouF out i).cs.size<=maxLen)/\(∀i,i<out.length->(ouF out i).kids.length<=1048576):=
 ⟨fun i hi=>Nat.le_trans (XF (Ku h i hi)).1 (by unfold maxLen;omega),fun i hi=>Nat.le_trans (XF (Ku h i hi)).2 (by omega)⟩
theorem KH(F:Nat->FN)(n:Nat):(ftx F n).size<=200:=by
 unfold ftx;split
 ·rename_i h
  rw[QD];exact h.2
 ·exact Nat.zero_le _
def opA(o:Option ByteArray)(e:Ending):Prop:=match o with
 | some t=>e= D (g #[d t,C true])
 | none=>e= D (g #[d ⟨#[]⟩,C false])
theorem Us{t:ByteArray}(h:t.size=0):t.toList.isEmpty=true:=by
 rw[Za h,ByteArray.toList_eq];rfl
theorem Gs(s:ByteArray)(w:G)(hs:s.size<=maxLen)(hg:GI w):Calls prog 146 #[d s] w fun e w'=>opA (fsT (rdF s)) e/\E w.heap.size w w':=by
 have HG:Hid (GI w):=hg;have HS:Hid (s.size<=maxLen):=hs;clear hg;go_enter func146,ntmps146;go_wp2_with fail
 refine(JD s w HS.out HG.out).mono ?_;rintro _ w1 ⟨hb,(⟨hr,rfl⟩ | ⟨out,v,ys,hr,rfl,ho,hp,hkd⟩)⟩
 ·have HN:Hid (fsT (rdF s)=none):=by show _=_;rw[hr];rfl
  have K1:Hid (E w.heap.size w w1):=hb;clear hb hr;go_wp2_with fail
  refine(Xn _ (⟨Nat.zero_le _,fun i hi=>by omega⟩:FnRow w1 none 0 (fun _=>dFN)) (by omega) (fun i hi=>by omega) (HG.out.gt.below K1.out)).mono ?_;rintro _ w2 ⟨rfl,hb2⟩;have K2:=hd (Qb K1.out hb2);obtain⟨t,HT⟩: ∃t,Hid (ftx (fun _=>dFN) 0=t):=⟨_,rfl⟩;rw[HT.out];clear hb2;go_wp2_with fail
  refine f (v:= g #[d ⟨#[]⟩,C false]) ?_ rfl ⟨by rw[HN.out];rfl,K2.out⟩;simp (maxDischargeDepth:=9) [B,results146,go_sem, *]
 ·obtain⟨g0,_,_⟩:=XL hr;obtain⟨A,cap,rfl,h1⟩:=YF ho hp (Uo g0).1;have h5:Hid (FnRow w1 A out.length (ouF out)):=h1;have h4:Hid (∀i,i<out.length->(ouF out i).kids.length<=1048576):=(Uo g0).2;have HN:Hid (out.length<=1048576):=by show _<=_;have:=Yn g0;omega
  have K1:Hid (E w.heap.size w w1):=hb;obtain⟨t,HT⟩: ∃t,Hid (ftx (ouF out) out.length=t):=⟨_,rfl⟩;have HF:Hid (fsT (rdF s)=if t.size=0 then none else some ((⟨#[61]⟩:ByteArray)++t)):=by show _=_;rw[hr,<-HT.out];rfl
  have h3:Hid (t.size<=200):=by show _<=_;rw[<-HT.out];exact KH _ _
  clear hb hr ho hp hkd h1 g0;go_wp2_with fail
  refine(Xn _ h5.out HN.out h4.out (HG.out.gt.below K1.out)).mono ?_;rintro _ w2 ⟨rfl,hb2⟩;have K2:=hd (Qb K1.out hb2);rw[HT.out];clear hb2;by_cases h0:t.size=0
  ·have h2:t.toList.isEmpty=true:=Us h0;have HN:Hid (fsT (rdF s)=none):=by show _=_;rw[HF.out,pS h0]
   clear h0;go_wp2_with fail
   refine f (v:= g #[d ⟨#[]⟩,C false]) ?_ rfl ⟨by rw[HN.out];rfl,K2.out⟩;simp (maxDischargeDepth:=9) [B,results146,go_sem, *]
  ·have h2:t.toList.isEmpty=false:=QZ (by omega);have HN:Hid (fsT (rdF s)=some ((⟨#[61]⟩:ByteArray)++t)):=by show _=_;rw[HF.out,nG h0]
   have z1: ¬9223372036854775807<1+t.size:=by have:=h3.out;omega
   clear h0;go_wp2_with fail
   refine f (v:= g #[d ((⟨#[61]⟩:ByteArray)++t),C true]) ?_ rfl ⟨by rw[HN.out];rfl,K2.out⟩;simp (maxDischargeDepth:=9) [B,results146,go_sem, *]
theorem DE(s:ByteArray)(w:G)(hs:s.size<=200)(hw:QJ s=true)(hg:GI w):Calls prog 114 #[d s] w fun e w'=>opA (srT s) e/\E w.heap.size w w':=by
 have HG:Hid (GI w):=hg;have HS:Hid (s.size<=200):=hs;have h3:Hid (s.size<=maxLen):=by show _<=_;unfold maxLen;omega
 obtain⟨c,HC⟩: ∃c,Hid (JP s=c):=⟨_,rfl⟩;obtain⟨b,HB⟩: ∃b,Hid (eqH s=b):=⟨_,rfl⟩;clear hg hw;go_enter func114,ntmps114;go_wp2_with fail
 refine(OK s _ (by omega)).mono ?_;rintro _ w1 ⟨rfl,hw1⟩;obtain rfl:=hw1.symm;clear hw1;rw[HC.out,HB.out];cases b
 rotate_left
 ·have h0:Hid (srT s=fsT (rdF c)):=by show _=_;unfold srT;rw[HB.out,pS rfl,<-HC.out,JP,HB.out];rfl
  have h2:Hid (c.size<=maxLen):=by
   show _<=_;rw[<-HC.out,JP,HB.out];simp only[if_true];rw[ByteArray.size_extract];unfold maxLen;omega
  go_wp2_with fail
  refine(Gs c _ h2.out HG.out).mono ?_;rintro e w2 ⟨he,hb⟩;have K2:Hid (E w.heap.size w w2):=hb;clear hb;cases ho:fsT (rdF c)with
  | none=>
   rw[ho]at he h0;obtain rfl:e= D (g #[d ⟨#[]⟩,C false]):=he;clear ho;go_wp2_with fail
   refine f (v:= g #[d ⟨#[]⟩,C false]) ?_ rfl ⟨by rw[h0.out];rfl,K2.out⟩;simp (maxDischargeDepth:=9) [B,results114,go_sem, *]
  | some t=>
   rw[ho]at he h0;obtain rfl:e= D (g #[d t,C true]):=he;clear ho;go_wp2_with fail
   refine f (v:= g #[d t,C true]) ?_ rfl ⟨by rw[h0.out];rfl,K2.out⟩;simp (maxDischargeDepth:=9) [B,results114,go_sem, *]
 go_wp2_with fail
 refine(UL s _ (by omega) HG.out.vs).mono ?_;rintro _ w2 ⟨(⟨hn,k,n,rfl⟩ | ⟨v,hn,rfl⟩),hb2⟩;rotate_left
 ·have h0:Hid (srT s=some (txV 1 v ⟨#[]⟩)):=by show _=_;unfold srT;rw[HB.out,nG (by simp),hn]
  have K2:Hid (E w.heap.size w w2):=hb2;obtain⟨t,HT⟩: ∃t,Hid (txV 1 v ⟨#[]⟩=t):=⟨_,rfl⟩;rw[HT.out]at h0;clear hb2 hn;go_wp2_with fail
  refine(Kh 1 v ⟨#[]⟩ _ ((HG.out.gt.vt.below K2.out).below (by go_grown)) (by unfold maxLen;show 0<=_;omega)).mono ?_;rintro _ w3 ⟨rfl,hb3⟩;have K3:Hid (E w.heap.size w w3):=Qb (Qb K2.out (by go_grown)) hb3;rw[HT.out];clear hb3;go_wp2_with fail
  refine f (v:= g #[d t,C true]) ?_ rfl ⟨by rw[h0.out];rfl,K3.out⟩;simp (maxDischargeDepth:=9) [B,results114,go_sem, *]
 have h0:Hid (srT s=if gOk (Qu s)=true then some s else some ((⟨#[39]⟩:ByteArray)++s)):=by show _=_;unfold srT;rw[HB.out,nG (by simp),hn]
 have K2:Hid (E w.heap.size w w2):=hb2;clear hb2 hn;go_wp2_with fail
 refine(Ki s _ (by omega) ((HG.out.vs.below K2.out).below (by go_grown))).mono ?_;rintro _ w3 ⟨rfl,hb3⟩;have K3:Hid (E w.heap.size w w3):=Qb (Qb K2.out (by go_grown)) hb3;clear hb3;obtain⟨q,HQ⟩: ∃q,Hid (Qu s=q):=⟨_,rfl⟩;rw[HQ.out]at h0 ⊢;unfold rvT
 cases hq:gOk q
 ·have h1:Hid (srT s=some ((⟨#[39]⟩:ByteArray)++s)):=by show _=_;rw[h0.out,nG (by rw[hq];simp)]
  simp only[Bool.false_eq_true,if_false];clear hq;go_wp2_with fail
  refine(GO s _ (by omega)).mono ?_;rintro _ w4 ⟨rfl,hw4⟩
  have K4:Hid (E w.heap.size w w4):=by
   show E _ _ _;rw[hw4];exact Qb K3.out (by go_grown)
  clear hw4;go_wp2_with fail
  refine f (v:= g #[d ((⟨#[39]⟩:ByteArray)++s),C true]) ?_ rfl ⟨by rw[h1.out];rfl,K4.out⟩;simp (maxDischargeDepth:=9) [B,results114,go_sem, *]
 ·have h1:Hid (srT s=some s):=by show _=_;rw[h0.out,pS hq]
  simp only[if_true];obtain⟨q1,q2,q3⟩:=q;simp only;clear hq;go_wp2_with fail
  refine f (v:= g #[d s,C true]) ?_ rfl ⟨by rw[h1.out];rfl,Qb K3.out (by go_grown)⟩;simp (maxDischargeDepth:=9) [B,results114,go_sem, *]
theorem Vk(s:ByteArray)(w:G)(hs:s.size<=maxLen)(hg:GI w):Calls prog 69 #[d s] w fun e w'=>opA (inF s) e/\E w.heap.size w w':=by
 have HG:Hid (GI w):=hg;have HS:Hid (s.size<=maxLen):=hs;clear hg;by_cases h0:s.size<=200
 rotate_left
 ·have q1:(200:Int)<(s.size:Int):=by omega
  have HN:Hid (inF s=none):=by show _=_;unfold inF QJ;rw[decide_eq_false h0];rfl
  go_enter func69,ntmps69;go_wp2_with fail
  refine f (v:= g #[d ⟨#[]⟩,C false]) ?_ rfl ⟨by rw[HN.out];rfl,H _ _⟩;simp (maxDischargeDepth:=9) [B,results69,go_sem, *]
 have q1: ¬(200:Int)<(s.size:Int):=by omega
 have q1':decide ((200:Int)<(s.size:Int))=false:=by simpa using q1
 obtain⟨b,HB⟩: ∃b,Hid (Yb s.data.toList=b):=⟨_,rfl⟩;have h2:Hid (QJ s=b):=by show _=_;unfold QJ;rw[decide_eq_true h0,HB.out];rfl
 go_enter func69,ntmps69;go_wp2_with fail
 refine(Vi s _ HS.out).mono ?_;rintro _ w0 ⟨rfl,hw0⟩;obtain rfl:=hw0.symm;clear hw0;rw[HB.out];cases b
 ·have HN:Hid (inF s=none):=by show _=_;unfold inF;rw[h2.out];rfl
  go_wp2_with fail
  refine f (v:= g #[d ⟨#[]⟩,C false]) ?_ rfl ⟨by rw[HN.out];rfl,H _ _⟩;simp (maxDischargeDepth:=9) [B,results69,go_sem, *]
 have h1:Hid (inF s=lim (srT s)):=by show _=_;unfold inF;rw[h2.out];rfl
 go_wp2_with fail
 refine(DE s _ h0 h2.out HG.out).mono ?_;rintro e w1 ⟨he,hb⟩;have K1:Hid (E w.heap.size w w1):=hb;clear hb;cases ho:srT s with
 | none=>
  rw[ho]at he h1;obtain rfl:e= D (g #[d ⟨#[]⟩,C false]):=he;have HN:Hid (inF s=none):=h1.out;clear ho;go_wp2_with fail
  refine f (v:= g #[d ⟨#[]⟩,C false]) ?_ rfl ⟨by rw[HN.out];rfl,K1.out⟩;simp (maxDischargeDepth:=9) [B,results69,go_sem, *]
 | some t=>
  rw[ho]at he h1;obtain rfl:e= D (g #[d t,C true]):=he;have HL:Hid (inF s=if t.size<=200 then some t else none):=h1.out;clear ho h1;by_cases ht:t.size<=200
  ·have q3: ¬(200:Int)<(t.size:Int):=by omega
   have HN:Hid (inF s=some t):=by show _=_;rw[HL.out,pS ht]
   go_wp2_with fail
   refine f (v:= g #[d t,C true]) ?_ rfl ⟨by rw[HN.out];rfl,K1.out⟩;simp (maxDischargeDepth:=9) [B,results69,go_sem, *]
  ·have q3:(200:Int)<(t.size:Int):=by omega
   have HN:Hid (inF s=none):=by show _=_;rw[HL.out,nG ht]
   go_wp2_with fail
   refine f (v:= g #[d ⟨#[]⟩,C false]) ?_ rfl ⟨by rw[HN.out];rfl,K1.out⟩;simp (maxDischargeDepth:=9) [B,results69,go_sem, *]
end Go.Proofs.YtomadadmakdkgaaGreatDoor
