import Derived.Test.YtomadadmakdkgaaGreatDoorMn
import Derived.Test.YtomadadmakdkgaaGreatDoorGat
import Derived.Test.YtomadadmakdkgaaGreatDoorGan
open Go.Proofs.Tryz
open Go.RowKit.Below renaming refl → d
open Go.Value renaming string → f, int → A, slice → K, agg → M
open Go.IntKind renaming i64 → B
open List renaming length_append → C, length_cons → G, length_nil → I
open Option.some renaming injEq → D
open Go.RowKit renaming Below → E
open Or renaming inl → F, inr → H
open Go.Ending renaming returned → J
open Go.Obj renaming cells → L
set_option linter.unusedSimpArgs false
set_option linter.unusedVariables false
set_option maxHeartbeats 8000000
set_option maxRecDepth 100000
namespace Go.Proofs.YtomadadmakdkgaaGreatDoor
open Go.RowKit
variable {s:ByteArray}
def sgN(l:List UInt8):Nat:=if l.head? =some 40\/l.head? =some 41\/l.head? =some 44\/l.head? =some 58 then 1 else(sgT (Zg l)).length
theorem Qrk: ∀k:Fin 256,decide (0<=Lib.indexByte [40,41,44,58] (UInt8.ofNat k.val))=decide (UInt8.ofNat k.val=40\/UInt8.ofNat k.val=41\/UInt8.ofNat k.val=44\/UInt8.ofNat k.val=58):=by decide+kernel
theorem Qmb(b:UInt8):decide (0<=Lib.indexByte [40,41,44,58] b)=decide (b=40\/b=41\/b=44\/b=58):=by
 have h:=Qrk ⟨b.toNat,b.toNat_lt⟩;simp only[UInt8.ofNat_toNat]at h;exact h
theorem Qq3{k:Nat}{l:List UInt8}(h:(sgT (k:Int)).isPrefixOf l=true):lnG (k+1) l=max (lnG k l) (sgT (k:Int)).length:=by rw[lnG,pS h]
theorem Qui{k:Nat}{l:List UInt8}(h:(sgT (k:Int)).isPrefixOf l=false):lnG (k+1) l=lnG k l:=by rw[lnG,nG (by rw[h];simp)]
theorem Nj(s:ByteArray)(w:World)(h0:0<s.size)(hs:s.size<=1000)(ho:OT w):Calls prog 264 #[f s] w fun e w'=>
  e= J (A B (sgN s.data.toList:Nat))/\E w.heap.size w w':=by
 have q0:(0:Int)<(s.size:Int):=by omega
 have HH:Hid (s.data.toList.head? =some s[0]):=Yx h0;obtain⟨cs,h2,h8,h3⟩:=Qnm ho;have H4:Hid (cs.length=24):=h2;have HR:Hid (w.rangeAt 0 0 cs):=h8;have H5:Hid (∀k:Nat,k<12-> ∀w:World,(Instr.index 217 (.agg cs.toArray) (A B (k:Int))).run prog w= .ok (M #[f (bs (sgT (k:Int))),A B (bnO k)]) w):=h3;clear h2 h8 h3;obtain⟨ix,h3⟩: ∃ix,Lib.indexByte (⟨#[40,41,44,58]⟩:ByteArray).data.toList ((s[0].toNat:Int)).toNat.toUInt8=ix:=⟨_,rfl⟩
 have h6:Hid (Lib.indexByte (⟨#[40,41,44,58]⟩:ByteArray).data.toList ((s[0].toNat:Int)).toNat.toUInt8=ix):=h3;clear h3
 have HI:Hid (0<=ix↔(s[0]=40\/s[0]=41\/s[0]=44\/s[0]=58)):=by
  have h:=Qmb s[0];rw[decide_eq_decide]at h;show _↔_;rw[<-h,<-h6.out,Int.toNat_natCast,show s[0].toNat.toUInt8=s[0]from UInt8.ofNat_toNat]
 clear ho;go_enter func264,ntmps264;go_wp2_with fail
 refine(Tryz.strings_IndexByte _ _ _).mono ?_;rintro _ w1 ⟨rfl,h1⟩;obtain rfl:=h1.symm;clear h1;rw[h6.out];by_cases hi:0<=ix
 ·have HE:Hid (sgN s.data.toList=1):=by
   show _=_;unfold sgN;rw[pS];rw[HH.out];have h9:=HI.out.1 hi;simp only[D];exact h9
  go_wp2_with fail
  go_ret;exact⟨by rw[HE.out];rfl,d _ _⟩
 ·have HE:Hid (sgN s.data.toList=lnG 12 s.data.toList):=by
   show _=_;unfold sgN;rw[nG,Quh];rw[HH.out];simp only[D];exact fun h=>hi (HI.out.2 h)
  clear HI h6 HH;obtain⟨l,HL⟩: ∃l,Hid (s.data.toList=l):=⟨_,rfl⟩;have H6:Hid (sgN s.data.toList=lnG 12 l):=by show _=_;rw[HE.out,HL.out]
  go_wp2_with (refine wpList_load_mid rfl 217 (.global 0) rfl 0 0 rfl cs _ HR.out underlying217 rfl (by rw[H4.out];kernel_rfl) ?_)
  generalize (Value.agg cs.toArray)=tb at*
  go_loopw [3,11] (fun a b wr=> ∃k:Nat,k<=12/\a= A B (lnG k l:Nat)/\b= A B (k:Nat)/\E w.heap.size w wr) (fun _ b _=>12-(intOf b).toNat)
  case atStart=>exact⟨0,Nat.zero_le _,rfl,rfl,d _ _⟩
  case round=>
   obtain⟨k,hk,rfl,rfl,H0⟩:=hrel;have h4:Hid (E w.heap.size w wr):=H0;clear H0;by_cases H2:k<12
   ·have q1:(k:Int)<12:=by omega
    have h1:IntKind.i64.wrap ((k:Int)+1)=(k:Int)+1:=by rw[IntKind.wrap_i64];omega
    obtain⟨x,HX⟩: ∃x,Hid (bs (sgT (k:Int))=x):=⟨_,rfl⟩;obtain⟨y,HY⟩: ∃y,Hid (bnO k=y):=⟨_,rfl⟩;have h7:Hid (∀w:World,(Instr.index 217 tb (A B (k:Int))).run prog w= .ok (M #[f x,A B y]) w):=fun w=>by rw[<-HX.out,<-HY.out];exact H5.out k H2 w
    have H3:Hid (x.size=(sgT (k:Int)).length):=by show _=_;rw[<-HX.out];rfl
    have H1:Hid (x.data.toList=sgT (k:Int)):=by show _=_;rw[<-HX.out];rfl
    obtain⟨g,HG⟩: ∃g,Hid (lnG k l=g):=⟨_,rfl⟩;rw[HG.out];cases hp:(sgT (k:Int)).isPrefixOf l
    ·have HP:Hid (Lib.hasPrefix s.data.toList x.data.toList=false):=by show _=_;rw[Lib.hasPrefix,HL.out,H1.out];exact hp
     have HN:Hid (lnG (k+1) l=g):=by show _=_;rw[Qui hp,HG.out]
     clear hp
     go_wp2_with (first
      | (refine Zf rfl _ _ _ rfl tb (A B (k:Int)) _ rfl rfl (h7.out _) ?_)
      | (go_at_call 277;refine(Tryz.strings_HasPrefix _ _ _).mono ?_;rintro e w1 ⟨rfl,h1⟩;obtain rfl:=h1.symm;clear h1;rw[HP.out]))
     exact⟨⟨k+1,by omega,by rw[HN.out],by simp,Qb h4.out (by go_grown)⟩,by simp[intOf];omega⟩
    ·have HP:Hid (Lib.hasPrefix s.data.toList x.data.toList=true):=by show _=_;rw[Lib.hasPrefix,HL.out,H1.out];exact hp
     have HN:Hid (lnG (k+1) l=max g x.size):=by show _=_;rw[Qq3 hp,HG.out,H3.out]
     clear hp;by_cases hmx:g<x.size
     ·have q3:(g:Int)<(x.size:Int):=by omega
      have h5:Hid (lnG (k+1) l=x.size):=by show _=_;rw[HN.out];omega
      go_wp2_with (first
       | (refine Zf rfl _ _ _ rfl tb (A B (k:Int)) _ rfl rfl (h7.out _) ?_)
       | (go_at_call 277;refine(Tryz.strings_HasPrefix _ _ _).mono ?_;rintro e w1 ⟨rfl,h1⟩;obtain rfl:=h1.symm;clear h1;rw[HP.out]))
      exact⟨⟨k+1,by omega,by rw[h5.out];congr 1;omega,by simp,Qb h4.out (by go_grown)⟩,by simp[intOf];omega⟩
     ·have q3: ¬(g:Int)<(x.size:Int):=by omega
      have q4:(x.size:Int)<=(g:Int):=by omega
      have h5:Hid (lnG (k+1) l=g):=by show _=_;rw[HN.out];omega
      go_wp2_with (first
       | (refine Zf rfl _ _ _ rfl tb (A B (k:Int)) _ rfl rfl (h7.out _) ?_)
       | (go_at_call 277;refine(Tryz.strings_HasPrefix _ _ _).mono ?_;rintro e w1 ⟨rfl,h1⟩;obtain rfl:=h1.symm;clear h1;rw[HP.out]))
      exact⟨⟨k+1,by omega,by rw[h5.out];congr 1;omega,by simp,Qb h4.out (by go_grown)⟩,by simp[intOf];omega⟩
   ·obtain rfl:k=12:=by omega
    go_wp2_with fail
    go_ret;exact⟨by rw[H6.out];rfl,h4.out⟩
theorem Yd(h:0<s.size):s.data.toList=s[0]::rest s 1:=by
 rw[<-Zk s 0 h];exact List.drop_zero.symm
theorem Qke(h:0<s.size)(hb:s[0]=34):XA s.data.toList=qN s 1:=by
 rw[Yd h,ZD,pS hb];unfold qN qNo;have hz:(rest s 1).length+1=s.size:=by rw[Ye];omega
 cases ZE (rest s 1)with
 | none=>rfl
 | some x=>simp only;rw[hz]
theorem Qkf(h:0<s.size)(hb:s[0]=35):XA s.data.toList=(erL (Xd s.data.toList)).length:=by
 conv=>lhs;rw[Yd h]
 rw[ZD,nG (by rw[hb];decide),pS hb,<-Yd h]
theorem Qhy(h:0<s.size)(h1:s[0]≠34)(h2:s[0]≠35)(hw:isW s[0]=true):XA s.data.toList=((rest s 0).takeWhile isW).length:=by
 conv=>lhs;rw[Yd h]
 rw[ZD,nG h1,nG h2,pS hw,<-Yd h];rfl
theorem Qhz(h:0<s.size)(h1:s[0]≠34)(h2:s[0]≠35)(hw:isW s[0]=false):XA s.data.toList=sgN s.data.toList:=by
 conv=>lhs;rw[Yd h]
 rw[ZD,nG h1,nG h2,nG (by rw[hw];simp),<-Yd h];unfold sgN;rw[Yx h];simp only[D]
def Qxh(n:Nat)(w:World)(e:Ending)(w':World):Prop:=((n≠0/\e= J (A B (n:Nat)))\/(n=0/\e= .panicked noF))/\E w.heap.size w w'
theorem Mz(s:ByteArray)(w:World)(h0:0<s.size)(hs:s.size<=1000)(ho:OT w):Calls prog 241 #[f s] w (Qxh (XA s.data.toList) w):=by
 have q0:(0:Int)<(s.size:Int):=by omega
 have HO:Hid (OT w):=ho;have H0:Hid (0<s.size/\s.size<=1000):=⟨h0,hs⟩;clear ho;have h1: ∀c:UInt8,s[0]≠c-> ¬(s[0].toNat:Int)=(c.toNat:Int):=fun c h e=>h (UInt8.toNat_inj.1 (by omega));by_cases h2:s[0]=34
 ·have hb:(s[0].toNat:Int)=34:=by rw[h2];rfl
  obtain⟨n,HN⟩: ∃n,Hid (XA s.data.toList=n):=⟨_,rfl⟩;have HQ:Hid (qN s 1=n):=by show _=_;rw[<-Qke h0 h2,HN.out]
  rw[HN.out];clear h2 h1;go_enter func241,ntmps241;go_wp2_with fail
  refine(UM s _ H0.out.2 H0.out.1).mono ?_;rintro _ w1 ⟨rfl,hw1⟩;obtain rfl:=hw1.symm;clear hw1;rw[HQ.out];by_cases hn:n=0
  ·subst hn;go_wp2_with fail
   refine(ZN _).mono ?_;rintro _ w2 ⟨rfl,hw2⟩;obtain rfl:=hw2.symm;clear hw2;go_wp2_with fail
   exact⟨rfl,H ⟨rfl,rfl⟩,d _ _⟩
  ·have q1: ¬(n:Int)=0:=by omega
   have q2:((n:Int)==0)=false:=by simpa using q1
   have h4:Hid (n≠0):=hn;clear hn;go_wp2_with fail
   go_ret;exact⟨F ⟨h4.out,rfl⟩,d _ _⟩
 have hb: ¬(s[0].toNat:Int)=34:=h1 34 h2;have hb':((s[0].toNat:Int)==34)=false:=by simpa using hb
 by_cases h3:s[0]=35
 ·have hc:(s[0].toNat:Int)=35:=by rw[h3];rfl
  obtain⟨n,HN⟩: ∃n,Hid (XA s.data.toList=n):=⟨_,rfl⟩;have HQ:Hid ((erL (Xd s.data.toList)).length=n):=by show _=_;rw[<-Qkf h0 h3,HN.out]
  rw[HN.out];clear h2 h3 h1;go_enter func241,ntmps241;go_wp2_with fail
  refine(MD s _).mono ?_;rintro _ w1 ⟨rfl,hw1⟩;obtain rfl:=hw1.symm;clear hw1;rw[HQ.out];by_cases hn:n=0
  ·subst hn;go_wp2_with fail
   refine(ZN _).mono ?_;rintro _ w2 ⟨rfl,hw2⟩;obtain rfl:=hw2.symm;clear hw2;go_wp2_with fail
   exact⟨rfl,H ⟨rfl,rfl⟩,d _ _⟩
  ·have q1: ¬(n:Int)=0:=by omega
   have q2:((n:Int)==0)=false:=by simpa using q1
   have h4:Hid (n≠0):=hn;clear hn;go_wp2_with fail
   go_ret;exact⟨F ⟨h4.out,rfl⟩,d _ _⟩
 have hc: ¬(s[0].toNat:Int)=35:=h1 35 h3;have hc':((s[0].toNat:Int)==35)=false:=by simpa using hc
 cases hw:isW s[0]
 ·obtain⟨n,HN⟩: ∃n,Hid (XA s.data.toList=n):=⟨_,rfl⟩;have HQ:Hid (sgN s.data.toList=n):=by show _=_;rw[<-Qhz h0 h2 h3 hw,HN.out]
  have HW:Hid (isW s[0]=false):=hw;rw[HN.out];clear h2 h3 h1 hw;go_enter func241,ntmps241;go_wp2_with fail
  refine(Xu s[0] _).mono ?_;rintro _ w1 ⟨rfl,hw1⟩;obtain rfl:=hw1.symm;clear hw1;rw[HW.out];go_wp2_with fail
  refine(Nj s _ H0.out.1 H0.out.2 HO.out).mono ?_;rintro _ w2 ⟨rfl,hb2⟩;have HB:Hid (E w.heap.size w w2):=hb2;clear hb2;rw[HQ.out];by_cases hn:n=0
  ·subst hn;go_wp2_with fail
   refine(ZN _).mono ?_;rintro _ w3 ⟨rfl,hw3⟩;obtain rfl:=hw3.symm;clear hw3;go_wp2_with fail
   exact⟨rfl,H ⟨rfl,rfl⟩,HB.out⟩
  ·have q1: ¬(n:Int)=0:=by omega
   have q2:((n:Int)==0)=false:=by simpa using q1
   have h4:Hid (n≠0):=hn;clear hn;go_wp2_with fail
   go_ret;exact⟨F ⟨h4.out,rfl⟩,HB.out⟩
 ·obtain⟨n,HN⟩: ∃n,Hid (XA s.data.toList=n):=⟨_,rfl⟩;have HQ:Hid (((rest s 0).takeWhile isW).length=n):=by show _=_;rw[<-Qhy h0 h2 h3 hw,HN.out]
  have HW:Hid (isW s[0]=true):=hw;rw[HN.out];clear h2 h3 h1 hw;go_enter func241,ntmps241;go_wp2_with fail
  refine(Xu s[0] _).mono ?_;rintro _ w1 ⟨rfl,hw1⟩;obtain rfl:=hw1.symm;clear hw1;rw[HW.out];go_wp2_with fail
  refine(Ni s _ H0.out.2).mono ?_;rintro _ w2 ⟨rfl,hw2⟩;obtain rfl:=hw2.symm;clear hw2;rw[HQ.out];by_cases hn:n=0
  ·subst hn;go_wp2_with fail
   refine(ZN _).mono ?_;rintro _ w3 ⟨rfl,hw3⟩;obtain rfl:=hw3.symm;clear hw3;go_wp2_with fail
   exact⟨rfl,H ⟨rfl,rfl⟩,d _ _⟩
  ·have q1: ¬(n:Int)=0:=by omega
   have q2:((n:Int)==0)=false:=by simpa using q1
   have h4:Hid (n≠0):=hn;clear hn;go_wp2_with fail
   go_ret;exact⟨F ⟨h4.out,rfl⟩,d _ _⟩
theorem infoStr:(prog.info? 9).map (fun i=>(i.zero,i.size,i.bytes))=some (some (f ⟨#[]⟩),1,16):=by kernel_rfl
theorem Qsh{ops:Array Oper}{rest:List Oper}{o:Oper}{a:Act}{Q:Exit->Act->World->Prop}(w:World)(hgd:o.guard=none)(s x:Operand)
  (ho:o.op= .call {callee:= .builtin .append,args:= #[s,x],argTypes:= #[157,157]}) (v:Value) (hs:a.eval s=v) (base:Nat) (hb:base<=w.heap.size) (n:Nat) (ys:List Value) (hown:w.ownsRow base 9 1 v n ys)
  (z:ByteArray) (g:Nat) (hx:a.eval x= K (some ⟨g,0,none⟩) 1 1) (hc:w.heap[g]? =some (L #[f z] 9 (0,0))) (hk:n<=30000)
  (h: ∀gg cap w',w'.ownsRow base 9 1 (K (some ⟨gg,0,none⟩) (n+1) cap) (n+1) (ys++ [f z])->w.grownBy w' v.ownBlock->(v.ownBlock=some gg\/gg=w.heap.size)->gg<w'.heap.size->wpList prog ops Q rest (a.put o.dst (K (some ⟨gg,0,none⟩) (n+1) cap)) w'):wpList prog ops Q (o::rest) a w:=by
 obtain⟨i0,h3,h2,h1,h0⟩:=info_parts infoStr;refine wpList_append_lies w hgd s x 157 ho base 9 i0 _ 1 16 underlying157 h3 h2 h1 h0 rfl (by decide) v n ys hs hown ⟨g,0,none⟩ 1 1 [f z] hx rfl ?_ ?_ (by decide) ?_ ?_ hb w.heap.size rfl h
 ·exact World.news_of_block hc
 ·intro u hu;simp only[List.mem_cons,List.not_mem_nil,or_false]at hu;rw[hu];rfl
 ·unfold maxLen;omega
 ·omega
def pcV(ws:List (List UInt8)):List Value:=ws.map fun l=> f (bs l)
def Qvs(l:List UInt8)(w:World)(e:Ending)(w':World):Prop:=((∃ws v,Xh 1001 l=some ws/\e= J v/\w'.ownsRow w.heap.size 9 1 v ws.length (pcV ws))\/(Xh 1001 l=none/\e= .panicked noF))/\E w.heap.size w w'
def Qa3(v:Value):Nat:=match v with
 | f s=>s.size
 | _=>0
theorem Qkc(m:Nat)(l:List UInt8):Xh m (sb l)=Xh m l:=by
 cases m with
 | zero=>rfl
 | succ m=>rw[Xh,Xh,Zj,Qa2]
theorem Qjg(t:ByteArray)(n:Nat)(h:n<=t.size):t.extract 0 n=bs (t.data.toList.take n):=by
 rw[Jj t 0 n (Nat.zero_le _)];rfl
theorem Ur(t:ByteArray)(n:Nat)(h:n<=t.size):(t.extract n t.size).data.toList=t.data.toList.drop n:=by
 rw[Jj t n t.size h];show((rest t n).take (t.size-n))=_;rw[List.take_of_length_le (by rw[Ye];omega)];rfl
theorem DF(s0:ByteArray)(w:World)(hs:s0.size<=1000)(ho:OT w):Calls prog 216 #[f s0] w (Qvs s0.data.toList w):=by
 have HO:Hid (OT w):=ho;obtain⟨l0,g4⟩: ∃l,Hid (s0.data.toList=l):=⟨_,rfl⟩;rw[g4.out];clear ho;go_enter func216,ntmps216;go_wp2_with fail
 go_loopw [0,3] (fun a p wr=> ∃s ws,a= f s/\ws.length+s.size<=1000/\wr.ownsRow w.heap.size 9 1 p ws.length (pcV ws)/\E w.heap.size w wr/\Xh 1001 l0=(Xh (1001-ws.length) s.data.toList).map (fun r=>ws++r)) (fun a _ _=>Qa3 a)
 case atStart=>exact⟨s0,[],rfl,by simpa using hs,⟨rfl,F ⟨rfl,rfl⟩⟩,d _ _,by rw[g4.out];cases Xh 1001 l0<;>rfl⟩
 case round=>
  obtain⟨s,ws,rfl,H7,h4,H8,H0⟩:=hrel;have H2:Hid (ws.length+s.size<=1000):=H7;have g1:Hid (wr.ownsRow w.heap.size 9 1 u3 ws.length (pcV ws)):=h4;have h5:Hid (E w.heap.size w wr):=H8;obtain⟨j,HJ⟩: ∃j,Hid (1001-ws.length=j+1):=⟨1000-ws.length,by show _=_;omega⟩;rw[HJ.out,<-Qkc (j+1) s.data.toList]at H0;have h6:Hid (Xh 1001 l0=(Xh (j+1) (sb s.data.toList)).map (fun r=>ws++r)):=H0
  obtain⟨l,HL⟩: ∃l,Hid (sb s.data.toList=l):=⟨_,rfl⟩;rw[HL.out]at h6;have H4:Hid (sb l=l):=by show _=_;rw[<-HL.out,Zj]
  have H6:Hid (l.length<=s.size):=by show _<=_;rw[<-HL.out];exact Xr _
  obtain⟨t,HT⟩: ∃t,Hid (bs l=t):=⟨_,rfl⟩;have G0:Hid ((⟨(Lib.trimLeftB s.data.toList 32).toArray⟩:ByteArray)=t):=by show _=_;rw[<-HT.out,<-HL.out];rfl
  have H1:Hid (t.data.toList=l):=by show _=_;rw[<-HT.out];rfl
  have h3:Hid (t.size=l.length):=by show _=_;rw[<-HT.out];rfl
  clear H7 h4 H8 H0;go_wp2_with fail
  refine(Tryz.strings_TrimLeft_one s 32 (by decide) _).mono ?_;rintro _ w1 ⟨rfl,hw1⟩;obtain rfl:=hw1.symm;clear hw1;rw[G0.out];by_cases hl:l= []
  ·have g6:t.toList.isEmpty=true:=by rw[<-HT.out,ByteArray.toList_eq,hl];rfl
   have HE:Hid (Xh 1001 l0=some ws):=by show _=_;rw[h6.out,Qkd (by rw[H4.out];exact hl)];simp
   clear hl;go_wp2_with fail
   go_ret;exact⟨F ⟨ws,u3,HE.out,rfl,g1.out⟩,h5.out⟩
  ·have g6:t.toList.isEmpty=false:=by
    rw[<-HT.out,ByteArray.toList_eq];show l.isEmpty=false;cases hq:l with
    | nil=>exact absurd hq hl
    | cons a t=>rfl
   have HZ:Hid (0<t.size):=by show _<_;rw[h3.out];exact List.length_pos_iff.2 hl
   have H3:Hid (Xh (j+1) l=if XA l=0 then none else(Xh j (l.drop (XA l))).map fun ws=>l.take (XA l)::ws):=by
    have h9:=Qhx (m:=j) (l:=l) (by rw[H4.out];exact hl);rw[H4.out]at h9;exact h9
   clear hl;have g9:Hid (t.size<=1000):=by show _<=_;have a1:=h3.out;have a2:=H6.out;have a3:=H2.out;omega
   have G1:Hid (OT wr):=(fun m hm=>⟨(h5.out.cell (p:=⟨0,_,none⟩) HO.out.lt).trans (HO.out m hm).1,(h5.out.cell (p:=⟨0,_,none⟩) HO.out.lt).trans (HO.out m hm).2⟩);go_wp2_with fail
   refine(Mz t _ HZ.out g9.out G1.out).mono ?_;rw[H1.out];obtain⟨n,HN⟩: ∃n,Hid (XA l=n):=⟨_,rfl⟩;rw[HN.out]at H3 ⊢;rintro _ w2 ⟨(⟨hn,rfl⟩ | ⟨hn,rfl⟩),hb2⟩;rotate_left
   ·have HE:Hid (Xh 1001 l0=none):=by show _=_;rw[h6.out,H3.out,pS hn];rfl
    have h8:=hd (Qb h5.out hb2);clear hn hb2;go_wp2_with fail
    exact⟨rfl,H ⟨HE.out,rfl⟩,h8.out⟩
   have h7:Hid (n<=t.size):=by show _<=_;rw[h3.out,<-HN.out];exact Qfx l
   have HE:Hid (Xh 1001 l0=(Xh (1001-(ws++ [l.take n]).length) (l.drop n)).map (fun r=>ws++ [l.take n]++r)):=by
    show _=_;rw[h6.out,H3.out,nG hn,C,show 1001-(ws.length+ [l.take n].length)=j by have:=HJ.out;simp only[G,I];omega];cases Xh j (l.drop n)with
    | none=>rfl
    | some q=>simp
   have h8:=hd (Qb h5.out hb2);have h0:=hd (Qd g1.out hb2);obtain⟨q1,q2,q3⟩:(0:Int)<=(n:Int)/\(n:Int)<=(t.size:Int)/\(t.size:Int)<=(t.size:Int):=by have:=h7.out;omega
   obtain⟨u,HU⟩: ∃u,Hid (t.extract 0 n=u):=⟨_,rfl⟩;have g8:Hid (u=bs (l.take n)):=by show _=_;rw[<-HU.out,Qjg t n h7.out,H1.out]
   obtain⟨y,HY⟩: ∃y,Hid (t.extract n t.size=y):=⟨_,rfl⟩;have g0:Hid (y.data.toList=l.drop n):=by show _=_;rw[<-HY.out,Ur t n h7.out,H1.out]
   have H9:Hid (y.size+n=t.size):=by
    show _=_;have h9:y.size=(l.drop n).length:=by rw[<-g0.out];rfl
    have a1:=h3.out;have a2:=h7.out;rw[h9,List.length_drop];omega
   have hu:=HU.out;have hy:=HY.out;have g2:Hid (n≠0):=hn;have g7:Hid (w.heap.size<=w2.heap.size):=h8.out.size;have g5:Hid (ws.length<=30000):=by show _<=_;have:=H2.out;omega
   obtain⟨nw,g3⟩: ∃nw,Hid (ws.length=nw):=⟨_,rfl⟩;rw[g3.out]at h0 g5;clear hn hb2;go_wp2_with (at_builtin;refine Qsh _ rfl _ _ rfl u3 rfl w.heap.size ?hb nw (pcV ws) ?hw u w2.heap.size rfl ?hc g5.out ?_)
   case hb=>have:=g7.out;simp;omega
   case hw=>exact h0.out.alloc _
   case hc=>exact heap_alloc_new _ _
   intro gg gcap w3 hown3 hgrow hat hlt3
   have H5:Hid (w3.ownsRow w.heap.size 9 1 (K (some ⟨gg,0,none⟩) (nw+1) gcap) (ws++ [l.take n]).length (pcV (ws++ [l.take n]))):=by
    show World.ownsRow _ _ _ _ _ _ _;unfold pcV;rw[List.map_append,C,g3.out,List.map_singleton,<-g8.out];exact hown3
   have G2:Hid (E w.heap.size w w3):=by
    have h1:E w.heap.size w (w2.alloc (L #[f u] 9)):=Qb h8.out (by go_grown);have h2:=h0.out.alloc (L #[f u] 9);exact h1.trans ⟨hgrow.os,hgrow.tape,hgrow.output,hgrow.size,fun q hq=>hgrow.block q (Nat.lt_of_lt_of_le hq h1.size) (fun e=>by have:=(h2.lt q e.symm).1;omega)⟩
   clear hown3 hgrow hat hlt3;go_wp2_with fail
   refine⟨⟨y,ws++ [l.take n],rfl,?_,H5.out,G2.out,by rw[g0.out];exact HE.out⟩,?_⟩
   ·rw[C];have a1:=H9.out;have a2:=g2.out;have a3:=h3.out;have a4:=H6.out;have a5:=H2.out;simp only[G,I];omega
   ·have a1:=H9.out;have a2:=g2.out;have a3:=h3.out;have a4:=H6.out;simp only[Qa3];omega
end Go.Proofs.YtomadadmakdkgaaGreatDoor
