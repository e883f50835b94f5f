import Derived.Test.YtbdhinckiccniaaGreatDoorGai
import Derived.Deep.RegionHeld3
import Derived.Test.YtbdhinckiccniaaGreatDoorGab
import Derived.Test.YtbdhinckiccniaaGreatDoorGaa
import Derived.Test.YtbdhinckiccniaaGreatDoorGaf
import Derived.Test.YtbdhinckiccniaaGreatDoorGah
set_option linter.unusedSimpArgs false
set_option linter.unusedVariables false
set_option maxHeartbeats 4000000
namespace Go.Proofs.YtbdhinckiccniaaGreatDoor
open Go.RowKit
theorem Yu {a b:Value} (h:a=b):Ending.returned a= .returned b:=by rw [h]
def rpC (s:ByteArray):Int:=rdc ((ZL s).extract 0 (Gj (ZL s))).data.toList 0
def rp2 (s:ByteArray):ByteArray:=(ZL s).extract (Gj (ZL s)) (ZL s).size
def rp3 (s:ByteArray):ByteArray:=ZL (rp2 s)
def Xa (c:Int) (o:Option Int):Bool:=o.isSome&&Qh c (o.getD 0)
def sl (b:Bool) (x:Int):Int:=if b then x else 0
def plV (c:Int) (o:Option Int) (x y:Bool):Value:= .tuple #[.agg #[.int .i64 (sl (Xa c o) c),.int .i64 (sl (Xa c o) (o.getD 0)),.bool (Xa c o&&x),.bool (Xa c o&&y)],.bool (Xa c o)]
theorem Nh (s:ByteArray):(rp2 s).size≤s.size:=by
 unfold rp2;rw [ByteArray.size_extract];have:=Vt s;omega
theorem Qbn (s:ByteArray):(rp3 s).size≤s.size:=Nat.le_trans (Vt _) (Nh s)
theorem JU (s:ByteArray) (w:World) (hs:s.size≤1048576) (hv:Vars w):Calls Tryz.prog 137 #[.string s] w fun e w'=>
  e= .returned (plV (rpC s) (Yt (rp3 s).data.toList) (QB s) (QB (rp2 s)))∧Below w.heap.size w w':=by
 have HV:Hid (Vars w):=hv;clear hv;have z1:=Vt s;have z2:=Qge (ZL s);have HZ2:Hid ((rp2 s).size≤1048576):=Nat.le_trans (Nh s) hs;have HZ3:Hid ((rp3 s).size≤1048576):=Nat.le_trans (Qbn s) hs;have e0:(0:Int)≤(Gj (ZL s):Int):=by omega
 have e1:(Gj (ZL s):Int)≤((ZL s).size:Int):=by omega
 go_enter Tryz.func137,Tryz.ntmps137;go_wp2_with fail
 refine(VM s _ (by omega)).mono ?_;rintro e w1 ⟨rfl,rfl⟩;go_wp2_with fail
 refine(KH (ZL s) _ (by omega)).mono ?_;rintro e w1 ⟨rfl,rfl⟩;go_wp2_with fail
 refine(By _ _ (by rw [ByteArray.size_extract];unfold maxLen;omega)).mono ?_;rintro e w1 ⟨rfl,rfl⟩;rw [show rdc ((ZL s).extract 0 (Gj (ZL s))).data.toList 0=rpC s from rfl];go_wp2_with fail
 refine(VM (rp2 s) _ (by have:=HZ2.out;omega)).mono ?_;rintro e w1 ⟨rfl,rfl⟩;rw [show ZL (rp2 s)=rp3 s from rfl];go_wp2_with fail
 refine(Yy (rp3 s) _ (by have:=HZ3.out;omega) (HV.out.below (by go_grown))).mono ?_;rintro e w2 ⟨rfl,hb⟩;obtain⟨hc,hf,hC,hF,hz,hk,l0⟩:=bk1 (w:=w) (by go_grown) (by go_size) hb;have n0: ¬w2.heap.size=w.heap.size:=by omega
 clear hb HV e0 e1 z1 z2;cases ho:Yt (rp3 s).data.toList with
 | none=>
  have HE:Hid (plV (rpC s) (Yt (rp3 s).data.toList) (QB s) (QB (rp2 s))= .tuple #[.agg #[.int .i64 0,.int .i64 0,.bool false,.bool false],.bool false]):=by show plV _ _ _ _=_;rw [ho];rfl
  clear ho;simp only [Option.getD_none,Option.isSome_none];go_wp2_with fail
  all_goals
   refine bodyPost_ret (v:= .tuple #[.agg #[.int .i64 0,.int .i64 0,.bool false,.bool false],.bool false]) ?_ rfl ⟨Yu HE.out.symm,by go_grown⟩;simp (maxDischargeDepth:=9) [results,Tryz.results137,go_sem, *]
 | some v=>
  simp only [Option.getD_some,Option.isSome_some];cases hr:Qh (rpC s) v
  ·have HO:Hid (Qh (rpC s) v=false):=hr;have HE:Hid (plV (rpC s) (Yt (rp3 s).data.toList) (QB s) (QB (rp2 s))= .tuple #[.agg #[.int .i64 0,.int .i64 0,.bool false,.bool false],.bool false]):=by show plV _ _ _ _=_;rw [ho];simp [plV,Xa,hr,sl]
   clear hr ho
   go_wp2_with (first
    | (go_at_call 95;refine(Zi _ _ _).mono ?_;rintro e w3 ⟨rfl,hb⟩;rw [HO.out];obtain⟨hc,hf,hC,hF,hz,hk,l0⟩:=bk1 (w:=w) (by go_grown) (by go_size) hb;clear hb))
   all_goals
    refine bodyPost_ret (v:= .tuple #[.agg #[.int .i64 0,.int .i64 0,.bool false,.bool false],.bool false]) ?_ rfl ⟨Yu HE.out.symm,by go_grown⟩;simp (maxDischargeDepth:=9) [results,Tryz.results137,go_sem, *]
  ·have HO:Hid (Qh (rpC s) v=true):=hr;have HE:Hid (plV (rpC s) (Yt (rp3 s).data.toList) (QB s) (QB (rp2 s))= .tuple #[.agg #[.int .i64 (rpC s),.int .i64 v,.bool (QB s),.bool (QB (rp2 s))],.bool true]):=by show plV _ _ _ _=_;rw [ho];simp [plV,Xa,hr,sl]
   clear hr ho
   go_wp2_with (first
    | (go_at_call 95;refine(Zi _ _ _).mono ?_;rintro e w3 ⟨rfl,hb⟩;rw [HO.out];obtain⟨k0,k1,k2,k3⟩:=kp hb;have l2:w2.heap.size<w3.heap.size:=(Nat.lt_of_lt_of_le (by go_size) hb.size);obtain⟨hc,hf,hC,hF,hz,hk,l0⟩:=bk1 (w:=w) (by go_grown) (by go_size) hb;clear hb))
   all_goals
    refine bodyPost_ret (v:= .tuple #[.agg #[.int .i64 (rpC s),.int .i64 v,.bool (QB s),.bool (QB (rp2 s))],.bool true]) ?_ rfl ⟨Yu HE.out.symm,by go_grown⟩;simp (maxDischargeDepth:=9) [results,Tryz.results137,go_sem, *]
def l1L:List UInt8→Option Int
 | [a]=>if 48≤a.toNat∧a.toNat≤57 then some ((a.toNat:Int)-48)else none
 | [a,b]=>if a.toNat=48 then none else if(48≤a.toNat∧a.toNat≤57)∧(48≤b.toNat∧b.toNat≤57)then some (((a.toNat:Int)-48)*10+((b.toNat:Int)-48))else none
 | _=>none
theorem Qrn (s:ByteArray):l1I s=l1L s.data.toList:=by
 unfold l1I l1L;rfl
theorem Qds: ∀v,v<100→l1L (Lib.itoa ((v:Nat):Int))=some (v:Int):=by decide+kernel
theorem Qkv: ∀v,v<10→Lib.itoa ((v:Nat):Int)= [UInt8.ofNat (48+v)]:=by decide+kernel
theorem Qku: ∀p,p<10→ ∀q,q<10→ ¬p=0→Lib.itoa ((10*p+q:Nat):Int)= [UInt8.ofNat (48+p),UInt8.ofNat (48+q)]:=by decide+kernel
theorem Qar: ∀v,v<100→(match Lib.parseIntB 64 (Lib.itoa ((v:Nat):Int))with | .ok x=>decide (x=(v:Int)) | _=>false)=true:=by decide+kernel
theorem EB (a:UInt8) (n:Nat) (h:a.toNat=n):UInt8.ofNat n=a:=by subst h;simp
theorem Qkq {l:List UInt8} {v:Int} (h:l1L l=some v) (h1:1≤v):v≤99∧Lib.itoa v=l:=by
 match l,h with
 | [a],h=>
  simp only [l1L]at h;split at h
  ·rename_i hd
   have e:v=(a.toNat:Int)-48:=(Option.some.inj h).symm;obtain⟨n,hn⟩: ∃n:Nat,a.toNat=48+n:=⟨a.toNat-48,by omega⟩;have ev:v=(n:Int):=by omega
   refine⟨by omega,?_⟩;rw [ev,Qkv n (by omega),EB a _ hn]
  ·cases h
 | [a,b],h=>
  simp only [l1L]at h;split at h
  ·cases h
  ·rename_i h0
   split at h
   ·rename_i hd
    have e:v=((a.toNat:Int)-48)*10+((b.toNat:Int)-48):=(Option.some.inj h).symm;obtain⟨n,hn⟩: ∃n:Nat,a.toNat=48+n:=⟨a.toNat-48,by omega⟩;obtain⟨m,hm⟩: ∃m:Nat,b.toNat=48+m:=⟨b.toNat-48,by omega⟩;have ev:v=((10*n+m:Nat):Int):=by omega
    refine⟨by omega,?_⟩;rw [ev,Qku n (by omega) m (by omega) (by omega),EB a _ hn,EB b _ hm]
   ·cases h
theorem Qdk {l:List UInt8} {v:Int} (h:l1L l=some v) (h1:1≤v):Yt l=some v:=by
 obtain⟨h2,hi⟩:=Qkq h h1;obtain⟨n,rfl⟩: ∃n:Nat,v=(n:Int):=⟨v.toNat,by omega⟩;have hp:=Qar n (by omega);rw [hi]at hp;cases hq:Lib.parseIntB 64 l with
 | ok x=>
  rw [hq]at hp;simp only [decide_eq_true_eq]at hp;subst hp;exact Ef hq hi
 | «syntax»=>rw [hq]at hp;cases hp
 | range=>rw [hq]at hp;cases hp
theorem Qdg {l:List UInt8} {v:Int} (h:Yt l=some v) (h1:1≤v) (h2:v≤99):l1L l=some v:=by
 unfold Yt at h;split at h
 ·split at h
  ·rename_i hi
   cases h
   obtain⟨n,rfl⟩: ∃n:Nat,v=(n:Int):=⟨v.toNat,by omega⟩;rw [←hi];exact Qds n (by omega)
  ·cases h
 ·cases h
theorem Qmg {c v:Int} (h:Qh c v=true):1≤v∧v≤99:=by
 simp only [Qh,decide_eq_true_eq]at h;omega
theorem Qo9 (c:Int) (s:ByteArray) (x y:Bool):plV c (Yt s.data.toList) x y=plV c (l1I s) x y:=by
 rw [Qrn];cases h1:Xa c (Yt s.data.toList)with
 | true=>
  obtain⟨v,hv,hr⟩: ∃v,Yt s.data.toList=some v∧Qh c v=true:=by
   cases ho:Yt s.data.toList with
   | none=>rw [ho]at h1;cases h1
   | some v=>rw [ho]at h1;exact⟨v,rfl,by simpa [Xa]using h1⟩
  have hb:=Qmg hr;rw [hv,Qdg hv hb.1 hb.2]
 | false=>
  have h2:Xa c (l1L s.data.toList)=false:=by
   cases hq:Xa c (l1L s.data.toList)with
   | false=>rfl
   | true=>
    cases ho:l1L s.data.toList with
    | none=>rw [ho]at hq;cases hq
    | some v=>
     rw [ho]at hq;have hr:Qh c v=true:=by simpa [Xa]using hq
     have hb:=Qmg hr;rw [Qdk ho hb.1]at h1;rw [show Xa c (some v)=Qh c v by simp [Xa]]at h1;rw [hr]at h1;cases h1
  simp [plV,h1,h2,sl]
def bs (l:List UInt8):ByteArray:=⟨l.toArray⟩
theorem Qt (l:List UInt8):(bs l).size=l.length:=rfl
theorem MY (s:ByteArray):bs s.data.toList=s:=rfl
theorem QK (l r:List UInt8):bs l++bs r=bs (l++r):=by apply ByteArray.ext;simp [bs]
theorem Qtu (s:ByteArray) (r:List UInt8):s++bs r=bs (s.data.toList++r):=by rw [←QK,MY]
theorem Qgk (s:ByteArray) (k:Nat) (h:k<s.size):s.extract k (k+1)=bs [s[k]]:=by
 apply ByteArray.ext;apply Array.ext';have e:(s.extract k (k+1)).data.toList=(s.data.toList.drop k).take 1:=by simp
 rw [e,List.drop_eq_getElem_cons (by simpa using h)];rfl
theorem Qo5 (s:ByteArray) (k:Nat) (h:k<s.size):qt (s.data.toList.take (k+1))=qt (s.data.toList.take k)++(if s[k]=34 then [34,34]else [s[k]]):=by
 have e:s.data.toList.take (k+1)=s.data.toList.take k++ [s[k]]:=by
  rw [List.take_succ_eq_append_getElem (by simpa using h)];rfl
 rw [e,Qsh];congr 1
 simp [qt]
theorem Xv (n:Int) (w:World) (h0:1≤n) (h5:n≤11):Calls Tryz.prog 148 #[.int .i64 n] w fun e w'=>
  e= .returned (.string (bs (sgT n)))∧Below w.heap.size w w':=by
 have hn:n=1∨n=2∨n=3∨n=4∨n=5∨n=6∨n=7∨n=8∨n=9∨n=10∨n=11:=by omega
 clear h0 h5;rcases hn with rfl | rfl | rfl | rfl | rfl | rfl | rfl | rfl | rfl | rfl | rfl
 all_goals
  go_enter Tryz.func148,Tryz.ntmps148;go_wp2
  go_ret;exact⟨rfl,by go_grown⟩
theorem Db (n:Int) (w:World) (h0:1≤n) (h5:n≤10):Calls Tryz.prog 222 #[.int .i64 n] w fun e w'=>
  e= .returned (.string (bs (fnT n)))∧Below w.heap.size w w':=by
 have hn:n=1∨n=2∨n=3∨n=4∨n=5∨n=6∨n=7∨n=8∨n=9∨n=10:=by omega
 clear h0 h5;rcases hn with rfl | rfl | rfl | rfl | rfl | rfl | rfl | rfl | rfl | rfl
 all_goals
  go_enter Tryz.func222,Tryz.ntmps222;go_wp2
  go_ret;exact⟨rfl,by go_grown⟩
theorem Ji (n:Int) (w:World) (h0:1≤n) (h5:n≤11):Calls Tryz.prog 221 #[.int .i64 n] w fun e w'=>
  e= .returned (.int .i64 (lvl n))∧w'=w:=by
 have hn:n=1∨n=2∨n=3∨n=4∨n=5∨n=6∨n=7∨n=8∨n=9∨n=10∨n=11:=by omega
 clear h0 h5;rcases hn with rfl | rfl | rfl | rfl | rfl | rfl | rfl | rfl | rfl | rfl | rfl
 all_goals
  go_enter Tryz.func221,Tryz.ntmps221;go_wp2
  go_ret;exact⟨rfl,rfl⟩
def rpL (l:List UInt8):Option (Int × Int × Bool × Bool):=if Xa (rpC (bs l)) (l1I (rp3 (bs l)))then some (rpC (bs l),(l1I (rp3 (bs l))).getD 0,QB (bs l),QB (rp2 (bs l)))else none
def plA (l:List UInt8):Value:=plV (rpC (bs l)) (l1I (rp3 (bs l))) (QB (bs l)) (QB (rp2 (bs l)))
theorem Qpb {c:Int} {o:Option Int} {x y:Bool} (h:Xa c o=true):plV c o x y= .tuple #[.agg #[.int .i64 c,.int .i64 (o.getD 0),.bool x,.bool y],.bool true]:=by
 unfold plV;rw [h];simp [sl]
theorem Qsl {c:Int} {o:Option Int} {x y:Bool} (h:Xa c o=false):plV c o x y= .tuple #[.agg #[.int .i64 0,.int .i64 0,.bool false,.bool false],.bool false]:=by
 unfold plV;rw [h];simp [sl]
theorem Qsb {c:Int} {o:Option Int} {x y:Bool} {p:Int × Int × Bool × Bool} (h:(if Xa c o then some (c,o.getD 0,x,y)else none)=some p):plV c o x y= .tuple #[.agg #[.int .i64 p.1,.int .i64 p.2.1,.bool p.2.2.1,.bool p.2.2.2],.bool true]:=by
 cases hq:Xa c o
 ·rw [hq]at h;cases h
 ·rw [hq]at h;cases h
  exact Qpb hq
theorem Qot {c:Int} {o:Option Int} {x y:Bool} (h:(if Xa c o then some (c,o.getD 0,x,y)else none)=none):plV c o x y= .tuple #[.agg #[.int .i64 0,.int .i64 0,.bool false,.bool false],.bool false]:=by
 cases hq:Xa c o
 ·exact Qsl hq
 ·rw [hq]at h;cases h
theorem EQ {l:List UInt8} {p:Int × Int × Bool × Bool} (h:rpL l=some p):plA l= .tuple #[.agg #[.int .i64 p.1,.int .i64 p.2.1,.bool p.2.2.1,.bool p.2.2.2],.bool true]:=by
 unfold rpL at h;unfold plA;exact Qsb h
theorem Qdi {l:List UInt8} (h:rpL l=none):plA l= .tuple #[.agg #[.int .i64 0,.int .i64 0,.bool false,.bool false],.bool false]:=by
 unfold rpL at h;unfold plA;exact Qot h
def vlA (k n:Int) (s:ByteArray):Value:= .tuple #[.agg #[.int .i64 k,.int .i64 n,.string s],.bool true]
theorem Df (k n:Int) (s:ByteArray):rvB k n s=vlA k n s∨rvB k n s=GS:=by
 unfold rvB vlA GS;split
 ·exact Or.inl rfl
 ·exact Or.inr rfl
theorem De (s:ByteArray):(∃k n t,rvS s=vlA k n t)∨rvS s=GS:=by
 have g: ∀k n t,(∃k' n' t',rvB k n t=vlA k' n' t')∨rvB k n t=GS:=fun k n t=>by
  rcases Df k n t with h | h
  ·exact Or.inl ⟨_,_,_,h⟩
  ·exact Or.inr h
 unfold rvS;split
 ·split
  ·exact g _ _ _
  split
  ·exact g _ _ _
  split
  ·exact g _ _ _
  split
  ·exact g _ _ _
  ·unfold rvO;split
   ·exact g _ _ _
   ·exact Or.inr rfl
 ·exact g _ _ _
def unV (v:Value):Option (Int × Int × List UInt8):=match v with
 | .tuple #[.agg #[.int _ k,.int _ n,.string t],.bool true]=>some (k,n,t.data.toList)
 | _=>none
def rvL (l:List UInt8):Option (Int × Int × List UInt8):=unV (rvS (bs l))
theorem Qep {l:List UInt8} {v:Int × Int × List UInt8} (h:rvL l=some v):rvS (bs l)=vlA v.1 v.2.1 (bs v.2.2):=by
 unfold rvL at h;rcases De (bs l)with⟨k,n,t,e⟩ | e
 ·rw [e]at h ⊢;have h2:some (k,n,t.data.toList)=some v:=h;cases h2
  rfl
 ·rw [e]at h;cases h
theorem Qrh {l:List UInt8} (h:rvL l=none):rvS (bs l)=GS:=by
 unfold rvL at h;rcases De (bs l)with⟨k,n,t,e⟩ | e
 ·rw [e]at h;cases h
 ·exact e
def RF:Rw FN where
 cst:=fun k n s=>⟨1,0,k,n,bs s,0,0,false,false,0,0,false,false,[]⟩
 cel:=fun p=>⟨2,0,0,0,⟨#[]⟩,p.1,p.2.1,p.2.2.1,p.2.2.2,0,0,false,false,[]⟩
 are:=fun p q=>⟨3,0,0,0,⟨#[]⟩,p.1,p.2.1,p.2.2.1,p.2.2.2,q.1,q.2.1,q.2.2.1,q.2.2.2,[]⟩
 neg:=fun k=>⟨4,0,0,0,⟨#[]⟩,0,0,false,false,0,0,false,false,[k]⟩
 bin:=fun o a b=>⟨5,o,0,0,⟨#[]⟩,0,0,false,false,0,0,false,false,[a,b]⟩
 cal:=fun o ks=>⟨6,o,0,0,⟨#[]⟩,0,0,false,false,0,0,false,false,ks⟩
 rv:=rvL
 rp:=rpL
theorem Qos {b:UInt8} {t:List UInt8} (h1:b≠36) (h2:isL b=false):rpL (b::t)=none:=by
 have e1:QB (bs (b::t))=false:=by
  unfold QB;rw [dif_pos (show 0<(bs (b::t)).size by rw [Qt];simp)];show(b==36)=false;exact beq_eq_false_iff_ne.2 h1
 have e2:ZL (bs (b::t))=bs (b::t):=by unfold ZL;rw [e1];rfl
 have e3:Gj (bs (b::t))=0:=by
  unfold Gj;show((b::t).takeWhile isL).length=0;simp [List.takeWhile,h2]
 have e4:rpC (bs (b::t))=0:=by
  unfold rpC;rw [e2,e3];rfl
 unfold rpL Xa;rw [e4];rw [if_neg];intro hq;have h9:=(Bool.and_eq_true_iff.1 hq).2;have:=of_decide_eq_true h9;omega
theorem JH:rpL []=none:=by decide+kernel
theorem Mi {b:UInt8} {t:List UInt8} (h:isW b=false):rpL (b::t)=none:=by
 have h1:b≠36:=fun e=>by subst e;revert h;decide
 refine Qos h1 ?_;cases hl:isL b
 ·rfl
 ·exfalso
  have:isW b=true:=by unfold isW;unfold isL at hl;rw [hl];rfl
  rw [this]at h;cases h
theorem rv_er:rvL (erL 1)=some (4,1,[])∧rvL (erL 2)=some (4,2,[])∧rvL (erL 3)=some (4,3,[])∧rvL (erL 4)=some (4,4,[])∧rvL (erL 5)=some (4,5,[]):=by decide+kernel
theorem rv_sg:rvL [41]=none∧rvL [44]=none∧rvL [58]=none∧rvL (sgT 1)=none∧rvL (sgT 2)=none∧rvL (sgT 3)=none∧rvL (sgT 4)=none∧rvL (sgT 5)=none∧rvL (sgT 6)=none∧rvL (sgT 7)=none∧rvL (sgT 8)=none∧rvL (sgT 9)=none∧rvL (sgT 10)=none∧rvL (sgT 11)=none:=by decide+kernel
def good (o:List FN):Bool:=decide (o.length≤60)&&o.all QN
theorem Qlc {o e:List FN} (h:good (o++e)=true):good o=true:=by
 unfold good at*;simp only [Bool.and_eq_true,decide_eq_true_eq,List.length_append,List.all_append]at*;exact⟨by omega,h.2.1⟩
def Bb (res:Option (Int × List UInt8 × List FN)):Prop:= ∀y,res=some y→good y.2.2=false
theorem ZH:Bb none:=fun y h=>by cases h
def Ext (o:List FN) (res:Option (Int × List UInt8 × List FN)):Prop:= ∀y,res=some y→ ∃e,y.2.2=o++e
theorem Qll {o e:List FN} {x:Int} {l:List UInt8}:Ext o (some (x,l,o++e)):=fun y h=>by cases h;exact⟨e,rfl⟩
theorem Qch {o:List FN} {res:Option (Int × List UInt8 × List FN)} (h:good o=false) (he:Ext o res):Bb res:=fun y hy=>by
 obtain⟨e,h2⟩:=he y hy;cases hg:good y.2.2
 ·rfl
 ·rw [h2]at hg;rw [Qlc hg]at h;cases h
theorem XU {res:Option (Int × List UInt8 × List FN)} {f:Int→List UInt8→List FN→Option (Int × List UInt8 × List FN)} (h:Bb res) (hf: ∀x l o,Ext o (f x l o)):Bb (Zv res f):=by
 cases res with
 | none=>exact ZH
 | some y=>exact Qch (h y rfl) (hf _ _ _)
theorem Qag (mode:Nat) (lv a:Int) (ks:List Int) (l:List UInt8) (out:List FN):Ext out (PB RF mode lv a ks l out):=by
 intro y hy;unfold PB at hy;cases hp:P RF 20000 mode lv a ks l out with
 | none=>rw [hp]at hy;cases hy
 | some z=>
  obtain⟨x,l1,o1⟩:=z;rw [hp]at hy;cases hy
  obtain⟨_,e,he⟩:=Qg5 RF JH _ _ _ _ _ _ _ _ _ _ hp;exact⟨e,he⟩
def ZR (res:Option (Int × List UInt8 × List FN)) (bad:Bool) (x:Int) (l:List UInt8) (out:List FN):Prop:=
 (bad=false→res=some (x,sb l,out)∧good out=true)∧(bad=true→Bb res)
theorem Qlg:Xc [58]=0:=by decide
theorem Qtm {l:List UInt8} {out:List FN} (h:pk l= [58]):PB RF 4 0 0 [] l out=none:=by
 rw [Hw (by rw [h];simp) (by rw [h];decide) (by rw [h];decide) (by rw [h];exact Qlg),h];have e1:RF.rv [58]=none:=rv_sg.2.2.1;have e0:rpL [58]=none:=Mi (b:=58) (t:= []) (by decide);have e2:RF.rp [58]=none:=e0;rw [e1,e2]
theorem Qna {l:List UInt8} {out:List FN} (h:pk l= [58]) (hn:l.length≤1000):PB RF 3 0 0 [] l out=none:=by
 rw [PB3 hn,if_neg (by rw [h];decide)];exact Qtm h
theorem Qtn {l : List UInt8} {out : List FN} (h : pk l = [58]) (hn : l.length ≤ 1000) : ∀ (d : Nat) (lv : Int), lv = 5 - (d : Int) → d ≤ 4 → PB RF 1 lv 0 [] l out = none := by
  intro d;induction d with
  | zero => intro lv e _; obtain rfl : lv = 5 := by omega
            rw [Qrb hn]; exact Qna h hn
  | succ d ih =>
    intro lv e hd;rw [PB1 (by omega) (by omega) hn, ih (lv + 1) (by omega) (by omega)];rfl
theorem Ql8 {l:List UInt8} {out:List FN} (h:(pk l).head? =some 34):PB RF 4 0 0 [] l out=match Zh (pk l).tail with
  | some x=>some ((out.length:Int),sb (nx l),out++ [RF.cst 2 0 x.1])
  | none=>none:=by
 have h0:pk l≠ []:=fun e=>by rw [e]at h;cases h
 have h1:pk l≠ [40]:=fun e=>by rw [e]at h;cases h
 cases hq:Zh (pk l).tail with
 | some x=>exact EH h hq
 | none=>
  unfold PB;rw [show(20000:Nat)=19999+1 from rfl,P,if_neg (by omega),if_neg (by omega),if_neg (by omega),if_pos rfl,if_neg h0,if_neg h1,if_pos h,hq];rfl
theorem Qtx {l:List UInt8} {out:List FN} {x:Int} {l1:List UInt8} {o1:List FN} (h:pk (nx l)= [58]) (hn:l.length≤1000) (hp:PB RF 4 0 0 [] l out=some (x,l1,o1)):pk l1= [58]:=by
 by_cases h0:pk l= []
 ·rw [EJ h0]at hp;cases hp
 have hl:=Hm l;by_cases h1:pk l= [40]
 ·rw [EI h1 hn,Qtn h (by omega) 4 1 rfl (by omega)]at hp;cases hp
 by_cases h2:(pk l).head? =some 34
 ·rw [Ql8 h2]at hp;split at hp
  ·cases hp;rw [Xj];exact h
  ·cases hp
 by_cases hf:Xc (pk l)=0
 ·rw [Hw h0 h1 h2 hf]at hp;split at hp
  ·cases hp;rw [Xj];exact h
  ·split at hp
   ·cases hp;rw [Xj];exact h
   ·cases hp
 ·rw [Qe2 h0 h1 h2 hf hn,if_neg (by rw [h];decide)]at hp;cases hp
theorem Qty {l:List UInt8} {out:List FN} {x:Int} {l1:List UInt8} {o1:List FN} (h:pk (nx l)= [58]) (hn:l.length≤1000) (hp:PB RF 3 0 0 [] l out=some (x,l1,o1)):pk l1= [58]:=by
 rw [PB3 hn]at hp;have hl:=Hm l;by_cases hq:pk l= [45]
 ·rw [if_pos hq,Qna h (by omega)]at hp;cases hp
 ·rw [if_neg hq]at hp;exact Qtx h hn hp
theorem Qtz {l : List UInt8} {out : List FN} (h : pk (nx l) = [58]) (hn : l.length ≤ 1000) : ∀ (d : Nat) (lv : Int), lv = 5 - (d : Int) → d ≤ 4 → ∀ (x : Int) (l1 : List UInt8) (o1 : List FN), PB RF 1 lv 0 [] l out = some (x, l1, o1) → pk l1 = [58] := by
  intro d;induction d with
  | zero => intro lv e _ x l1 o1 hp; obtain rfl : lv = 5 := by omega
            rw [Qrb hn] at hp; exact Qty h hn hp
  | succ d ih =>
    intro lv e hd x l1 o1 hp;rw [PB1 (by omega) (by omega) hn] at hp;cases hq : PB RF 1 (lv + 1) 0 [] l out with
    | none => rw [hq] at hp; cases hp
    | some y =>
      obtain ⟨x', l', o'⟩ := y;have h9 := ih (lv + 1) (by omega) (by omega) _ _ _ hq;have hlen := (Oq hq).1;rw [hq] at hp;have hp2 : PB RF 2 lv x' [] l' o' = some (x, l1, o1) := hp;rw [PB2 (by omega) (by omega) (by omega), if_pos (Or.inl (by rw [h9]; decide))] at hp2;cases hp2
      rw [Xj];exact h9
end Go.Proofs.YtbdhinckiccniaaGreatDoor
