import Derived.Test.YtbdhinckiccniaaGreatDoorGau
import Derived.Test.YtbdhinckiccniaaGreatDoorGar
import Derived.Test.YtbdhinckiccniaaGreatDoorMn
import Derived.Test.YtbdhinckiccniaaGreatDoorSc
set_option linter.unusedSimpArgs false
set_option linter.unusedVariables false
set_option maxHeartbeats 16000000
set_option maxRecDepth 100000
namespace Go.Proofs.YtbdhinckiccniaaGreatDoor
open Go.RowKit
theorem GI.var{W:World}(h:GI W):VarT W:=h.gt.vt
end Go.Proofs.YtbdhinckiccniaaGreatDoor
namespace Go.Proofs.YtbdhinckiccniaaGreatDoor
open Go.RowKit Go.Maps
theorem Qca:(Tryz.prog.info? 9).map (fun i=>(i.zero,i.size,i.bytes))=some (some (.string ⟨#[]⟩),1,16):=by kernel_rfl
theorem Bc{ops:Array Oper}{rest:List Oper}{o:Oper}{a:Act}{Q:Exit→Act→World→Prop}{W:World}(hgd:o.guard=none)(s x:Operand)(ho:o.op= .call {callee:= .builtin .append,args:= #[s,x],argTypes:= #[61,61]})(B:Nat)(v:Value)(n:Nat)(l:List ByteArray)(hs:a.eval s=v)
  (hown:W.ownsRow B 9 1 v n (l.map Value.string)) (p:ByteArray) (g:Nat) (hx:a.eval x= .slice (some ⟨g,0,none⟩) 1 1) (hc:W.cell? ⟨g,0,none⟩=some (.string p)) (hn:n≤1099511627776) (hB:B≤W.heap.size)
  (h: ∀v' w',w'.ownsRow B 9 1 v' (n+1) ((l++ [p]).map Value.string)→W.grownBy w' v.ownBlock→wpList Tryz.prog ops Q rest (a.put o.dst v') w'):wpList Tryz.prog ops Q (o::rest) a W:=by
 obtain⟨i0,hi,iz0,iz1,iz2⟩:=info_parts Qca;refine wpList_append_own W hgd s x 61 ho B 9 i0 (.string ⟨#[]⟩) 1 16 Tryz.underlying61 hi iz0 iz1 iz2 rfl (by decide) v n _ hs hown ⟨g,0,none⟩ 1 1 [.string p] hx rfl ?_ ?_ ?_ ?_ hB ?_
 ·intro q u hq;match q,hq with
  | 0,hq=>simp at hq;subst hq;simpa[Addr.add]using hc
 ·intro u hu;simp at hu;subst hu;rfl
 ·unfold maxLen;omega
 ·omega
 ·intro v' w3 hown' hgrow _;refine h v' w3 ?_ hgrow;rw[List.map_append];exact hown'
theorem Md{W:World}{ops:Array Oper}{o:Oper}{a:Act}{K:Act→World→Prop}{Q:Exit→Act→World→Prop}{E:Prop}(hgd:o.guard=none)(s x:Operand)(ho:o.op= .call {callee:= .builtin .append,args:= #[s,x],argTypes:= #[61,61]})(B:Nat)(hB:B≤W.heap.size)(v:Value)(n:Nat)(l:List ByteArray)(hs:a.eval s=v)
  (hown:W.ownsRow B 9 1 v n (l.map Value.string)) (p:ByteArray) (g:Nat) (hx:a.eval x= .slice (some ⟨g,0,none⟩) 1 1) (hc:W.cell? ⟨g,0,none⟩=some (.string p)) (hn:n≤1099511627776)
  (h: ∀A' c' w',w'.ownsRow B 9 1 (.slice A' (n+1) c') (n+1) ((l++ [p]).map Value.string)→W.grownBy w' v.ownBlock→K (a.put o.dst (.slice A' (n+1) c')) w'):
  if Region.wanted o (yielded ops a.tmps)=true then Oper.wp Tryz.prog o a W K Q else E:=by
 obtain⟨i0,hi,iz0,iz1,iz2⟩:=info_parts Qca;have hw:Region.wanted o (yielded ops a.tmps)=true:=by simp[Region.wanted,hgd]
 rw[if_pos hw];refine wp_append_own W s x 61 ho B 9 i0 (.string ⟨#[]⟩) 1 16 Tryz.underlying61 hi iz0 iz1 iz2 rfl (by decide) v n _ hs hown ⟨g,0,none⟩ 1 1 [.string p] hx rfl ?_ ?_ (by unfold maxLen;omega) (by omega) hB ?_
 ·intro q u hq;match q,hq with
  | 0,hq=>simp at hq;subst hq;simpa[Addr.add]using hc
 ·intro u hu;simp at hu;subst hu;rfl
 ·intro v' w' ho' hg' _;obtain⟨A',cap',rfl,_,_⟩:=Qo ho';exact h A' cap' w' (by rw[List.map_append];exact ho') hg'
theorem Oj{x:VR}{u s:Option Addr}{un uc mn sc:Nat}(w:World)(hu:IntRow w u x.ups)(hun:x.ups.length=un)(hid:0≤x.id∧x.id≤1000000000)(hup: ∀z∈x.ups,0≤z∧z≤1000000000)(h2:un≤2)(hv:VarT w):
  Calls Tryz.prog 81 #[.agg #[.int .i64 x.id,.slice u un uc,.slice s mn sc]] w fun e w'=>e= .returned (.string (Ko x))∧Below w.heap.size w w':=by
 have RU:Hid (IntRow w u x.ups):=hu;have HUN:Hid (x.ups.length=un):=hun;have HID:Hid (0≤x.id∧x.id≤1000000000):=hid;have HUP:Hid (∀z∈x.ups,0≤z∧z≤1000000000):=hup;have HV:Hid (VarT w):=hv;have iz:=Xf hid.1 hid.2;obtain⟨sb1,sb2,sb3,sb4,sb5⟩:=sizes
 clear hu hun hid hup hv;go_enter Tryz.func81,Tryz.ntmps81;go_wp2_with fail
 obtain⟨X,HX⟩: ∃X,Hid (w.alloc (.cells #[.int .i64 x.id,.slice u un uc,.slice s mn sc] 72)=X):=⟨_,rfl⟩;rw[HX.out];have x1:X.cell? ⟨w.heap.size,1,none⟩=some (.slice u un uc):=by rw[←HX.out];go_simp
 have zX:w.heap.size<X.heap.size:=by rw[←HX.out];simp
 have KX:Hid (Below w.heap.size w X):=by rw[←HX.out];show Below _ _ _;go_grown
 clear HX;refine(YI x.id _ (by have:=HID.out;omega) (by have:=HID.out;omega) (HV.out.below KX.out)).mono ?_;rintro e u1 ⟨rfl,hb⟩;replace x1:=cy hb x1;replace zX:w.heap.size<u1.heap.size:=Nat.lt_of_lt_of_le zX hb.size;replace KX:=hd (Qc KX.out hb);clear hb
 obtain⟨ka1,HKA1⟩: ∃k,Hid (sVr++itB x.id=k):=⟨_,rfl⟩;have zka1:ka1.size=sVr.size+(itB x.id).size:=by rw[←HKA1.out,ByteArray.size_append]
 have rka1: ∀W,(Op.stringOp .add (⟨#[118,101,114,115,105,111,110,32]⟩:ByteArray) (itB x.id)).run Tryz.prog W= .ok (.string ka1) W:=fun W=>by rw[←HKA1.out];exact run_string_add_sum W _ _ (by have:(⟨#[118,101,114,115,105,111,110,32]⟩:ByteArray).size=8:=rfl;omega)
 have HP0:Hid (ka1=GO (x.ups.take 0) (sVr++itB x.id)):=by show _=_;rw[←HKA1.out];rfl
 go_wp2_with fail
 clear rka1 zka1 HKA1;go_loopw [3,13] (fun q i wr=> ∃k:Nat,k≤un∧q= .string (GO (x.ups.take k) (sVr++itB x.id))∧i= .int .i64 k∧Below w.heap.size w wr) (fun _ i _=>un-(intOf i).toNat)
 case atStart=>exact⟨0,Nat.zero_le _,by rw[HP0.out],rfl,KX.out⟩
 case round=>
  obtain⟨k,hk,rfl,rfl,hbel⟩:=hrel;have KW:Hid (Below w.heap.size w wr):=hbel;have hus:=Vn (x.ups.take k) (sVr++itB x.id) (fun z hz=>HUP.out z (List.mem_of_mem_take hz));have hut:(x.ups.take k).length≤2:=by rw[List.length_take,HUN.out];omega
  rw[ByteArray.size_append]at hus;obtain⟨p,HPT⟩: ∃p,Hid (GO (x.ups.take k) (sVr++itB x.id)=p):=⟨_,rfl⟩;rw[HPT.out]at hus;rw[HPT.out];by_cases hlt:k<un
  ·obtain⟨y,hy⟩:=Zw HUN.out hlt;have HYT:Hid (x.ups[k]? =some y):=hy;have HYB:Hid (0≤y∧y≤1000000000):=HUP.out y (List.mem_of_getElem? hy);have iy:=Xf HYB.out.1 HYB.out.2;obtain⟨ub,uo,rfl,hul,cu⟩:=Xp RU.out hy;rw[←hbel.cell (p:=⟨_,_,none⟩) hul]at cu;have hul2:ub<wr.heap.size:=Nat.lt_of_lt_of_le hul hbel.size
   have j0:(0:Int)≤(k:Int):=by omega
   have j1:(k:Int)<(un:Int):=by omega
   clear hy hul hbel;obtain⟨ky,HKY⟩: ∃ky,Hid (sSp++itB y=ky):=⟨_,rfl⟩;have zky:ky.size=sSp.size+(itB y).size:=by rw[←HKY.out,ByteArray.size_append]
   have rky: ∀W,(Op.stringOp .add (⟨#[32]⟩:ByteArray) (itB y)).run Tryz.prog W= .ok (.string ky) W:=fun W=>by rw[←HKY.out];exact run_string_add_sum W _ _ (by have:(⟨#[32]⟩:ByteArray).size=1:=rfl;omega)
   obtain⟨kz,HKZ⟩: ∃kz,Hid (p++ky=kz):=⟨_,rfl⟩;have rkz: ∀W,(Op.stringOp .add p ky).run Tryz.prog W= .ok (.string kz) W:=fun W=>by rw[←HKZ.out];exact run_string_add_sum W _ _ (by omega)
   have HN:Hid (kz=GO (x.ups.take (k+1)) (sVr++itB x.id)):=by show _=_;rw[Qfj HYT.out,Gz,HPT.out,HKY.out,HKZ.out]
   go_wp2_with fail
   refine(YI y _ (by have:=HYB.out;omega) (by have:=HYB.out;omega) (HV.out.below KW.out)).mono ?_;rintro e u2 ⟨rfl,hb⟩;have K2:=hd (Qc KW.out hb);clear hb cu hul2;go_wp2_with fail
   go_roundw
   case rel=>exact⟨k+1,by omega,by rw[HN.out],by go_num,K2.out⟩
   case measure=>simp[intOf];omega
  ·have h1: ¬(k:Int)<(un:Int):=by omega
   obtain rfl:un=k:=by omega
   go_wp2_with fail
   go_ret;exact⟨Qr (by rw[←HPT.out,←HUN.out,List.take_length];rfl),hbel⟩
theorem Bz{v:Value}{d:DG}(w:World)(h:DgRow w v d)(hk:DgOk d)(hl:DgLil d)(hg:GI w):
  Calls Tryz.prog 36 #[v] w fun e w'=>e= .returned (.string (Qgq d))∧Below w.heap.size w w':=by
 obtain⟨A1,n1,c1,A2,n2,c2,rfl⟩:=h.agg;have HR:Hid (DgRow w (.agg #[.int .i64 d.next,.slice A1 n1 c1,.slice A2 n2 c2]) d):=h;obtain⟨r1,e1,r2,e2⟩:=h.open;have R1:Hid (VrRow w A1 d.vs):=r1;have R2:Hid (Xy w A2 d.bs):=r2;have E1:Hid (d.vs.length=n1):=e1;have E2:Hid (d.bs.length=n2):=e2
 have HK:Hid (DgOk d):=hk;have HL:Hid (DgLil d):=hl;have HG:Hid (GI w):=hg;obtain⟨f,HFF⟩: ∃f:Bool,Hid (YW d=f):=⟨_,rfl⟩;obtain⟨sb1,sb2,sb3,sb4,sb5⟩:=sizes;clear h r1 r2 e1 e2 hk hl hg;go_enter Tryz.func36,Tryz.ntmps36
 go_wp2_with fail
 obtain⟨X,HX⟩: ∃X,Hid (w.alloc (.cells #[.int .i64 d.next,.slice A1 n1 c1,.slice A2 n2 c2] 43)=X):=⟨_,rfl⟩;rw[HX.out];have x0:X.cell? ⟨w.heap.size,0,none⟩=some (.int .i64 d.next):=by rw[←HX.out];go_simp
 have x1:X.cell? ⟨w.heap.size,1,none⟩=some (.slice A1 n1 c1):=by rw[←HX.out];go_simp
 have x2:X.cell? ⟨w.heap.size,2,none⟩=some (.slice A2 n2 c2):=by rw[←HX.out];go_simp
 have zX:w.heap.size<X.heap.size:=by rw[←HX.out];simp
 have KX:Hid (Below w.heap.size w X):=by rw[←HX.out];show Below _ _ _;go_grown
 clear HX;refine(Qd1 _ (HR.out.below KX.out) HK.out HL.out (HG.out.below KX.out)).mono ?_;rintro e u0 ⟨rfl,hb⟩;replace x0:=cy hb x0;replace x1:=cy hb x1;replace x2:=cy hb x2;replace zX:w.heap.size<u0.heap.size:=Nat.lt_of_lt_of_le zX hb.size
 replace KX:=hd (Qc KX.out hb);clear hb;rw[HFF.out];cases f
 ·go_wp2_with fail
  go_ret;exact⟨Qr (by rw[Qgq,if_neg (by rw[HFF.out];decide)]),KX.out⟩
 have HT:Hid (DgTx d):=Qm4 HFF.out;have hn1:n1≤40:=by rw[←E1.out];exact HT.out.nv
 have hn2:n2≤8:=by rw[←E2.out];exact HT.out.nb
 have iz:=Xf HT.out.n0 HT.out.nx;obtain⟨ka1,HKA1⟩: ∃k,Hid (sDag++itB d.next=k):=⟨_,rfl⟩;have zka1:ka1.size=sDag.size+(itB d.next).size:=by rw[←HKA1.out,ByteArray.size_append]
 have rka1: ∀W,(Op.stringOp .add (⟨#[100,97,103,32]⟩:ByteArray) (itB d.next)).run Tryz.prog W= .ok (.string ka1) W:=fun W=>by rw[←HKA1.out];exact run_string_add_sum W _ _ (by have:(⟨#[100,97,103,32]⟩:ByteArray).size=4:=rfl;omega)
 go_wp2_with fail
 refine(YI d.next _ (by have:=HT.out.n0;omega) (by have:=HT.out.nx;omega) (HG.out.below KX.out).var).mono ?_;rintro e u1 ⟨rfl,hb⟩;replace x0:=cy hb x0;replace x1:=cy hb x1;replace x2:=cy hb x2;replace zX:w.heap.size<u1.heap.size:=Nat.lt_of_lt_of_le zX hb.size;replace KX:=hd (Qc KX.out hb)
 clear hb;have X0:Hid (u1.cell? ⟨w.heap.size,1,none⟩=some (.slice A1 n1 c1)∧u1.cell? ⟨w.heap.size,2,none⟩=some (.slice A2 n2 c2)∧w.heap.size<u1.heap.size):=⟨x1,x2,zX⟩;have HB0:Hid (bLs d 0= [ka1]):=by show _=_;unfold bLs;rw[←HKA1.out];simp;rfl
 have HO0:Hid ((u1.alloc (.cells #[.string ka1] 9)).ownsRow u1.heap.size 9 1 (.slice (some ⟨u1.heap.size,0,none⟩) 1 1) 1 ((bLs d 0).map Value.string)):=by rw[HB0.out];exact World.ownsRow_lit u1 _ 1 (Nat.le_refl _) (by unfold maxLen;omega) rfl
 go_wp2_with fail
 clear x0 rka1 zka1 HKA1 iz;go_loopw [3,21] (fun q i wr=> ∃(t:Nat) (A:Option Addr) (k c:Nat),t≤n2∧q= .slice A k c∧i= .int .i64 t∧(bLs d t).length=k∧wr.ownsRow u1.heap.size 9 1 (.slice A k c) k ((bLs d t).map Value.string)∧Below u1.heap.size u1 wr) (fun _ i _=>n2-(intOf i).toNat)
 case atStart=>exact⟨0,_,1,1,Nat.zero_le _,rfl,rfl,by rw[HB0.out];rfl,HO0.out,(Below.refl _ _).alloc (Nat.le_refl _) _⟩
 case round=>
  obtain⟨t,A,kk,cc,ht,rfl,rfl,hkl,hown,hbel⟩:=hrel;have KW:Hid (Below u1.heap.size u1 wr):=hbel;have KA:=hd (Qc KX.out hbel);have hsv:=hbel.size;have y1:=cy hbel X0.out.1;have yz:w.heap.size<wr.heap.size:=Nat.lt_of_lt_of_le X0.out.2.2 hbel.size;have hk9:kk≤9:=by rw[←hkl];exact(Qe1 HT.out t).2
  have HKK:Hid ((bLs d t).length=kk):=hkl;have HOW:Hid (wr.ownsRow u1.heap.size 9 1 (.slice A kk cc) kk ((bLs d t).map Value.string)):=hown;clear hbel hkl hown;by_cases hlt:t<n2
  ·obtain⟨x,hx⟩:=Zw E2.out hlt;have HXT:Hid (d.bs[t]? =some x):=hx;have hxm:=List.mem_of_getElem? hx;have hnm:=HT.out.bn x hxm;have HHD:Hid (0≤x.h∧x.h≤1000000000):=HT.out.bh x hxm;have iz:=Xf HHD.out.1 HHD.out.2;obtain⟨b,o,rfl,hl,hc⟩:=R2.out.2 t x hx
   have b0:w.cell? ⟨b,o+t*2,none⟩=some (.string x.n):=hc 0 _ rfl;have b1:w.cell? ⟨b,o+t*2+1,none⟩=some (.int .i64 x.h):=hc 1 _ rfl;rw[←KA.out.cell (p:=⟨_,_,none⟩) hl]at b0 b1;have hl2:b<wr.heap.size:=Nat.lt_of_lt_of_le hl KA.out.size;have q0:(0:Int)≤(t:Int):=by omega
   have q1:(t:Int)<(n2:Int):=by omega
   clear hx hxm hc hl;obtain⟨kb1,HKB1⟩: ∃k,Hid (sBr++x.n=k):=⟨_,rfl⟩;have zkb1:kb1.size=sBr.size+(x.n).size:=by rw[←HKB1.out,ByteArray.size_append]
   have rkb1: ∀W,(Op.stringOp .add (⟨#[98,114,97,110,99,104,32]⟩:ByteArray) (x.n)).run Tryz.prog W= .ok (.string kb1) W:=fun W=>by rw[←HKB1.out];exact run_string_add_sum W _ _ (by have:(⟨#[98,114,97,110,99,104,32]⟩:ByteArray).size=7:=rfl;omega)
   obtain⟨kb2,HKB2⟩: ∃k,Hid (kb1++sSp=k):=⟨_,rfl⟩;have zkb2:kb2.size=kb1.size+(sSp).size:=by rw[←HKB2.out,ByteArray.size_append]
   have rkb2: ∀W,(Op.stringOp .add kb1 (⟨#[32]⟩:ByteArray)).run Tryz.prog W= .ok (.string kb2) W:=fun W=>by rw[←HKB2.out];exact run_string_add_sum W _ _ (by have:(⟨#[32]⟩:ByteArray).size=1:=rfl;omega)
   obtain⟨kb3,HKB3⟩: ∃k,Hid (kb2++itB x.h=k):=⟨_,rfl⟩;have zkb3:kb3.size=kb2.size+(itB x.h).size:=by rw[←HKB3.out,ByteArray.size_append]
   have rkb3: ∀W,(Op.stringOp .add kb2 (itB x.h)).run Tryz.prog W= .ok (.string kb3) W:=fun W=>by rw[←HKB3.out];exact run_string_add_sum W _ _ (by omega)
   have HBS:Hid (bLs d (t+1)=bLs d t++ [kb3]):=by show _=_;rw[Qcv HXT.out,←HKB3.out,←HKB2.out,←HKB1.out];rfl
   go_upto_region 7 with fail
   obtain⟨V,HV⟩: ∃V,Hid (wr.alloc (.cells #[.string x.n,.int .i64 x.h] 69)=V):=⟨_,rfl⟩;rw[HV.out];have v0:V.cell? ⟨wr.heap.size,0,none⟩=some (.string x.n):=by rw[←HV.out];go_simp
   have v1:V.cell? ⟨wr.heap.size,1,none⟩=some (.int .i64 x.h):=by rw[←HV.out];go_simp
   have vz:wr.heap.size<V.heap.size:=by rw[←HV.out];simp
   have hbV:Below wr.heap.size wr V:=by rw[←HV.out];exact(Below.refl _ _).alloc (Nat.le_refl _) _
   have VE0:Hid (V.drew.cell? ⟨wr.heap.size,0,none⟩=some (.string x.n)∧V.drew.cell? ⟨wr.heap.size,1,none⟩=some (.int .i64 x.h)∧wr.heap.size<V.drew.heap.size):=⟨v0,v1,vz⟩;have KD:Hid (Below u1.heap.size u1 V.drew):=(KW.out.trans (hbV.mono hsv)).drew;have OD:=hd (Qf (Qf HOW.out hbV) ((Below.refl _ _).drew));have NB:Hid (some wr.heap.size≠(Value.slice A kk cc).ownBlock):=fun e=>by have:=(HOW.out.lt _ e.symm).2;omega
   have hdz:u1.heap.size≤V.drew.heap.size:=KD.out.size;clear y1 yz b0 b1 hl2 v0 v1 vz hbV HV;refine wp_region_held_drew (S:=(fun w'=>w'.cell? ⟨wr.heap.size,0,none⟩=some (.string x.n)∧w'.cell? ⟨wr.heap.size,1,none⟩=some (.int .i64 x.h)∧wr.heap.size<w'.heap.size)) (by kernel_rfl) VE0.out (fun hHeld=> ?_);refine tkA 0 ?_;refine tkB 1 ?_;refine tkA 2 ?_;refine tkB 3 ?_
   refine tkA 4 ?_;refine tkB 5 ?_;refine tkB 6 ?_;refine rqA 7 (fun Kq hKq=> ?_);go_simp;refine(YI x.h _ (by have:=HHD.out;omega) (by have:=HHD.out;omega) (HG.out.below (Qc KX.out KD.out)).var).mono ?_;rintro e q1 ⟨rfl,hb⟩
   have Vq1:Hid (q1.cell? ⟨wr.heap.size,0,none⟩=some (.string x.n)∧q1.cell? ⟨wr.heap.size,1,none⟩=some (.int .i64 x.h)∧wr.heap.size<q1.heap.size):=⟨cy hb VE0.out.1,cy hb VE0.out.2.1,Nat.lt_of_lt_of_le VE0.out.2.2 hb.size⟩;have K1:=hd (Qc KD.out hb);have O1:=hd (Qf OD.out hb);have h1z:u1.heap.size≤q1.heap.size:=K1.out.size;clear hb;refine hkB hKq (Vq1.out) fun hHeld=> ?_;clear hKq Kq
   refine tkB 8 ?_;refine rqA 9 (fun Kq hKq=> ?_);go_simp;obtain⟨q2,HQ2⟩: ∃q,Hid (q1.alloc (.cells #[.string kb3] 9)=q):=⟨_,rfl⟩;rw[HQ2.out];have hb:Below q1.heap.size q1 q2:=by rw[←HQ2.out];exact(Below.refl _ _).alloc (Nat.le_refl _) _
   have Vq2:Hid (q2.cell? ⟨wr.heap.size,0,none⟩=some (.string x.n)∧q2.cell? ⟨wr.heap.size,1,none⟩=some (.int .i64 x.h)∧wr.heap.size<q2.heap.size):=⟨cy hb Vq1.out.1,cy hb Vq1.out.2.1,Nat.lt_of_lt_of_le Vq1.out.2.2 hb.size⟩;have s2:Hid (q2.cell? ⟨q1.heap.size,0,none⟩=some (.string kb3)):=by rw[←HQ2.out];show _=_;go_simp
   have K2:=hd (Qc K1.out hb);have O2:=hd (Qf O1.out hb);clear hb HQ2;refine hkB hKq (Vq2.out) fun hHeld=> ?_;clear hKq Kq;refine rqA 10 (fun Kq hKq=> ?_);refine Md (by rfl) _ _ (by rfl) u1.heap.size K2.out.size (.slice A kk cc) kk (bLs d t) (by rfl) O2.out kb3 q1.heap.size (by rfl) s2.out (by omega) ?_
   intro D3 f3 q3 ho hg;have Vq3:Hid (q3.cell? ⟨wr.heap.size,0,none⟩=some (.string x.n)∧q3.cell? ⟨wr.heap.size,1,none⟩=some (.int .i64 x.h)∧wr.heap.size<q3.heap.size):=⟨hg.cell Vq2.out.1 NB.out,hg.cell Vq2.out.2.1 NB.out,Nat.lt_of_lt_of_le Vq2.out.2.2 hg.size⟩;have O3:Hid (q3.ownsRow u1.heap.size 9 1 (.slice D3 (kk+1) f3) (kk+1) ((bLs d t++ [kb3]).map Value.string)):=ho;have K3:=hd (K2.out.grown hg K2.out.size (fun j hj=>(O2.out.lt j hj).1));clear ho hg;refine hkB hKq (Vq3.out) fun hHeld=> ?_;clear hKq Kq
   refine tkB 11 ?_;refine wpAnyH_done (by kernel_rfl) ?_ _;clear hHeld;have HL3:Hid ((bLs d (t+1)).length=kk+1):=by show _=_;rw[HBS.out,List.length_append,HKK.out];rfl
   go_wp2_with fail
   go_roundw
   case rel=>exact⟨t+1,D3,kk+1,f3,by omega,rfl,by go_num,HL3.out,by rw[HBS.out];exact O3.out,K3.out⟩
   case measure=>simp[intOf];omega
  ·have h1: ¬(t:Int)<(n2:Int):=by omega
   obtain rfl:n2=t:=by omega
   have HBV:Hid (bLs d n2=vLs d 0):=by show _=_;rw[Qa6,E2.out]
   rw[HBV.out]at HOW HKK;go_wp2_with fail
   clear y1 yz;go_loopw [3,40] (fun q i wq=> ∃(t:Nat) (A:Option Addr) (k c:Nat),t≤n1∧q= .slice A k c∧i= .int .i64 t∧(vLs d t).length=k∧wq.ownsRow u1.heap.size 9 1 (.slice A k c) k ((vLs d t).map Value.string)∧Below u1.heap.size u1 wq) (fun _ i _=>n1-(intOf i).toNat)
   case atStart=>exact⟨0,A,kk,cc,Nat.zero_le _,rfl,rfl,HKK.out,HOW.out,KW.out⟩
   case round=>
    rename World=>wv
    clear HOW HKK KW KA HBV hk9 hsv;obtain⟨t,A,kk,cc,ht',rfl,rfl,hkl,hown,hbel⟩:=hrel;have KV:Hid (Below u1.heap.size u1 wv):=hbel;have KB:=hd (Qc KX.out hbel);have hsv:=hbel.size;have hk9:kk≤5000:=by rw[←hkl];exact(EK HT.out t).2
    have HKK:Hid ((vLs d t).length=kk):=hkl;have HOW:Hid (wv.ownsRow u1.heap.size 9 1 (.slice A kk cc) kk ((vLs d t).map Value.string)):=hown;clear hbel hkl hown;by_cases hlt:t<n1
    ·obtain⟨x,hx⟩:=Zw E1.out hlt;have HXT:Hid (d.vs[t]? =some x):=hx;have HXM:Hid (x∈d.vs):=List.mem_of_getElem? hx;obtain⟨b,o,u,uc,s,sc,rfl,hl,b0,b1,b2,ru,rs⟩:=R1.out.2 t x hx;have RU:Hid (IntRow w u x.ups):=ru;have RS:Hid (ClRow w s x.m x.C x.R x.S):=rs;obtain⟨un,HUN⟩: ∃un,Hid (x.ups.length=un):=⟨_,rfl⟩
     obtain⟨mn,HMN⟩: ∃mn,Hid (x.m=mn):=⟨_,rfl⟩;rw[HUN.out]at b1;rw[HMN.out]at b2;have hun:un≤2:=by rw[←HUN.out];exact HT.out.two x HXM.out
     have hmn:mn≤120:=by rw[←HMN.out];exact HT.out.m x HXM.out
     rw[←KB.out.cell (p:=⟨_,_,none⟩) hl]at b0 b1 b2;have hl2:b<wv.heap.size:=Nat.lt_of_lt_of_le hl KB.out.size;have q0:(0:Int)≤(t:Int):=by omega
     have q1:(t:Int)<(n1:Int):=by omega
     clear hx hl ru rs;go_wp2_with fail
     obtain⟨Z,HZ⟩: ∃Z,Hid (wv.alloc (.cells #[.int .i64 x.id,.slice u un uc,.slice s mn sc] 72)=Z):=⟨_,rfl⟩;rw[HZ.out];have hb:Below wv.heap.size wv Z:=by rw[←HZ.out];exact(Below.refl _ _).alloc (Nat.le_refl _) _
     have z2:Z.cell? ⟨wv.heap.size,2,none⟩=some (.slice s mn sc):=by rw[←HZ.out];go_simp
     have zz:wv.heap.size<Z.heap.size:=by rw[←HZ.out];simp
     have KZ:Hid (Below u1.heap.size u1 Z):=KV.out.trans (hb.mono hsv);have OZ:=hd (Qf HOW.out hb);have NZ:Hid (some wv.heap.size≠(Value.slice A kk cc).ownBlock):=fun e=>by have:=(HOW.out.lt _ e.symm).2;omega
     clear HZ hb b0 b1 b2 hl2;refine(Oj _ (RU.out.below (Qc KX.out KZ.out)) HUN.out (HT.out.id x HXM.out) (HT.out.up x HXM.out) hun (HG.out.below (Qc KX.out KZ.out)).var).mono ?_;rintro e u2 ⟨rfl,hb⟩;replace z2:=cy hb z2;replace zz:wv.heap.size<u2.heap.size:=Nat.lt_of_lt_of_le zz hb.size;have K2:=hd (Qc KZ.out hb);have O2:=hd (Qf OZ.out hb)
     have hs2:u1.heap.size≤u2.heap.size:=K2.out.size;obtain⟨vl,HVL⟩: ∃vl,Hid (Ko x=vl):=⟨_,rfl⟩;rw[HVL.out];clear hb OZ KZ
     go_wp2_with (first
      | (at_builtin;refine Bc rfl _ _ rfl u1.heap.size (.slice A kk cc) kk (vLs d t) rfl (O2.out.alloc _) vl u2.heap.size rfl (by simp[go_sem]) (by omega) (by simp;omega) ?_)
      | fail)
     intro va q6 ho hg;obtain⟨A6,c6,rfl,_,_⟩:=Qo ho;have hba:Below u2.heap.size u2 (u2.alloc (.cells #[.string vl] 9)):=(Below.refl _ _).alloc (Nat.le_refl _) _;have O6:Hid (q6.ownsRow u1.heap.size 9 1 (.slice A6 (kk+1) c6) (kk+1) (((vLs d t++ [Ko x])++JV x 0).map Value.string)):=by rw[HVL.out,show JV x 0= []from rfl,List.append_nil,List.map_append];exact ho
     have K6:Hid (Below u1.heap.size u1 q6):=(K2.out.alloc hs2 _).grown hg (by simp;omega) (fun j hj=>(O2.out.lt j hj).1);have ZC:Hid (q6.cell? ⟨wv.heap.size,2,none⟩=some (.slice s mn sc)∧wv.heap.size<q6.heap.size):=⟨hg.cell (cy hba z2) NZ.out,Nat.lt_of_lt_of_le zz (Nat.le_trans hba.size hg.size)⟩;have w2:=ZC.out.1;have wz:=ZC.out.2;have HBW:Hid (u1.heap.size≤wv.heap.size):=hsv;clear ho hg hba z2 zz K2 O2 NZ KV HOW;go_wp2_with fail
     clear w2 wz;go_loopw [3,52] (fun q i wq=> ∃(k:Nat) (A:Option Addr) (m c:Nat),k≤mn∧q= .slice A m c∧i= .int .i64 k∧m=kk+1+k∧wq.ownsRow u1.heap.size 9 1 (.slice A m c) m (((vLs d t++ [Ko x])++JV x k).map Value.string)∧Below u1.heap.size u1 wq) (fun _ i _=>mn-(intOf i).toNat)
     case atStart=>exact⟨0,A6,kk+1,c6,Nat.zero_le _,rfl,rfl,rfl,O6.out,K6.out⟩
     case round=>
      rename World=>ws
      clear O6 K6 ZC;obtain⟨k,A,m9,cc9,hk',rfl,rfl,hm9,hown,hbel⟩:=hrel;have KS:Hid (Below u1.heap.size u1 ws):=hbel;have KE:=hd (Qc KX.out hbel);have hsw:=hbel.size;have HOW:Hid (ws.ownsRow u1.heap.size 9 1 (.slice A m9 cc9) m9 (((vLs d t++ [Ko x])++JV x k).map Value.string)):=hown;have HM9:Hid (m9=kk+1+k):=hm9
      have hmb:m9≤6000:=by omega
      clear hown hbel hm9;by_cases hlt':k<mn
      ·have hkm:k<x.m:=by rw[HMN.out];exact hlt'
       have hss:=HT.out.s x HXM.out k hkm;obtain⟨sb,so,rfl,hsl,d0,d1,d2,_⟩:=RS.out.2 k hkm;rw[←KE.out.cell (p:=⟨_,_,none⟩) hsl]at d0 d1 d2;have hsl2:sb<ws.heap.size:=Nat.lt_of_lt_of_le hsl KE.out.size;obtain⟨cx,HCX⟩: ∃cx,Hid (x.C k=cx):=⟨_,rfl⟩;obtain⟨rx,HRX⟩: ∃rx,Hid (x.R k=rx):=⟨_,rfl⟩;obtain⟨sx,HSX⟩: ∃sx,Hid (x.S k=sx):=⟨_,rfl⟩
       rw[HCX.out]at d0;rw[HRX.out]at d1;rw[HSX.out]at d2 hss;have ip:=Ni cx rx;have j0:(0:Int)≤(k:Int):=by omega
       have j1:(k:Int)<(mn:Int):=by omega
       clear hsl hkm;obtain⟨kf1,HKF1⟩: ∃k,Hid (plB cx rx=k):=⟨_,rfl⟩;rw[HKF1.out]at ip;obtain⟨kf2,HKF2⟩: ∃k,Hid (kf1++sSp=k):=⟨_,rfl⟩;have zkf2:kf2.size=kf1.size+(sSp).size:=by rw[←HKF2.out,ByteArray.size_append]
       have rkf2: ∀W,(Op.stringOp .add kf1 (⟨#[32]⟩:ByteArray)).run Tryz.prog W= .ok (.string kf2) W:=fun W=>by rw[←HKF2.out];exact run_string_add_sum W _ _ (by have:(⟨#[32]⟩:ByteArray).size=1:=rfl;omega)
       obtain⟨kf3,HKF3⟩: ∃k,Hid (kf2++sx=k):=⟨_,rfl⟩;have zkf3:kf3.size=kf2.size+(sx).size:=by rw[←HKF3.out,ByteArray.size_append]
       have rkf3: ∀W,(Op.stringOp .add kf2 (sx)).run Tryz.prog W= .ok (.string kf3) W:=fun W=>by rw[←HKF3.out];exact run_string_add_sum W _ _ (by omega)
       have HLS:Hid ((vLs d t++ [Ko x])++JV x (k+1)=((vLs d t++ [Ko x])++JV x k)++ [kf3]):=by
        show _=_;rw[DQ,←List.append_assoc,←HKF3.out,←HKF2.out,←HKF1.out];unfold Qnd;rw[HCX.out,HRX.out,HSX.out]
       go_upto_region 16 with fail
       obtain⟨V,HV⟩: ∃V,Hid (ws.alloc (.cells #[.int .i64 cx,.int .i64 rx,.string sx] 37)=V):=⟨_,rfl⟩;rw[HV.out];have v0:V.cell? ⟨ws.heap.size,0,none⟩=some (.int .i64 cx):=by rw[←HV.out];go_simp
       have v1:V.cell? ⟨ws.heap.size,1,none⟩=some (.int .i64 rx):=by rw[←HV.out];go_simp
       have v2:V.cell? ⟨ws.heap.size,2,none⟩=some (.string sx):=by rw[←HV.out];go_simp
       have vz:ws.heap.size<V.heap.size:=by rw[←HV.out];simp
       have hbV:Below ws.heap.size ws V:=by rw[←HV.out];exact(Below.refl _ _).alloc (Nat.le_refl _) _
       have VE0:Hid (V.drew.cell? ⟨ws.heap.size,0,none⟩=some (.int .i64 cx)∧V.drew.cell? ⟨ws.heap.size,1,none⟩=some (.int .i64 rx)∧V.drew.cell? ⟨ws.heap.size,2,none⟩=some (.string sx)∧ws.heap.size<V.drew.heap.size):=⟨v0,v1,v2,vz⟩;have KD:Hid (Below u1.heap.size u1 V.drew):=(KS.out.trans (hbV.mono hsw)).drew;have OD:=hd (Qf (Qf HOW.out hbV) ((Below.refl _ _).drew));have NB:Hid (some ws.heap.size≠(Value.slice A m9 cc9).ownBlock):=fun e=>by have:=(HOW.out.lt _ e.symm).2;omega
       have hdz:u1.heap.size≤V.drew.heap.size:=KD.out.size;clear d0 d1 d2 hsl2 v0 v1 v2 vz hbV HV;refine wp_region_held_drew (S:=(fun w'=>w'.cell? ⟨ws.heap.size,0,none⟩=some (.int .i64 cx)∧w'.cell? ⟨ws.heap.size,1,none⟩=some (.int .i64 rx)∧w'.cell? ⟨ws.heap.size,2,none⟩=some (.string sx)∧ws.heap.size<w'.heap.size)) (by kernel_rfl) VE0.out (fun hHeld=> ?_);refine tkA 0 ?_;refine tkB 1 ?_;refine tkA 2 ?_;refine tkB 3 ?_
       refine tkA 6 ?_;refine tkB 7 ?_;refine rqA 4 (fun Kq hKq=> ?_);go_simp;refine(Us cx rx _).mono ?_;rintro e q1 ⟨rfl,hb⟩;have Vq1:Hid (q1.cell? ⟨ws.heap.size,0,none⟩=some (.int .i64 cx)∧q1.cell? ⟨ws.heap.size,1,none⟩=some (.int .i64 rx)∧q1.cell? ⟨ws.heap.size,2,none⟩=some (.string sx)∧ws.heap.size<q1.heap.size):=⟨cy hb VE0.out.1,cy hb VE0.out.2.1,cy hb VE0.out.2.2.1,Nat.lt_of_lt_of_le VE0.out.2.2.2 hb.size⟩
       have K1:=hd (Qc KD.out hb);have O1:=hd (Qf OD.out hb);have h1z:u1.heap.size≤q1.heap.size:=K1.out.size;rw[HKF1.out];clear hb;refine hkB hKq (Vq1.out) fun hHeld=> ?_;clear hKq Kq
       refine tkA 5 ?_;refine tkB 8 ?_;refine rqA 9 (fun Kq hKq=> ?_);go_simp;obtain⟨q2,HQ2⟩: ∃q,Hid (q1.alloc (.cells #[.string kf3] 9)=q):=⟨_,rfl⟩;rw[HQ2.out];have hb:Below q1.heap.size q1 q2:=by rw[←HQ2.out];exact(Below.refl _ _).alloc (Nat.le_refl _) _
       have Vq2:Hid (q2.cell? ⟨ws.heap.size,0,none⟩=some (.int .i64 cx)∧q2.cell? ⟨ws.heap.size,1,none⟩=some (.int .i64 rx)∧q2.cell? ⟨ws.heap.size,2,none⟩=some (.string sx)∧ws.heap.size<q2.heap.size):=⟨cy hb Vq1.out.1,cy hb Vq1.out.2.1,cy hb Vq1.out.2.2.1,Nat.lt_of_lt_of_le Vq1.out.2.2.2 hb.size⟩;have s2:Hid (q2.cell? ⟨q1.heap.size,0,none⟩=some (.string kf3)):=by rw[←HQ2.out];show _=_;go_simp
       have K2:=hd (Qc K1.out hb);have O2:=hd (Qf O1.out hb);clear hb HQ2;refine hkB hKq (Vq2.out) fun hHeld=> ?_;clear hKq Kq;refine rqA 10 (fun Kq hKq=> ?_);refine Md (by rfl) _ _ (by rfl) u1.heap.size K2.out.size (.slice A m9 cc9) m9 (((vLs d t++ [Ko x])++JV x k)) (by rfl) O2.out kf3 q1.heap.size (by rfl) s2.out (by omega) ?_
       intro D3 f3 q3 ho hg;have Vq3:Hid (q3.cell? ⟨ws.heap.size,0,none⟩=some (.int .i64 cx)∧q3.cell? ⟨ws.heap.size,1,none⟩=some (.int .i64 rx)∧q3.cell? ⟨ws.heap.size,2,none⟩=some (.string sx)∧ws.heap.size<q3.heap.size):=⟨hg.cell Vq2.out.1 NB.out,hg.cell Vq2.out.2.1 NB.out,hg.cell Vq2.out.2.2.1 NB.out,Nat.lt_of_lt_of_le Vq2.out.2.2.2 hg.size⟩;have O3:Hid (q3.ownsRow u1.heap.size 9 1 (.slice D3 (m9+1) f3) (m9+1) ((((vLs d t++ [Ko x])++JV x k)++ [kf3]).map Value.string)):=ho;have K3:=hd (K2.out.grown hg K2.out.size (fun j hj=>(O2.out.lt j hj).1));clear ho hg;refine hkB hKq (Vq3.out) fun hHeld=> ?_;clear hKq Kq
       refine tkB 11 ?_;refine wpAnyH_done (by kernel_rfl) ?_ _;clear hHeld;go_wp2_with fail
       go_roundw
       case rel=>exact⟨k+1,D3,m9+1,f3,by omega,rfl,by go_num,by have:=HM9.out;omega,by rw[HLS.out];exact O3.out,K3.out⟩
       case measure=>simp[intOf];omega
      ·have h3: ¬(k:Int)<(mn:Int):=by omega
       obtain rfl:mn=k:=by omega
       have HVN:Hid ((vLs d t++ [Ko x])++JV x mn=vLs d (t+1)):=by show _=_;rw[Qa7 HXT.out,HMN.out]
       rw[HVN.out]at HOW
       have HLN:Hid ((vLs d (t+1)).length=m9):=by
        show _=_;rw[←HVN.out,List.length_append,List.length_append,Ny,HKK.out,HM9.out];rfl
       go_wp2_with fail
       go_roundw
       case rel=>exact⟨t+1,A,m9,cc9,by omega,rfl,by go_num,HLN.out,HOW.out,KS.out⟩
       case measure=>simp[intOf];omega
    ·have h2: ¬(t:Int)<(n1:Int):=by omega
     obtain rfl:n1=t:=by omega
     have HVA:Hid (vLs d n1=Qec d):=by show _=_;rw[←E1.out,Qfa]
     have hcl:=(EK HT.out n1).cat;rw[HVA.out]at HOW HKK hcl;have hne:Qec d≠ []:=by unfold Qec;simp
     obtain⟨jn,HJN⟩: ∃jn,Hid ((⟨(Lib.join ((Qec d).map (·.data.toList)) [10]).toArray⟩:ByteArray)=jn):=⟨_,rfl⟩;have hjz:jn.size+1=(XV (Qec d)).length:=by rw[←Qb8 _ hne,←HJN.out];show((Lib.join ((Qec d).map (·.data.toList)) [10]).toArray).size+1=_;simp
     have rj: ∀W,(Op.stringOp .add jn (⟨#[10]⟩:ByteArray)).run Tryz.prog W= .ok (.string (Qgq d)) W:=fun W=>by
      have e9:Qgq d=jn++(⟨#[10]⟩:ByteArray):=by
       rw[Qgq,if_pos HFF.out,←HJN.out,←Nl _ hne];apply ByteArray.ext;simp
      rw[e9];exact run_string_add_sum W _ _ (by have:(⟨#[10]⟩:ByteArray).size=1:=rfl;omega)
     go_wp2_with fail
     refine(NN _ HOW.out HKK.out hne (by omega) (by omega)).mono ?_;rintro e u9 ⟨rfl,hb⟩;rw[HJN.out];have K9:=hd (Qc KB.out hb);clear hb;go_wp2_with fail
     go_ret;exact⟨rfl,K9.out⟩
end Go.Proofs.YtbdhinckiccniaaGreatDoor
