import Derived.Test.YthjldgbfgapbcaaGreatDoorMn
import Derived.Test.YthjldgbfgapbcaaGreatDoorGhc
import Derived.Test.YthjldgbfgapbcaaGreatDoorGge
import Derived.Test.YthjldgbfgapbcaaGreatDoorGgd
import Derived.Stop.RegionWithIn
import Derived.Maps.OwnIn
import Derived.OwnWalkIn
import Derived.Test.YthjldgbfgapbcaaGreatDoorBase
import Derived.Deep.RegionHeld3
import Derived.OrdersIn
import Derived.ControlIn
import Derived.CallsIn
import Derived.RangeFuncCalls
set_option linter.unusedSimpArgs false
set_option linter.unusedVariables false
set_option maxHeartbeats 4000000
set_option maxRecDepth 100000
namespace Go.Proofs.YthjldgbfgapbcaaGreatDoor
open Go.RowKit Go.Maps
theorem Qrj:(Tryz.prog.info? 9).map (fun i=>(i.zero,i.size,i.bytes))=some (some (.string ⟨#[]⟩),1,16):=by kernel_rfl
theorem Qrk:(Tryz.prog.info? 61).map (fun i=>(i.zero,i.size,i.bytes))=some (some (.map none),1,8):=by kernel_rfl
def stL (s:ByteArray):List Value:= [.string s]
def mpL (b:Nat):List Value:= [.map (some b)]
theorem Mf (s:ByteArray):(stL s).length=1:=rfl
theorem Qn4 (b:Nat):(mpL b).length=1:=rfl
structure MpsOf (W:World) (ms:List Nat) (Es:List (List CL)):Prop where
 len:ms.length=Es.length
 has: ∀(j b:Nat),ms[j]? =some b→ ∃n D E,Es[j]? =some E∧W.ownsMap Tryz.prog 38 Zs b n D∧CmD D E
theorem MpsOf.kept {W W':World} {ms:List Nat} {Es:List (List CL)} (h:MpsOf W ms Es) (hb: ∀b:Nat,b∈ms→W'.heap[b]? =W.heap[b]?):MpsOf W' ms Es:=⟨h.len,fun j b hj=>by
 obtain⟨n,D,E,h1,h2,h3⟩:=h.has j b hj;obtain⟨es,clock,h4,Ft,hs,hD⟩:=h2
 exact⟨n,D,E,h1,⟨es,clock,(hb b (List.mem_of_getElem? hj)).trans h4,Ft,hs,hD⟩,h3⟩⟩
theorem MpsOf.lt {W:World} {ms:List Nat} {Es:List (List CL)} (h:MpsOf W ms Es): ∀b:Nat,b∈ms→b<W.heap.size:=fun b hb=>by
 obtain⟨j,hj⟩:=List.getElem?_of_mem hb;obtain⟨n,D,E,_,h2,_⟩:=h.has j b hj;exact h2.lt
theorem MpsOf.below {W W':World} {ms:List Nat} {Es:List (List CL)} (h:MpsOf W ms Es) (hb:Below W.heap.size W W'):MpsOf W' ms Es:=h.kept (fun b hm=>hb.block b (h.lt b hm))
theorem Qe3 (w:World):(zeroValue 49).run Tryz.prog w= .ok (.agg #[.int .i64 0,.int .i64 0,.string ⟨#[]⟩]) w:=by kernel_rfl
theorem Qgx (c r:Int) (s:ByteArray) (w:World):(Instr.field 49 (.agg #[.int .i64 c,.int .i64 r,.string s]) 1).run Tryz.prog w= .ok (.string s) w:=by kernel_rfl
theorem Qb0 {W:World} {b n:Nat} {D:DataW Value} {p q:Int} {l:Lit} {v:Value} (hown:W.ownsMap Tryz.prog 38 Zs b n D) (hl:keyOf Tryz.prog 38 (.agg #[.int .i64 p,.int .i64 q])=some l)
  (hv:D.atKey l (.held (.agg #[.int .i64 0,.int .i64 0,.string ⟨#[]⟩]))= .held v):(Instr.lookup 61 (.map (some b)) (.agg #[.int .i64 p,.int .i64 q]) false).run Tryz.prog W= .ok v W:=by
 obtain⟨u,ps,h1,h2⟩:=hown.lookup keyedRef Tryz.underlying61 (Qe3 W) (rfl:Zs _=some (.held _,[])) hl;rw [hv]at h2;unfold Zs at h2;simp at h2;rw [h1,h2.1]
def VL (p q:Int) (Es:List (List CL)):List ByteArray:=Es.map (atC p q)
theorem UX {A:Option Addr} {k cap:Nat} {ms:List Nat} {Es:List (List CL)} {p q:Int} {l:Lit} (w:World) (h:RowAt 1 mpL w A ms) (hm:MpsOf w ms Es) (hk:ms.length=k) (hk9:k≤1000) (hl:keyOf Tryz.prog 38 (.agg #[.int .i64 p,.int .i64 q])=some l):
  Calls Tryz.prog 63 #[.slice A k cap,.agg #[.int .i64 p,.int .i64 q]] w fun e w'=> ∃A' c',e= .returned (.slice A' k c')∧w'.ownsRow w.heap.size 9 1 (.slice A' k c') k (Qu stL (VL p q Es))∧Below w.heap.size w w':=by
 have HR:Hid (RowAt 1 mpL w A ms):=h;have HM:Hid (MpsOf w ms Es):=hm;have HK:Hid (ms.length=k):=hk;have HL:Hid (keyOf Tryz.prog 38 (.agg #[.int .i64 p,.int .i64 q])=some l):=hl;clear h hm hk hl;obtain⟨XX,HXX⟩: ∃XX,Hid (Qu stL (VL p q Es)=XX):=⟨_,rfl⟩;rw [HXX.out]
 obtain⟨i0,hi,hz0,hz1,hz2⟩:=info_parts Qrj;go_enter Tryz.func63,Tryz.ntmps63;go_wp2_with (refine wpList_make_full _ rfl _ _ 74 rfl w.heap.size 9 i0 _ 1 Tryz.underlying74 hi hz0 hz1 _ _ _ _ k rfl rfl rfl rfl ?m1 ?m2 ?m3 ?_)
 case m1=>rw [hz2];omega
 case m2=>unfold maxLen;omega
 case m3=>simp
 intro w1 hown hgrow;obtain⟨g,HGE⟩: ∃g,Hid (w.heap.size+1=g):=⟨_,rfl⟩;obtain⟨ys,hown⟩: ∃ys,w1.ownsRow w.heap.size 9 1 (.slice (some ⟨g,0,none⟩) k k) k ys:=by rw [←HGE.out];exact⟨_,hown⟩
 have B1:Hid (Below (w.heap.size+1) (w.alloc (.cells #[.int .i64 p,.int .i64 q] 38)) w1):=(Below.refl _ _).grown hgrow (by simp) (fun k hk=>by cases hk);have HO:Hid (w1.ownsRow w.heap.size 9 1 (.slice (some ⟨g,0,none⟩) k k) k ys):=hown;have y0:w1.cell? ⟨w.heap.size,0,none⟩=some (.int .i64 p):=(B1.out.cell (p:=⟨w.heap.size,0,none⟩) (by simp)).trans (by simp);have y1:w1.cell? ⟨w.heap.size,1,none⟩=some (.int .i64 q):=(B1.out.cell (p:=⟨w.heap.size,1,none⟩) (by simp)).trans (by simp);have Y0:Hid (w1.cell? ⟨w.heap.size,0,none⟩=some (.int .i64 p)):=y0;have Y1:Hid (w1.cell? ⟨w.heap.size,1,none⟩=some (.int .i64 q)):=y1;have BW:Hid (Below w.heap.size w w1):=((Below.refl _ w).alloc (Nat.le_refl _) _).trans (B1.out.mono (by omega))
 have Z1:Hid (w.heap.size<w1.heap.size):=World.block_lt_of_cell? w1 ⟨w.heap.size,0,none⟩ y0;clear hown hgrow y0 y1 B1;rw [HGE.out];go_wp2_with fail
 go_loopw [13] (fun i wr=> ∃t:Nat,t≤k∧i= .int .i64 t∧(∃ys,wr.ownsRow w.heap.size 9 1 (.slice (some ⟨g,0,none⟩) k k) k ys∧ ∀j,j<t→ys[j]? =XX[j]?)∧w1.grownBy wr (some g)) (fun i _=>k-(intOf i).toNat)
 case atStart=>exact⟨0,Nat.zero_le _,rfl,⟨ys,HO.out,fun j hj=>by omega⟩,World.grownBy.refl _ _⟩
 case round=>
  clear HO;obtain⟨t,ht,rfl,⟨ys,hown,hys⟩,hgr⟩:=hrel;have HG:Hid (w1.grownBy wr (some g)):=hgr;have gne:w.heap.size≠g:=by have:=HGE.out;omega
  have y0:=hgr.cell Y0.out (fun e=>gne (Option.some.inj e));have y1:=hgr.cell Y1.out (fun e=>gne (Option.some.inj e));have yz:w.heap.size<wr.heap.size:=Nat.lt_of_lt_of_le Z1.out hgr.size;have KB:Hid (Below w.heap.size w wr):=BW.out.grown hgr BW.out.size (fun j hj=>by cases hj;have:=HGE.out;omega);by_cases hlt:t<k
  ·obtain⟨b,hb⟩: ∃b,ms[t]? =some b:=⟨_,List.getElem?_eq_getElem (by rw [HK.out];exact hlt)⟩;obtain⟨nn,D,E,hE,hmap,hcm⟩:=HM.out.has t b hb;obtain⟨lc,lr,hlk⟩:=hcm.look HL.out
   have hmap2:wr.ownsMap Tryz.prog 38 Zs b nn D:=by
    have hbl:=hmap.lt;obtain⟨es,clock,h4,Ft,hs,hD⟩:=hmap;exact⟨es,clock,(KB.out.block b hbl).trans h4,Ft,hs,hD⟩
   obtain⟨sa,HSA⟩: ∃sa,Hid (atC p q E=sa):=⟨_,rfl⟩;rw [HSA.out]at hlk;have hrun:(Instr.lookup 61 (.map (some b)) (.agg #[.int .i64 p,.int .i64 q]) false).run Tryz.prog wr= .ok (.agg #[.int .i64 lc,.int .i64 lr,.string sa]) wr:=Qb0 hmap2 HL.out hlk;have hfl:=Qgx lc lr sa
   have HXT:Hid (XX[t]? =some (.string sa)):=by
    show _=_;have h9:=Jb Mf 0 (by decide) (VL p q Es) t;rw [←HXX.out,show t=t*1+0 by omega,h9,VL,List.getElem?_map,hE,←HSA.out];rfl
   obtain⟨rb,ro,rfl,hrb,hrc⟩:=HR.out.2 t b hb;have c0:=hrc 0 (.map (some b)) rfl;simp only [Nat.mul_one,Nat.add_zero]at c0;rw [←KB.out.cell (p:=⟨_,_,none⟩) hrb]at c0;have hrb2:rb<wr.heap.size:=by have:=KB.out.size;omega
   have q0:(0:Int)≤(t:Int):=by omega
   have q1:(t:Int)<(k:Int):=by omega
   obtain⟨A',cap',e,_,hc⟩:=Qh hown;cases e
   obtain⟨g1,e1,_,hg1,d0,f0⟩:=hc t (by omega);cases e1
   have hl1:=hown.1;obtain⟨xv,hxv⟩: ∃x,ys[t]? =some x:=⟨_,List.getElem?_eq_getElem (by omega)⟩;rw [hxv]at d0;have HOW:Hid (wr.ownsRow w.heap.size 9 1 (.slice (some ⟨g,0,none⟩) k k) k ys):=hown;have HYS:Hid (∀j,j<t→ys[j]? =XX[j]?):=hys;clear hown hys hgr hmap hmap2 hlk hcm hc hxv;go_wp2_with fail
   all_goals
    go_roundw
    case rel=>
     obtain⟨o1,g1⟩:=HOW.out.stored t (.string sa);refine⟨t+1,by omega,by go_num,⟨_,o1,fun j hj=> ?_⟩,XK HG.out g1⟩;by_cases e:t=j
     ·subst e;rw [List.getElem?_set_self (by have:=HOW.out.1;omega)];exact HXT.out.symm
     ·rw [List.getElem?_set_ne e];exact HYS.out j (by omega)
    case measure=>simp [intOf];omega
  ·have q1: ¬(t:Int)<(k:Int):=by omega
   obtain rfl:t=k:=by omega
   have HYE:Hid (ys=XX):=by
    show ys=XX;apply List.ext_getElem?;intro j;by_cases h9:j<t
    ·exact hys j h9
    ·have h8:XX.length=t:=by rw [←HXX.out,Jy Mf,VL,List.length_map,←HM.out.len,HK.out];omega
     rw [List.getElem?_eq_none (by have:=hown.1;omega),List.getElem?_eq_none (by omega)]
   rw [HYE.out]at hown;have HOW:Hid (wr.ownsRow w.heap.size 9 1 (.slice (some ⟨g,0,none⟩) t t) t XX):=hown;clear hown hys hgr;go_wp2_with fail
   go_ret;exact⟨_,_,rfl,HOW.out,KB.out⟩
end Go.Proofs.YthjldgbfgapbcaaGreatDoor
namespace Go.Proofs.YthjldgbfgapbcaaGreatDoor
open Go.RowKit Go.Maps Go.Sort Go.Shelf
structure SH where
 A:Option Addr
 n:Nat
 cap:Nat
 C:Nat→Int
 R:Nat→Int
 S:Nat→ByteArray
def shL (x:SH):List Value:= [.slice x.A x.n x.cap]
def SH.E (x:SH):List CL:=clE x.C x.R x.S x.n
structure ShOk (W:World) (x:SH):Prop where
 row:ClRow W x.A x.n x.C x.R x.S
 n120:x.n≤120
 ref: ∀i,i<x.n→Qi (x.C i) (x.R i)=true
 rise:upC x.E
theorem ShOk.below {W W':World} {x:SH} (h:ShOk W x) (hb:Below W.heap.size W W'):ShOk W' x:=⟨h.row.below hb,h.n120,h.ref,h.rise⟩
def Qcr (E:List CL) (x:CL):List CL:=Hk x.c x.r E++ [x]
def Kp (E L:List CL):List CL:=L.foldl Qcr E
theorem Qg4 (E L:List CL) (x:CL):Kp E (L++ [x])=Qcr (Kp E L) x:=by simp [Kp,List.foldl_append]
theorem Qkb {E:List CL} {x:CL} {p q:Int}:Zo p q (Qcr E x)↔Zo p q E∨(x.c=p∧x.r=q):=by
 unfold Zo Qcr;constructor
 ·rintro⟨y,hy,e⟩;rcases List.mem_append.1 hy with hy | hy
  ·exact .inl ⟨y,(offP_mem.1 hy).1,e⟩
  ·rw [List.mem_singleton]at hy;subst hy;exact .inr e
 ·rintro(⟨y,hy,e⟩ | e)
  ·by_cases h:y.c=x.c∧y.r=x.r
   ·exact⟨x,by simp,by rw [←h.1,←h.2];exact e⟩
   ·exact⟨y,List.mem_append_left _ (offP_mem.2 ⟨hy,h⟩),e⟩
  ·exact⟨x,by simp,e⟩
theorem Qa7 {p q:Int}: ∀{L E:List CL},Zo p q (Kp E L)↔Zo p q E∨Zo p q L
 | [],E=>by simp [Kp,Zo]
 | x::L,E=>by
  have h:Kp E (x::L)=Kp (Qcr E x) L:=rfl;rw [h,Qa7,Qkb,VC,or_assoc]
theorem Nu: ∀{L E:List CL},(Kp E L).length≤E.length+L.length
 | [],E=>by simp [Kp]
 | x::L,E=>by
  have h:Kp E (x::L)=Kp (Qcr E x) L:=rfl;have h1:=Nu (L:=L) (E:=Qcr E x)
  have h2:(Qcr E x).length≤E.length+1:=by
   unfold Qcr;rw [List.length_append];have:(Hk x.c x.r E).length≤E.length:=List.length_filter_le _ _;simp only [List.length_singleton];omega
  rw [h,List.length_cons];omega
def Ko (shs:List SH) (i:Nat):List CL:=(shs.take i).flatMap SH.E
theorem Dj {shs:List SH} {i:Nat} {x:SH} (h:shs[i]? =some x):Ko shs (i+1)=Ko shs i++x.E:=by
 unfold Ko;rw [List.take_add_one,h];simp
theorem Gv {shs:List SH} (hn: ∀x∈shs,x.n≤120): ∀i,(Ko shs i).length≤i*120
 | 0=>by simp [Ko]
 | i+1=>by
  cases h:shs[i]? with
  | none=>
   have:Ko shs (i+1)=Ko shs i:=by unfold Ko;rw [List.take_add_one,h];simp
   rw [this];have:=Gv hn i;omega
  | some x=>
   rw [Dj h,List.length_append];have h1:=Gv hn i;have h2:=hn x (List.mem_of_getElem? h);have h3:x.E.length=x.n:=Ym _ _ _ _;omega
theorem RowAt.heap {α:Type} {k:Nat} {f:α→List Value} {W W':World} {A:Option Addr} {L:List α} (h:RowAt k f W A L) (hs:W.heap.size≤W'.heap.size) (hb: ∀ad,A=some ad→W'.heap[ad.block]? =W.heap[ad.block]?):RowAt k f W' A L:=
 ⟨h.1,fun i x hx=>by
  obtain⟨b,o,e,hl,hc⟩:=h.2 i x hx
  exact⟨b,o,e,Nat.lt_of_lt_of_le hl hs,fun j v hv=>(show W'.cell? ⟨b,o+i*k+j,none⟩=W.cell? ⟨b,o+i*k+j,none⟩from World.cell?_of_block (hb ⟨b,o,none⟩ e)).trans (hc j v hv)⟩⟩
theorem Qby {W W':World} {b n:Nat} {D:DataW Value} (ho:W.ownsMap Tryz.prog 38 Zs b n D) (hb:Below W.heap.size W W'):W'.ownsMap Tryz.prog 38 Zs b n D:=by
 have hl:=ho.lt;obtain⟨es,clock,h1,Ft,hs,hD⟩:=ho;exact⟨es,clock,(hb.block b hl).trans h1,Ft,hs,hD⟩
theorem Bi {W:World} {b n:Nat} {D:DataW Value} (h:W.ownsMap Tryz.prog 38 Zs b n D): ∃o,W.heap[b]? =some o∧ ∀cur t fr,o≠ .cells cur t fr:=by
 obtain⟨es,clock,h4,Ft,hs,hD⟩:=h;exact⟨_,h4,fun _ _ _ e=>by cases e⟩
theorem Ox {W W':World} {b n:Nat} {D:DataW Value} (ho:W.ownsMap Tryz.prog 38 Zs b n D) (hb:W'.heap[b]? =W.heap[b]?):W'.ownsMap Tryz.prog 38 Zs b n D:=by
 obtain⟨es,clock,h1,Ft,hs,hD⟩:=ho;exact⟨es,clock,hb.trans h1,Ft,hs,hD⟩
theorem Qfv {W W':World} {B n s:Nat} {e:TypeId} {v:Value} {xs:List Value} (h:W.ownsRow B e s v n xs) (hb: ∀g,v.ownBlock=some g→W'.heap[g]? =W.heap[g]?):W'.ownsRow B e s v n xs:=by
 refine⟨h.1,?_⟩;rcases h.2 with h1 | ⟨g,cap,cur,rfl,h2,h3,h4⟩
 ·exact .inl h1
 ·exact .inr ⟨g,cap,cur,rfl,h2,(hb g rfl).trans h3,h4⟩
theorem NG {W:World} {B n m cap s:Nat} {e:TypeId} {A:Option Addr} {ad:Addr} {xs:List Value} (h:W.ownsRow B e s (.slice A m cap) n xs) (hA:A=some ad):(Value.slice (some ad) m cap).ownBlock=some ad.block:=by
 subst hA;rcases h.2 with⟨h1,_⟩ | ⟨g,cap',cur,h1,_⟩
 ·cases h1
 ·cases h1;rfl
theorem Qc6 {n:Nat} {w W:World} (h:Below n w W):Below n w W.drew:=by
 have:=Qln h 1;exact this
theorem Qbs {W:World} {B n s:Nat} {e:TypeId} {v:Value} {xs:List Value} (h:W.ownsRow B e s v n xs) {b:Nat} (ho: ∃o,W.heap[b]? =some o∧ ∀cur t fr,o≠ .cells cur t fr):some b≠v.ownBlock:=fun e9=>by
 rcases h.2 with⟨rfl,_⟩ | ⟨g,cap,cur,rfl,_,hg,_⟩
 ·cases e9
 ·cases e9
  obtain⟨o,h1,h2⟩:=ho;rw [hg]at h1;cases h1
  exact h2 _ _ _ rfl
theorem MpsOf.obj {W:World} {ms:List Nat} {Es:List (List CL)} (h:MpsOf W ms Es): ∀b:Nat,b∈ms→ ∃o,W.heap[b]? =some o∧ ∀cur t fr,o≠ .cells cur t fr:=fun b hb=>by
 obtain⟨j,hj⟩:=List.getElem?_of_mem hb;obtain⟨n,D,E,_,h2,_⟩:=h.has j b hj;exact Bi h2
theorem MpsOf.snoc {W:World} {ms:List Nat} {Es:List (List CL)} {b n:Nat} {D:DataW Value} {E:List CL} (h:MpsOf W ms Es) (hm:W.ownsMap Tryz.prog 38 Zs b n D) (hc:CmD D E):MpsOf W (ms++ [b]) (Es++ [E]):=⟨by simp [h.len],fun j b' hj=>by
 by_cases hl:j<ms.length
 ·rw [List.getElem?_append_left hl]at hj;obtain⟨n',D',E',h1,h2,h3⟩:=h.has j b' hj;exact⟨n',D',E',by rw [List.getElem?_append_left (by rw [←h.len];exact hl)];exact h1,h2,h3⟩
 ·rw [List.getElem?_append_right (by omega)]at hj
  obtain⟨e1,e2⟩:j-ms.length=0∧b=b':=by
   cases hz:j-ms.length with
   | zero=>rw [hz]at hj;exact⟨rfl,by simpa using hj⟩
   | succ m=>rw [hz]at hj;simp at hj
  subst e2
  exact⟨n,D,E,by rw [List.getElem?_append_right (by rw [←h.len];omega),←h.len,e1];rfl,hm,hc⟩⟩
theorem Qpp (n:Nat) (hn:1≤n) (l Bm:Nat) (As:Option Addr) (k cs:Nat) (shs:List SH) (J:Nat→List CL→World→Prop) (W:World)
  (hbox:W.cell? ⟨Bm,0,none⟩=some (.slice As k cs)) (hrow:RowAt 1 shL W As shs) (hk:shs.length=k) (hk9:k≤3) (hok: ∀x∈shs,ShOk W x)
  (hJ0: ∀W1,Below W.heap.size W W1→J W1.heap.size [] W1) (hJ: ∀H pre Wa Wb,J H pre Wa→Below Wa.heap.size Wa Wb→J H pre Wb)
  (hY: ∀H pre x A c Wa,J H pre Wa→pre.length<1000→(∃B,Wa.ownsRow B 9 1 (.slice A k c) k (Qu stL (VL x.c x.r (shs.map SH.E))))→YieldAt Fence.wide (n-1) Tryz.prog l #[.agg #[.int .i64 x.c,.int .i64 x.r],.slice A k c] Wa fun e Wb=>e= .returned (.bool true)∧J H (pre++ [x]) Wb∧(∀b,W.heap.size≤b→b<H→Wb.heap[b]? =Wa.heap[b]?)∧Wa.heap.size≤Wb.heap.size):
  CallsIn Fence.wide n Tryz.prog 62 #[.func (.yield l) #[] #[],.pointer (some ⟨Bm,0,none⟩)] W fun e W'=>(∃v,e= .returned v)∧ ∃H M,upC M∧(∀p q,Zo p q M↔ ∃x∈shs,Zo p q x.E)∧J H M W':=by
 have HB:Hid (W.cell? ⟨Bm,0,none⟩=some (.slice As k cs)):=hbox;have HR:Hid (RowAt 1 shL W As shs):=hrow;have HK:Hid (shs.length=k):=hk;have HOK:Hid (∀x∈shs,ShOk W x):=hok;have HJ0:Hid (∀W1,Below W.heap.size W W1→J W1.heap.size [] W1):=hJ0;have HJ:Hid (∀H pre Wa Wb,J H pre Wa→Below Wa.heap.size Wa Wb→J H pre Wb):=hJ;have HY:Hid (_):=hY
 have hBm:Bm<W.heap.size:=World.block_lt_of_cell? W ⟨Bm,0,none⟩ hbox;clear hbox hrow hk hok hJ0 hJ hY;have hmm:= @run_makeMap Tryz.prog;refine callsIn_of_wp Tryz.func62 rfl trivial ?_ rfl;simp only [Tryz.ntmps62,List.size_toArray,List.length_cons,List.length_nil,Nat.reduceAdd,Nat.reduceSub,Array.replicate_succ,Array.replicate_zero,List.push_toArray,List.append_toArray,List.nil_append,List.cons_append];have hbc:=HB.out;gi_wp2
 gi_loopw [4,14] (fun v i wr=> ∃(t:Nat) (F:Option Addr) (c:Nat) (ms:List Nat) (cnt:Nat) (Da:DataW Value),t≤k∧v= .slice F t c∧i= .int .i64 t∧wr.ownsRow (W.heap.size+1) 61 1 (.slice F t c) t (Qu mpL ms)∧ms.length=t∧MpsOf wr ms ((shs.take t).map SH.E)∧(∀b∈ms,W.heap.size<b)∧wr.ownsMap Tryz.prog 38 Zs W.heap.size cnt Da∧CmD Da (Kp [] (Ko shs t))∧cnt≤t*120∧Below W.heap.size W wr) (fun _ i _=>k-(intOf i).toNat)
 case atStart=>exact⟨0,none,0,[],0,_,Nat.zero_le _,rfl,rfl,⟨rfl,.inl ⟨rfl,rfl⟩⟩,rfl,⟨rfl,(fun j b hj=>by simp at hj)⟩,(fun b hb=>by simp at hb),World.ownsMap_made _ _ _ _,CmD.nil,by omega,by go_grown⟩
 case round=>
  obtain⟨t,F,c,ms,cnt,Da,ht,rfl,rfl,hown,hml,hmps,hgt,hall,hcm,hcnt,hbel⟩:=hrel;have HO:Hid (wr.ownsRow (W.heap.size+1) 61 1 (.slice F t c) t (Qu mpL ms)):=hown;have HML:Hid (ms.length=t):=hml;have HMS:Hid (MpsOf wr ms ((shs.take t).map SH.E)):=hmps;have HGT:Hid (∀b∈ms,W.heap.size<b):=hgt;have HA:Hid (wr.ownsMap Tryz.prog 38 Zs W.heap.size cnt Da):=hall;have HCM:Hid (CmD Da (Kp [] (Ko shs t))):=hcm
  have KA:Hid (Below W.heap.size W wr):=hbel;have hsz:=hbel.size;clear hown hml hmps hgt hall hcm hbel;by_cases hlt:t<k
  ·obtain⟨x,hx⟩: ∃x,shs[t]? =some x:=⟨_,List.getElem?_eq_getElem (by rw [HK.out];exact hlt)⟩;have HX:Hid (shs[t]? =some x):=hx;obtain⟨rb,ro,rfl,hrb,hrc⟩:=HR.out.2 t x hx;have c0:=hrc 0 (.slice x.A x.n x.cap) rfl;simp only [Nat.mul_one,Nat.add_zero]at c0;rw [←KA.out.cell (p:=⟨_,_,none⟩) hrb]at c0;have hrb2:rb<wr.heap.size:=by omega
   have HSO:Hid (ShOk wr x):=(HOK.out x (List.mem_of_getElem? hx)).below KA.out;have q0:(0:Int)≤(t:Int):=by omega
   have q1:(t:Int)<(k:Int):=by omega
   obtain⟨kl,hkl⟩:=DZ (n:=x.n) HSO.out.ref;have HKL:Hid (∀i,i<x.n→keyOf Tryz.prog 38 (.agg #[.int .i64 (x.C i),.int .i64 (x.R i)])=some (kl i)):=hkl;clear hx hrc hkl;gi_wp2
   refine⟨trivial,?_⟩;refine(callsIn_wide.2 (Xm _ HSO.out.row HSO.out.n120 HKL.out)).mono ?_;rintro e w2 ⟨rfl,hmap,hb⟩;obtain⟨mb,HMB⟩: ∃mb,Hid (wr.heap.size=mb):=⟨_,rfl⟩;rw [HMB.out]at hmap;rw [HMB.out];have HM2:Hid (w2.ownsMap Tryz.prog 38 Zs mb x.n (clD kl x.C x.R x.S x.n)):=hmap
   have HCX:Hid (CmD (clD kl x.C x.R x.S x.n) x.E):=Qc4 x.n HKL.out (Dh HSO.out.rise);have HSO2:=hd (HSO.out.below hb);have HO2:=hd (Qe HO.out hb);have HMS2:=hd (HMS.out.below hb);have HA2:Hid (w2.ownsMap Tryz.prog 38 Zs W.heap.size cnt Da):=Qby HA.out hb;have KA2:=hd (Qb KA.out hb);have hmb1:W.heap.size<mb:=by have h1:=HMB.out;have h2:=HA.out.lt;omega
   have hmb2:mb<w2.heap.size:=hmap.lt;clear hmap hb HSO HO HMS HA KA c0 hrb2 hsz;have hi0:=Qrk;obtain⟨i0,hi,iz0,iz1,iz2⟩:=info_parts hi0;clear hi0
   gi_wp2_with (first
    | (gi_at_builtin;refine wpListIn_append_own _ rfl _ _ 101 rfl (W.heap.size+1) 61 i0 (.map none) 1 8 Tryz.underlying101 hi iz0 iz1 iz2 rfl (by decide) _ _ _ rfl (HO2.out.alloc _) ⟨w2.heap.size,0,none⟩ 1 1 [.map (some mb)] rfl rfl ?c1 ?c2 ?c3 ?c4 ?c5 ?_)
    | gi_in)
   case c1=>intro jj u hu;match jj,hu with | 0,hu=>simp at hu;subst hu;simp [Addr.add]
   case c2=>simp [Value.oneCell']
   case c3=>unfold maxLen;omega
   case c4=>omega
   case c5=>simp;omega
   intro v' w3 hown' hg3 _;obtain⟨F3,c3,rfl,_,_⟩:=Qh hown';have HO3:Hid (w3.ownsRow (W.heap.size+1) 61 1 (.slice F3 (t+1) c3) (t+1) (Qu mpL (ms++ [mb]))):=by rw [Ye];exact hown'
   have hk3: ∀b:Nat,b<w2.heap.size→(∃o,w2.heap[b]? =some o∧ ∀cur t fr,o≠ .cells cur t fr)→w3.heap[b]? =w2.heap[b]?:=fun b hb9 ho9=>by
    have e1:=Below.heap_alloc w2 (.cells #[.map (some mb)] 61) b hb9;exact(hg3.block b (by simp;omega) (Qbs (HO2.out.alloc _) (by obtain⟨o,h1,h2⟩:=ho9;exact⟨o,e1.trans h1,h2⟩))).trans e1
   have KA3:Hid (Below W.heap.size W w3):=(KA2.out.alloc (by omega) _).grown hg3 (by simp;omega) (fun j hj=>by have:=(HO2.out.lt j hj).1;omega);have HA3:Hid (w3.ownsMap Tryz.prog 38 Zs W.heap.size cnt Da):=Ox HA2.out (hk3 _ HA2.out.lt (Bi HA2.out));have HM3:Hid (w3.ownsMap Tryz.prog 38 Zs mb x.n (clD kl x.C x.R x.S x.n)):=Ox HM2.out (hk3 _ HM2.out.lt (Bi HM2.out))
   have HMS3:Hid (MpsOf w3 (ms++ [mb]) ((shs.take (t+1)).map SH.E)):=by
    have h9:(shs.take (t+1)).map SH.E=(shs.take t).map SH.E++ [x.E]:=by rw [List.take_add_one,HX.out];simp
    rw [h9];exact MpsOf.snoc (HMS2.out.kept (fun b hb9=>hk3 b (HMS2.out.lt b hb9) (HMS2.out.obj b hb9))) HM3.out HCX.out
   have HGT3:Hid (∀b∈ms++ [mb],W.heap.size<b):=fun b hb9=>by
    rcases List.mem_append.1 hb9 with h9 | h9
    ·exact HGT.out b h9
    ·rw [List.mem_singleton]at h9;omega
   have HML3:Hid ((ms++ [mb]).length=t+1):=by show _=_;rw [List.length_append,HML.out];rfl
   have hz3:W.heap.size<w3.heap.size:=HA3.out.lt;clear hown' hg3 hk3 HO2 HMS2 HA2 KA2 HM2 HM3 HGT HML HSO2 HCX;gi_wp2
   gi_loopw [25] (fun i wy=> ∃(s cn:Nat) (Dy:DataW Value),s≤x.n∧i= .int .i64 s∧wy.ownsMap Tryz.prog 38 Zs W.heap.size cn Dy∧CmD Dy (Kp [] (Ko shs t++clE x.C x.R x.S s))∧cn≤t*120+s∧(∀b:Nat,W.heap.size<b→b<w3.heap.size→wy.heap[b]? =w3.heap[b]?)∧w3.heap.size≤wy.heap.size∧Below W.heap.size W wy) (fun i _=>x.n-(intOf i).toNat)
   case atStart=>exact⟨0,cnt,Da,Nat.zero_le _,rfl,HA3.out,by rw [show clE x.C x.R x.S 0= []from rfl,List.append_nil];exact HCM.out,by omega,fun _ _ _=>rfl,Nat.le_refl _,KA3.out⟩
   case round=>
    obtain⟨s,cn,Dy,hs,rfl,hal,hcy,hcn,hbk,hsz,hbel⟩:=hrel;have HAL:Hid (wr.ownsMap Tryz.prog 38 Zs W.heap.size cn Dy):=hal;have HCY:Hid (CmD Dy (Kp [] (Ko shs t++clE x.C x.R x.S s))):=hcy;have HBK:Hid (∀b:Nat,W.heap.size<b→b<w3.heap.size→wr.heap[b]? =w3.heap[b]?):=hbk;have KY:Hid (Below W.heap.size W wr):=hbel;clear hal hcy hbk hbel;by_cases hls:s<x.n
    ·obtain⟨xa,xo,hxA,hl,c0,c1,c2,_⟩:=(HOK.out x (List.mem_of_getElem? HX.out)).row.2 s hls;rw [hxA];rw [←KY.out.cell (p:=⟨_,_,none⟩) hl]at c0 c1 c2;have hsy:=KY.out.size;have hl2:xa<wr.heap.size:=Nat.lt_of_lt_of_le hl hsy;have p0:(0:Int)≤(s:Int):=by omega
     have p1:(s:Int)<(x.n:Int):=by omega
     have hnn:=(HOK.out x (List.mem_of_getElem? HX.out)).n120
     gi_wp2_with (first
      | (gi_at_mapUpdate;refine wpListIn_mapUpdate_own _ rfl _ _ _ 61 rfl 38 49 keyedRef Tryz.underlying61 Zs W.heap.size cn _ rfl (HAL.out.alloc _) (by unfold maxLen;omega) _ _ (kl s) rfl rfl (HKL.out s hls) _ [] rfl ?_;intro w5 hown5 hgrow5)
      | gi_in)
     have HO5:Hid (w5.ownsMap Tryz.prog 38 Zs W.heap.size (cn+1) (Dy.put (kl s) (.held (CL.enc ⟨x.C s,x.R s,x.S s⟩)))):=hown5
     have HC5:Hid (CmD (Dy.put (kl s) (.held (CL.enc ⟨x.C s,x.R s,x.S s⟩))) (Kp [] (Ko shs t++clE x.C x.R x.S (s+1)))):=by
      rw [Gs,←List.append_assoc,Qg4];exact HCY.out.on HAL.out.isMap (x:=⟨x.C s,x.R s,x.S s⟩) (HKL.out s hls)
     have hz5:=hgrow5.size;rw [World.size_alloc]at hz5;clear hown5;go_roundw
     case rel=>exact⟨s+1,cn+1,_,by omega,by go_num,HO5.out,HC5.out,by omega,fun b h1 h2=>(hgrow5.block b (by simp;omega) (fun e=>by cases e;omega)).trans ((Below.heap_alloc _ _ b (by omega)).trans (HBK.out b h1 h2)),by omega,(KY.out.alloc hsy _).grown hgrow5 (by simp;omega) (fun j hj=>by cases hj;exact Nat.le_refl _)⟩
     case measure=>simp [intOf];omega
    ·have e9:s=x.n:=by omega
     subst e9;have p1: ¬(x.n:Int)<(x.n:Int):=by omega
     have hnn:=(HOK.out x (List.mem_of_getElem? HX.out)).n120;gi_wp2
     go_roundw
     case rel=>exact⟨t+1,F3,c3,ms++ [mb],cn,Dy,by omega,rfl,by go_num,Qfv HO3.out (fun g hg=>HBK.out g (by have:=(HO3.out.lt g hg).1;omega) (HO3.out.lt g hg).2),HML3.out,HMS3.out.kept (fun b hb9=>HBK.out b (HGT3.out b hb9) (HMS3.out.lt b hb9)),HGT3.out,HAL.out,by rw [Dj HX.out];exact HCY.out,by omega,KY.out⟩
     case measure=>simp [intOf];omega
  ·have e9:t=k:=by omega
   subst e9;have p1: ¬(t:Int)<(t:Int):=by omega
   have HCE:Hid (CmD Da (Kp [] (Ko shs t))):=HCM.out
   have hlen:(Kp [] (Ko shs t)).length≤10000:=by
    have h1:=Nu (L:=Ko shs t) (E:= []);have h2:=Gv (shs:=shs) (fun x hx=>(HOK.out x hx).n120) t;simp only [List.length_nil]at h1;omega
   gi_wp2
   refine⟨trivial,?_⟩;refine(callsIn_wide.2 (Hl _ HA.out HCM.out hlen)).mono ?_;rintro e w3 ⟨AM,cM,M,rfl,hperm,hup,hoM,hb⟩;obtain⟨mm,HMM⟩: ∃mm,Hid ((Kp [] (Ko shs t)).length=mm):=⟨_,rfl⟩;rw [HMM.out]at hoM;rw [HMM.out];have HOM:Hid (w3.ownsRow wr.heap.size 49 3 (.slice AM mm cM) mm (Qu CL.cs M)):=hoM
   have HML9:Hid (M.length=mm):=by show _=_;rw [hperm.length_eq,HMM.out]
   have HUP:Hid (upC M):=hup;have HTK:Hid (shs.take t=shs):=by show _=_;rw [←HK.out,List.take_length]
   have HHAS:Hid (∀p q,Zo p q M↔ ∃x∈shs,Zo p q x.E):=fun p q=>by
    have h1:Zo p q M↔Zo p q (Kp [] (Ko shs t)):=⟨fun⟨y,hy,e⟩=>⟨y,hperm.mem_iff.1 hy,e⟩,fun⟨y,hy,e⟩=>⟨y,hperm.mem_iff.2 hy,e⟩⟩;rw [h1,Qa7,Ko,HTK.out];constructor
    ·rintro(⟨y,hy,_⟩ | ⟨y,hy,e⟩)
     ·cases hy
     ·obtain⟨x,hx,hy⟩:=List.mem_flatMap.1 hy;exact⟨x,hx,y,hy,e⟩
    ·rintro⟨x,hx,y,hy,e⟩;exact .inr ⟨y,List.mem_flatMap.2 ⟨x,hx,hy⟩,e⟩
   have HKEY:Hid (∀m∈M,∃l,keyOf Tryz.prog 38 (.agg #[.int .i64 m.c,.int .i64 m.r])=some l):=fun m hm=>by
    obtain⟨x,hx,y,hy,e1,e2⟩:=(HHAS.out m.c m.r).1 ⟨m,hm,rfl,rfl⟩;obtain⟨i,hi,rfl⟩:=List.mem_map.1 hy;have h9:=(HOK.out x hx).ref i (List.mem_range.1 hi);simp only at e1 e2;rw [e1,e2]at h9;exact OK h9
   have HO3:=hd (Qe HO.out hb);have HMS3:Hid (MpsOf w3 ms (shs.map SH.E)):=by have h9:=HMS.out.below hb;rw [HTK.out]at h9;exact h9
   have K3:=hd (Qb KA.out hb)
   have h120:mm≤360:=by
    have h1:=Nu (L:=Ko shs t) (E:= []);have h2:=Gv (shs:=shs) (fun x hx=>(HOK.out x hx).n120) t;rw [←HMM.out];simp only [List.length_nil]at h1;omega
   have HJS:Hid (J w3.heap.size [] w3):=HJ0.out w3 K3.out;have hzw:W.heap.size≤wr.heap.size:=KA.out.size
   have HRM:Hid (∀wy:World,w3.heap.size≤wy.heap.size→(∀b:Nat,W.heap.size≤b→b<w3.heap.size→wy.heap[b]? =w3.heap[b]?)→RowAt 3 CL.cs wy AM M∧RowAt 1 mpL wy F ms∧MpsOf wy ms (shs.map SH.E)):=fun wy hz9 hb9=>by
    refine⟨(RowAt.of_own (f:=CL.cs) (k:=3) (fun x=>rfl) HOM.out HML9.out).heap hz9 (fun ad e=>hb9 _ ?_ ?_),(RowAt.of_own Qn4 HO3.out HML.out).heap hz9 (fun ad e=>hb9 _ ?_ ?_),HMS3.out.kept (fun b h1=>hb9 b (Nat.le_of_lt (HGT.out b h1)) (HMS3.out.lt b h1))⟩
    ·have:=(HOM.out.lt ad.block (by rw [e];exact NG HOM.out e)).1;omega
    ·exact(HOM.out.lt ad.block (by rw [e];exact NG HOM.out e)).2
    ·have:=(HO3.out.lt ad.block (by rw [e];exact NG HO3.out e)).1;omega
    ·exact(HO3.out.lt ad.block (by rw [e];exact NG HO3.out e)).2
   clear hoM hb hperm hup HO HMS HA HCM HCE hmm hbc;gi_wp2
   gi_loopw [38] (fun i wy=> ∃s:Nat,s≤mm∧i= .int .i64 s∧J w3.heap.size (M.take s) wy∧(∀b:Nat,W.heap.size≤b→b<w3.heap.size→wy.heap[b]? =w3.heap[b]?)∧w3.heap.size≤wy.heap.size) (fun i _=>mm-(intOf i).toNat)
   case atStart=>exact⟨0,Nat.zero_le _,rfl,HJS.out,fun _ _ _=>rfl,Nat.le_refl _⟩
   case round=>
    obtain⟨s,hs,rfl,hj,hbk,hz⟩:=hrel;have HJS2:Hid (J w3.heap.size (M.take s) wr):=hj;have HBK:Hid (∀b:Nat,W.heap.size≤b→b<w3.heap.size→wr.heap[b]? =w3.heap[b]?):=hbk;obtain⟨r1,r2,r3⟩:=HRM.out wr hz hbk;have HR1:Hid (RowAt 3 CL.cs wr AM M):=r1;have HR2:Hid (RowAt 1 mpL wr F ms):=r2;have HR3:Hid (MpsOf wr ms (shs.map SH.E)):=r3
    clear hj hbk r1 r2 r3;by_cases hls:s<mm
    ·obtain⟨m,hm⟩: ∃m,M[s]? =some m:=⟨_,List.getElem?_eq_getElem (by rw [HML9.out];exact hls)⟩;obtain⟨mb,mo,rfl,hmb,hmc⟩:=HR1.out.2 s m hm;have c0:=hmc 0 _ rfl;have c1:=hmc 1 _ rfl;have c2:=hmc 2 _ rfl;rw [Nat.add_zero]at c0;have HTS:Hid (M.take (s+1)=M.take s++ [m]):=by show _=_;rw [List.take_add_one,hm];rfl
     obtain⟨kk,hkk⟩:=HKEY.out m (List.mem_of_getElem? hm);have HKK:Hid (_=some kk):=hkk;have p0:(0:Int)≤(s:Int):=by omega
     have p1:(s:Int)<(mm:Int):=by omega
     clear hmc hm hkk;gi_wp2
     obtain⟨X,HX⟩: ∃X,Hid (wr.alloc (.cells #[.int .i64 m.c,.int .i64 m.r,.string m.s] 49)=X):=⟨_,rfl⟩;rw [HX.out];have x0:X.cell? ⟨wr.heap.size,0,none⟩=some (.int .i64 m.c):=by rw [←HX.out];go_simp
     have x1:X.cell? ⟨wr.heap.size,1,none⟩=some (.int .i64 m.r):=by rw [←HX.out];go_simp
     have zX:wr.heap.size<X.heap.size:=by rw [←HX.out];simp
     have KX:Hid (Below wr.heap.size wr X):=by rw [←HX.out];exact(Below.refl _ _).alloc (Nat.le_refl _) _
     have KXD:Hid (Below wr.heap.size wr X.drew):=Qc6 KX.out;have HR2X:=hd (HR2.out.below KXD.out);have HR3X:=hd (HR3.out.below KXD.out);have HJX:Hid (J w3.heap.size (M.take s) X.drew):=HJ.out _ _ _ _ HJS2.out KXD.out;have hlt9:(M.take s).length<1000:=by rw [List.length_take];omega
     clear HX c0 c1 c2;have HSL:Hid ((VL m.c m.r (shs.map SH.E)).length=t):=by show _=_;rw [VL,List.length_map,List.length_map];exact HK.out
     have F43:Fence.wide.fn 63:=trivial;have e43: ∀args w,(callFunc 63 args).run Tryz.prog w= .ok (.enter 63 args) w:=enters_of Tryz.func63 (by kernel_rfl) rfl
     gi_region_with (first
      | (gi_at_fn 63;refine(callsIn_wide.2 (UX _ HR2X.out HR3X.out HML.out (by omega) HKK.out)).mono ?_;rintro e w4 ⟨A4,c4,rfl,ho4,hb4⟩;obtain⟨fn,tmps,asg,body,hyy,hR⟩:=HY.out w3.heap.size (M.take s) m A4 c4 w4 (HJ.out _ _ _ _ HJX.out hb4) hlt9 ⟨_,ho4⟩;have y0:=(hb4.cell (p:=⟨wr.heap.size,0,none⟩) zX).trans x0;have y1:=(hb4.cell (p:=⟨wr.heap.size,1,none⟩) zX).trans x1)
      | (refine hR.mono ?_;rintro e w5 ⟨rfl,hJ5,hk5,hz5⟩)
      | gi_in)
     all_goals
      have hzd:=KXD.out.size;have hz4:=hb4.size;gi_wp2
      go_roundw
      case rel=>exact⟨s+1,by omega,by go_num,by rw [HTS.out];exact hJ5,fun b h1 h2=>(hk5 b h1 h2).trans ((hb4.block b (by omega)).trans ((KXD.out.block b (by omega)).trans (HBK.out b h1 h2))),by omega⟩
      case measure=>simp [intOf];omega
    ·have e9:s=mm:=by omega
     subst e9;have p1: ¬(s:Int)<(s:Int):=by omega
     gi_wp2
     go_end0
     exact⟨⟨_,rfl⟩,w3.heap.size,M,HUP.out,HHAS.out,by have h9:=HJS2.out;rw [List.take_of_length_le (by rw [HML9.out];exact Nat.le_refl _)]at h9;exact h9⟩
end Go.Proofs.YthjldgbfgapbcaaGreatDoor
namespace Go.Proofs.YthjldgbfgapbcaaGreatDoor
open Go.RowKit
def OnlyN (Q:Exit→Act→World→Prop):Exit→Act→World→Prop
 | .normal,a,w=>Q .normal a w
 | _,_,_=>False
def MA (ops:Array Oper):Bool:=ops.all fun o=>match o.op with
 | .defer _=>false
 | _=>true
theorem Qbx {ops:Array Oper} (h:MA ops=true) {i:Nat} {o:Oper} (ho:ops[i]? =some o): ∀c,o.op≠ .defer c:=fun c e=>by
 unfold MA at h;rw [Array.all_eq_true_iff_forall_mem]at h;have:=h o (Array.mem_of_getElem? ho);rw [e]at this;cases this
theorem OnlyN.out {Q:Exit→Act→World→Prop} (h:LetsOut (OnlyN Q)):False:=by
 obtain⟨a,w,h⟩:=h;exact h
theorem Qbb {P:Program} {l n:Nat} {o:Oper} {a:Act} {w:World} {K K':Act→World→Prop} {Q:Exit→Act→World→Prop} (hd: ∀c,o.op≠ .defer c) (hK: ∀a w,K a w→K' a w) (h:o.wp P a w K (OnlyN Q)):o.wpIn (Fence.wide.inRound l) n P a w K' (OnlyN Q):=by
 refine⟨fun _ _=>trivial,?_⟩;rw [Oper.semAt_eq _ _ _ hd];unfold Oper.wp at h;generalize (execOp a.eval o).run P w=r at*
 cases r with
 | ok x w'=>
  cases x with
  | value v=>exact hK _ _ h
  | skip=>exact hK _ _ h
  | defer d=>exact hK _ _ h
  | enter f args=>
   refine⟨(fun e=>by cases e),?_⟩;exact CallsIn.mono (callsIn_wide.2 h) (fun e w'' he=>by cases e<;>first | exact hK _ _ he | exact he)
  | row row args=>
   refine⟨(fun e=>by cases e),?_⟩
   exact fun c cs _=>by
    obtain⟨v,w2,r,s⟩:=h c cs;exact⟨v,w2,hK _ _ r,stepsIn_wide.2 s⟩
  | _=>exact h.elim
 | halt x w'=>cases x<;>first | exact h | exact h.elim
theorem XD {P:Program} {md:Region.Mode} {ops:Array Oper} {Q:Exit→Act→World→Prop} {l n:Nat} (hd:MA ops=true): ∀(fuel:Nat) (listed:Array Bool) (a:Act) (w:World),wpAny P md ops (OnlyN Q) fuel listed a w→wpAnyIn (Fence.wide.inRound l) n P md ops (OnlyN Q) fuel listed a w
 | 0,_,_,_,h=>h
 | fuel+1,listed,a,w,h=>⟨h.1,fun i hi=>by
  have h9:=h.2 i hi;unfold wpOp at h9;unfold wpOpIn;cases ho:ops[i]? with
  | none=>rw [ho]at h9;exact XD hd fuel _ _ _ h9
  | some o=>
   rw [ho]at h9;simp only at h9 ⊢;split
   ·rename_i hw
    rw [if_pos hw]at h9;rcases h9 with h9 | h9
    ·exact Qbb (Qbx hd ho) (fun a' w' h'=>XD hd fuel _ a' w' h') h9
    ·exact(OnlyN.out h9.2).elim
   ·rename_i hw
    rw [if_neg hw]at h9
    exact⟨fun _ _=>trivial,XD hd fuel _ _ _ h9⟩⟩
theorem Xf {P:Program} {ops:Array Oper} {Q:Exit→Act→World→Prop} {S:World→Prop} {l n id:Nat} {a:Act} {w:World} (hm:P.follows .mixedOrders=true) (hd:MA ops=true) (hS:S w.drew)
  (h:S w.drew→wpAnyH P .any ops (OnlyN Q) S ops.size (Array.replicate ops.size false) a w.drew):(Code.region id ops true).wpIn (Fence.wide.inRound l) n P Q a w:=fun b k cs hro hb hr=>by
 obtain⟨e,a',w',q,r⟩:=wpIn_region_any (id:=id) hm (XD (l:=l) (n:=n) hd _ _ _ _ (wpAny_of_held _ _ _ _ (h hS))) b k cs hro hb hr;refine⟨e,a',w',?_,r⟩;cases e<;>first | exact q | exact q.elim
end Go.Proofs.YthjldgbfgapbcaaGreatDoor
