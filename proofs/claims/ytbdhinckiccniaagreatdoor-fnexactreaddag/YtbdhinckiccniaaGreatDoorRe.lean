import Derived.Test.YtbdhinckiccniaaGreatDoorMn
import Derived.Test.YtbdhinckiccniaaGreatDoorSf
import Derived.Test.YtbdhinckiccniaaGreatDoorRd
import Derived.Test.YtbdhinckiccniaaGreatDoorRb
set_option linter.unusedSimpArgs false
set_option linter.unusedVariables false
set_option maxHeartbeats 8000000
set_option maxRecDepth 100000
namespace Go.Proofs.YtbdhinckiccniaaGreatDoor
open Go.RowKit Go.Maps Go.Sort Go.Shelf
theorem Qq8(n:Nat)(hn:1≤n)(l Bx:Nat)(s:ByteArray)(hs:s.size≤1048576)(J:List (List UInt8)→World→Prop)(JS:World→Prop)(W:World)
  (hbox:W.cell? ⟨Bx,0,none⟩=some (.string s)) (hfz:W.frozen? ⟨Bx,0,none⟩=false) (hJ0:J [] W)
  (hJ: ∀pre Wa Wb,J pre Wa→Wa.grownBy Wb (some Bx)→(∀(c:Array Value) (e:TypeId),Wa.heap[Bx]? =some (.cells c e (0,0))→ ∃c',Wb.heap[Bx]? =some (.cells c' e (0,0)))→J pre Wb)
  (hY: ∀pre x p Wa,J pre Wa→(∃rest,lnI s.data.toList=pre++x::rest)→p.length≤1048576→x.length≤1048576→Lib.trimSuffix p [10]=x→YieldAt Fence.wide (n-1) Tryz.prog l #[.string (bs p)] Wa fun e Wb=>(e= .returned (.bool true)∧J (pre++ [x]) Wb∧Wb.heap[Bx]? =Wa.heap[Bx]?)∨(e= .returned (.bool false)∧JS Wb)):
  CallsIn Fence.wide n Tryz.prog 72 #[.func (.yield l) #[] #[],.pointer (some ⟨Bx,0,none⟩)] W fun e W'=>(∃v,e= .returned v)∧(J (lnI s.data.toList) W'∨JS W'):=by
 have HB:Hid (W.cell? ⟨Bx,0,none⟩=some (.string s)):=hbox;have HF:Hid (W.frozen? ⟨Bx,0,none⟩=false):=hfz;have HJ0:Hid (J [] W):=hJ0;have HJ:Hid (∀pre Wa Wb,J pre Wa→Wa.grownBy Wb (some Bx)→(∀(c:Array Value) (e:TypeId),Wa.heap[Bx]? =some (.cells c e (0,0))→ ∃c',Wb.heap[Bx]? =some (.cells c' e (0,0)))→J pre Wb):=hJ;have HY:Hid (_):=hY;clear hbox hfz hJ0 hJ hY;refine callsIn_of_wp Tryz.func72 rfl trivial ?_ rfl
 simp only[Tryz.ntmps72,List.size_toArray,List.length_cons,List.length_nil,Nat.reduceAdd,Nat.reduceSub,Array.replicate_succ,Array.replicate_zero,List.push_toArray,List.append_toArray,List.nil_append,List.cons_append];gi_wp2
 gi_loopw [] (fun wr=> ∃(r:ByteArray) (pre:List (List UInt8)),wr.cell? ⟨Bx,0,none⟩=some (.string r)∧wr.frozen? ⟨Bx,0,none⟩=false∧r.size≤s.size∧lnI s.data.toList=pre++lnI r.data.toList∧J pre wr) (fun wr=>szW wr Bx)
 case atStart=>exact⟨s,[],HB.out,HF.out,Nat.le_refl _,rfl,HJ0.out⟩
 case round=>
  obtain⟨r,pre,hc,hf,hz,hl,hj⟩:=hrel;have HJP:Hid (J pre wr):=hj;have HL:Hid (lnI s.data.toList=pre++lnI r.data.toList):=hl;have hBx:Bx<wr.heap.size:=World.block_lt_of_cell? wr ⟨Bx,0,none⟩ hc;clear hj hl;by_cases h0:0<r.size
  ·have p0:(0:Int)<(r.size:Int):=by omega
   have hrl:r.data.toList.length=r.size:=by simp
   have hne:r.data.toList≠ []:=fun e=>by rw[e,List.length_nil]at hrl;omega
   have HS:Hid (lnI r.data.toList=cw 10 r.data.toList::lnI (cr 10 r.data.toList)):=Qb6 hne;have HPL:Hid (pre.length<(lnI s.data.toList).length):=by show _<_;rw[HL.out,HS.out];simp
   by_cases hm:10∈r.data.toList
   ·obtain⟨i,hi,hix,hx1,hx2⟩:=Qss hm;have hwl:=Qm5 10 r.data.toList;have hcl:(cw 10 r.data.toList).length=i:=by have:=(YF 10 _).1 hm;omega
    have q0:(0:Int)≤(i:Int):=by omega
    have q1:(i:Int)+1≤(r.size:Int):=by omega
    have q2:(0:Int)≤(i:Int)+1:=by omega
    have q3:IntKind.i64.wrap ((i:Int)+1)=(i:Int)+1:=by rw[IntKind.wrap_i64];omega
    gi_wp2
    refine⟨trivial,?_⟩;refine(callsIn_wide.2 (Jr r _)).mono ?_;rintro e w' ⟨rfl,rfl⟩;rw[hix];gi_wp2
    have hmix:Tryz.prog.follows .mixedOrders=true:=by kernel_rfl
    have hcd:w'.drew.cell? ⟨Bx,0,none⟩=some (.string r):=hc;refine GU (S:=(fun wq=>Bx<wq.heap.size)) hmix (by kernel_rfl) (by simpa using hBx) (fun hHeld=> ?_);refine tkA 1 ?_;refine tkB 2 ?_;refine tkA 5 ?_;refine tkB 6 ?_;refine rqB 0 4 (fun Kq hKq=> ?_) (fun Kq hKq=> ?_)
    ·go_simp;refine hKq.out _ _ (by simpa using hBx) (fun hHeld=> ?_);clear hKq Kq;try simp only[Act.put,List.getElem_toArray,List.getElem_cons_zero,List.getElem_cons_succ,List.setIfInBounds_toArray,List.set_cons_zero,List.set_cons_succ]
     refine tkA 3 ?_;refine tkB 8 ?_;refine rqA 4 (fun Kq hKq=> ?_);go_simp;refine hKq.out _ _ (by simpa using hBx) (fun hHeld=> ?_);clear hKq Kq;try simp only[Act.put,List.getElem_toArray,List.getElem_cons_zero,List.getElem_cons_succ,List.setIfInBounds_toArray,List.set_cons_zero,List.set_cons_succ]
     refine tkB 7 ?_;refine rqA 9 (fun Kq hKq=> ?_);go_simp;refine hKq.out _ _ (by simpa using hBx) (fun hHeld=> ?_);clear hKq Kq;try simp only[Act.put,List.getElem_toArray,List.getElem_cons_zero,List.getElem_cons_succ,List.setIfInBounds_toArray,List.set_cons_zero,List.set_cons_succ]
     refine wpAnyH_done (by kernel_rfl) ?_ _;simp only[OnlyN];obtain⟨W2,HW2⟩: ∃W2,Hid ((w'.setCell ⟨Bx,0,none⟩ (.string (bs (cr 10 r.data.toList)))).drew=W2):=⟨_,rfl⟩;have hc2:W2.cell? ⟨Bx,0,none⟩=some (.string (bs (cr 10 r.data.toList))):=by rw[←HW2.out];exact World.cell?_setCell_same _ _ _ hc
     have hf2:W2.frozen? ⟨Bx,0,none⟩=false:=by rw[←HW2.out];show World.frozen? _ _=_;simpa using hf
     have hg2:w'.grownBy W2 (some Bx):=by rw[←HW2.out];exact⟨rfl,rfl,rfl,by simp,fun k hk hr=>by
      have hne:k≠Bx:=fun e=>hr (congrArg some e)
      exact Below.heap_setCell _ _ _ _ (by simpa using hne)⟩
     have HJ2:Hid (J pre W2):=HJ.out _ _ _ HJP.out hg2 (fun c e h9=>⟨_,by rw[←HW2.out];exact heap_setCell_same w' Bx 0 c e _ h9⟩);have hwl2:(cw 10 r.data.toList++ [10]).length≤1048576:=by rw[List.length_append,List.length_singleton];omega
     obtain⟨fn,tmps,asg,body,hyy,hR⟩:=HY.out pre (cw 10 r.data.toList) (cw 10 r.data.toList++ [10]) W2 HJ2.out ⟨_,by rw[HL.out,HS.out]⟩ hwl2 (by omega) (BS _);rw[HW2.out];clear hg2 HW2;gi_wp2_with (refine hR.mono ?_;rintro e w5 (⟨rfl,hJ5,hk5⟩ | ⟨rfl,hS5⟩))
     rotate_left
     ·gi_wp2
      exact bodyPost_ret (results_none rfl _ _ _) rfl ⟨⟨_,rfl⟩,Or.inr hS5⟩
     have hcl2:=Qew 10 r.data.toList;have hc5:w5.cell? ⟨Bx,0,none⟩=some (.string (bs (cr 10 r.data.toList))):=(World.cell?_of_block hk5).trans hc2;have hf5:w5.frozen? ⟨Bx,0,none⟩=false:=by have:=hf2;unfold World.frozen? at this ⊢;simpa only[hk5]using this
     have hsz5:(bs (cr 10 r.data.toList)).size<r.size:=by
      rw[Qt];obtain⟨x9,y9,e9,hx9⟩:=List.eq_append_cons_of_mem hm;obtain⟨_,a2⟩:=JC (b:=10) y9 (fun z hz e=>hx9 (e▸hz));rw[←e9]at a2;have h8:=congrArg List.length e9;rw[a2];simp at h8
      omega
     go_roundw
     case rel=>exact⟨_,pre++ [cw 10 r.data.toList],hc5,hf5,by omega,by rw[HL.out,HS.out,Qnt];simp,hJ5⟩
     case measure=>rw[Hc hc5,Hc hc];exact hsz5
    ·go_simp;refine hKq.out _ _ (by simpa using hBx) (fun hHeld=> ?_);clear hKq Kq;try simp only[Act.put,List.getElem_toArray,List.getElem_cons_zero,List.getElem_cons_succ,List.setIfInBounds_toArray,List.set_cons_zero,List.set_cons_succ]
     refine tkB 7 ?_;refine rqA 0 (fun Kq hKq=> ?_);go_simp;refine hKq.out _ _ (by simpa using hBx) (fun hHeld=> ?_);clear hKq Kq;try simp only[Act.put,List.getElem_toArray,List.getElem_cons_zero,List.getElem_cons_succ,List.setIfInBounds_toArray,List.set_cons_zero,List.set_cons_succ]
     refine tkA 3 ?_;refine tkB 8 ?_;refine rqA 9 (fun Kq hKq=> ?_);go_simp;refine hKq.out _ _ (by simpa using hBx) (fun hHeld=> ?_);clear hKq Kq;try simp only[Act.put,List.getElem_toArray,List.getElem_cons_zero,List.getElem_cons_succ,List.setIfInBounds_toArray,List.set_cons_zero,List.set_cons_succ]
     refine wpAnyH_done (by kernel_rfl) ?_ _;simp only[OnlyN];obtain⟨W2,HW2⟩: ∃W2,Hid ((w'.setCell ⟨Bx,0,none⟩ (.string (bs (cr 10 r.data.toList)))).drew=W2):=⟨_,rfl⟩;have hc2:W2.cell? ⟨Bx,0,none⟩=some (.string (bs (cr 10 r.data.toList))):=by rw[←HW2.out];exact World.cell?_setCell_same _ _ _ hc
     have hf2:W2.frozen? ⟨Bx,0,none⟩=false:=by rw[←HW2.out];show World.frozen? _ _=_;simpa using hf
     have hg2:w'.grownBy W2 (some Bx):=by rw[←HW2.out];exact⟨rfl,rfl,rfl,by simp,fun k hk hr=>by
      have hne:k≠Bx:=fun e=>hr (congrArg some e)
      exact Below.heap_setCell _ _ _ _ (by simpa using hne)⟩
     have HJ2:Hid (J pre W2):=HJ.out _ _ _ HJP.out hg2 (fun c e h9=>⟨_,by rw[←HW2.out];exact heap_setCell_same w' Bx 0 c e _ h9⟩);have hwl2:(cw 10 r.data.toList++ [10]).length≤1048576:=by rw[List.length_append,List.length_singleton];omega
     obtain⟨fn,tmps,asg,body,hyy,hR⟩:=HY.out pre (cw 10 r.data.toList) (cw 10 r.data.toList++ [10]) W2 HJ2.out ⟨_,by rw[HL.out,HS.out]⟩ hwl2 (by omega) (BS _);rw[HW2.out];clear hg2 HW2;gi_wp2_with (refine hR.mono ?_;rintro e w5 (⟨rfl,hJ5,hk5⟩ | ⟨rfl,hS5⟩))
     rotate_left
     ·gi_wp2
      exact bodyPost_ret (results_none rfl _ _ _) rfl ⟨⟨_,rfl⟩,Or.inr hS5⟩
     have hcl2:=Qew 10 r.data.toList;have hc5:w5.cell? ⟨Bx,0,none⟩=some (.string (bs (cr 10 r.data.toList))):=(World.cell?_of_block hk5).trans hc2;have hf5:w5.frozen? ⟨Bx,0,none⟩=false:=by have:=hf2;unfold World.frozen? at this ⊢;simpa only[hk5]using this
     have hsz5:(bs (cr 10 r.data.toList)).size<r.size:=by
      rw[Qt];obtain⟨x9,y9,e9,hx9⟩:=List.eq_append_cons_of_mem hm;obtain⟨_,a2⟩:=JC (b:=10) y9 (fun z hz e=>hx9 (e▸hz));rw[←e9]at a2;have h8:=congrArg List.length e9;rw[a2];simp at h8
      omega
     go_roundw
     case rel=>exact⟨_,pre++ [cw 10 r.data.toList],hc5,hf5,by omega,by rw[HL.out,HS.out,Qnt];simp,hJ5⟩
     case measure=>rw[Hc hc5,Hc hc];exact hsz5
   ·have hnm: ∀z∈r.data.toList,z≠10:=fun z hz e=>hm (e▸hz);obtain⟨a1,a2⟩:=Jg hnm;have HS2:Hid (lnI r.data.toList= [r.data.toList]):=by show _=_;rw[HS.out,a1,a2];rfl
    have hix:Lib.indexByte r.data.toList 10= -1:=(YF 10 _).2 hm;gi_wp2
    refine⟨trivial,?_⟩;refine(callsIn_wide.2 (Jr r _)).mono ?_;rintro e w' ⟨rfl,rfl⟩;rw[hix];obtain⟨W2,HW2⟩: ∃W2,Hid (w'.setCell ⟨Bx,0,none⟩ (.string ⟨#[]⟩)=W2):=⟨_,rfl⟩;have hc2:W2.cell? ⟨Bx,0,none⟩=some (.string ⟨#[]⟩):=by rw[←HW2.out];exact World.cell?_setCell_same _ _ _ hc
    have hf2:W2.frozen? ⟨Bx,0,none⟩=false:=by rw[←HW2.out];simpa using hf
    have hg2:w'.grownBy W2 (some Bx):=by rw[←HW2.out];exact⟨rfl,rfl,rfl,by simp,fun k hk hr=>by
     have hne:k≠Bx:=fun e=>hr (congrArg some e)
     exact Below.heap_setCell _ _ _ _ (by simpa using hne)⟩
    have HJ2:Hid (J pre W2):=HJ.out _ _ _ HJP.out hg2 (fun c e h9=>⟨_,by rw[←HW2.out];exact heap_setCell_same w' Bx 0 c e _ h9⟩);obtain⟨fn,tmps,asg,body,hyy,hR⟩:=HY.out pre r.data.toList r.data.toList W2 HJ2.out ⟨[],by rw[HL.out,HS2.out]⟩ (by omega) (by omega) (Qff hnm);rw[MY]at hyy;have hw2:=HW2.out;clear hg2 HW2
    gi_wp2_with (first
     | (rw[hw2];fail)
     | (refine hR.mono ?_;rintro e w5 (⟨rfl,hJ5,hk5⟩ | ⟨rfl,hS5⟩)))
    rotate_left
    ·gi_wp2
     exact bodyPost_ret (results_none rfl _ _ _) rfl ⟨⟨_,rfl⟩,Or.inr hS5⟩
    have hc5:w5.cell? ⟨Bx,0,none⟩=some (.string ⟨#[]⟩):=(World.cell?_of_block hk5).trans hc2;have hf5:w5.frozen? ⟨Bx,0,none⟩=false:=by have:=hf2;unfold World.frozen? at this ⊢;simpa only[hk5]using this
    go_roundw
    case rel=>exact⟨_,pre++ [r.data.toList],hc5,hf5,Nat.zero_le _,by rw[HL.out,HS2.out];simp[En],hJ5⟩
    case measure=>rw[Hc hc5,Hc hc];exact h0
  ·have p0: ¬(0:Int)<(r.size:Int):=by omega
   have hrn:r.data.toList= []:=by
    have hrl:r.data.toList.length=r.size:=by simp
    exact List.eq_nil_of_length_eq_zero (by omega)
   have HL2:Hid (lnI s.data.toList=pre):=by show _=_;rw[HL.out,hrn,En,List.append_nil]
   gi_wp2
   go_end0
   exact⟨⟨_,rfl⟩,Or.inl (by rw[HL2.out];exact HJP.out)⟩
attribute [local go_sem] Oper.semAt_some
theorem XF{W:World}{B n s k:Nat}{e:TypeId}{v:Value}{xs:List Value}{o:Obj}(h:W.ownsRow B e s v n xs)(he:Mf e)(hk:W.heap[k]? =some o)(ho: ∀(c:Array Value) (e9:TypeId) (f:Nat × Nat),o=Obj.cells c e9 f→ ¬Mf e9):v.ownBlock=none∨v.ownBlock≠some k:=by
 rcases h.2 with⟨rfl,_⟩ | ⟨g,cap,cur,rfl,_,hg,_⟩
 ·exact Or.inl rfl
 ·right
  intro e9;cases e9
  rw[hk]at hg;exact ho cur e (0,0) (Option.some.inj hg) he
theorem Qjx{W:World}{B k:Nat}{v:Value}{us:List Int}{o:Obj}(h:UpO W B v us)(hk:W.heap[k]? =some o)(ho: ∀(c:Array Value) (e9:TypeId) (f:Nat × Nat),o=Obj.cells c e9 f→ ¬Mf e9):v.ownBlock=none∨v.ownBlock≠some k:=by
 rcases h with⟨rfl,_⟩ | ⟨g,q,cap,cur,rfl,_,hg,_⟩
 ·exact Or.inl rfl
 ·right
  intro e9;cases e9
  rw[hk]at hg;exact ho cur _ (0,0) (Option.some.inj hg) Qqu
theorem DqP.keptO{W W':World}{B b k:Nat}{q:RQ}{v1 v2:Value}{ys:List Value}{o:Obj}(h:DqP W B b q v1 v2 ys)(hg:W.grownBy W' (some k))(hk:W.heap[k]? =some o)(ho: ∀(c:Array Value) (e9:TypeId) (f:Nat × Nat),o=Obj.cells c e9 f→ ¬Mf e9):DqP W' B b q v1 v2 ys:=
 ⟨h.box.kept hg (XF h.box NT hk ho),h.vr.kept hg (XF h.vr Qcg hk ho),fun i x hx=>by
  obtain⟨u,v,y0,y1,y2,k1,k2⟩:=h.pt i x hx
  exact⟨u,v,y0,y1,y2,k1.kept hg (Qjx k1 hk ho),k2.kept hg (XF k2 Qii hk ho)⟩,h.ap,h.br.kept hg (XF h.br Qkf hk ho)⟩
def NC : Code := (Code.region 5 #[{ dst := some 5, op := Op.assign (Operand.tmp 21), type := 9, pos := "l10_versions.go:377", after := #[], guard := none }] false)
def Qd2 : Code := (Code.block 1 ((Code.region 6 #[{ dst := some 22, op := Op.move (Operand.tmp 5), type := 9, pos := "l10_versions.go:378", after := #[], guard := none }, { dst := some 23, op := Op.call { callee := Callee.value (Operand.func 35), args := #[Operand.tmp 22, Operand.const (Value.string { data := #[10] })], argTypes := #[9, 9] }, type := 9, pos := "l10_versions.go:378", after := #[{ on := 0, ground := Ground.data }], guard := none }, { dst := some 24, op := Op.call { callee := Callee.value (Operand.func 34), args := #[Operand.tmp 4, Operand.tmp 23], argTypes := #[43, 9] }, type := 4, pos := "l10_versions.go:378", after := #[{ on := 1, ground := Ground.data }, { on := 1, ground := Ground.chain }], guard := none }, { dst := some 25, op := Op.unOp UnOp.not 4 (Operand.tmp 24), type := 4, pos := "l10_versions.go:378", after := #[{ on := 2, ground := Ground.data }], guard := none }] false).seq (Code.cond (Operand.tmp 25) ((Code.region 7 #[{ dst := some 26, op := Op.build 43 #[], type := 43, pos := "l10_versions.go:379", after := #[], guard := none }, { dst := none, op := Op.store 43 (Operand.tmp 2) (Operand.tmp 26), type := 0, pos := "l10_versions.go:379", after := #[{ on := 0, ground := Ground.data }, { on := 0, ground := Ground.phase }], guard := none }, { dst := none, op := Op.store 4 (Operand.tmp 3) (Operand.const (Value.bool false)), type := 0, pos := "l10_versions.go:379", after := #[{ on := 1, ground := Ground.chain }, { on := 0, ground := Ground.phase }, { on := 1, ground := Ground.phase }], guard := none }] false).seq Code.ret) Code.skip)))
def YP(fn:FuncId)(s:ByteArray)(cn:Int)(bv sv:Value)(R D:Nat)(st:LoopState)(pend:Option Code):Loop:=
 {state:=st,pending:=pend,fn,tmps:= #[.string s,undef,.pointer (some ⟨R,0,none⟩),.pointer (some ⟨R+1,0,none⟩),.pointer (some ⟨R+1+1,0,none⟩),undef,.string s,.bool false,.bool false,.string s,.int .i64 s.size,.bool false,.bool false,.bool false,.string s,.int .i64 cn,bv,bv,undef,.string s,sv,undef,undef,undef,undef,undef,undef,undef,undef,undef,undef,undef,undef],params:= #[21],assign:=NC,body:=Qd2,defers:=D}
structure RgAt (w0:World) (fn:FuncId) (s:ByteArray) (cn:Int) (bv sv:Value) (l D:Nat) (pre:List (List UInt8)) (W:World):Prop where
 st: ∃q v1 v2 ys,Qy Yt Qk QH q0 pre=some q∧DqP W (w0.heap.size+1+1) (w0.heap.size+1+1) q v1 v2 ys
 r0:W.heap[w0.heap.size]? =some (.cells #[.int .i64 0,.slice none 0 0,.slice none 0 0] 43 (0,0))
 r1:W.heap[w0.heap.size+1]? =some (.cells #[.bool false] 4 (0,0))
 L:W.heap[l]? =some (.loop (YP fn s cn bv sv w0.heap.size D .ready none))
 K:W.heap[D]? =some (.deferred (some []))
 below:Below w0.heap.size w0 W
structure RgSt (w0:World) (fn:FuncId) (s:ByteArray) (cn:Int) (bv sv:Value) (l D:Nat) (W:World):Prop where
 no:Qy Yt Qk QH q0 (lnI s.data.toList)=none
 r0:W.heap[w0.heap.size]? =some (.cells #[.int .i64 0,.slice none 0 0,.slice none 0 0] 43 (0,0))
 r1:W.heap[w0.heap.size+1]? =some (.cells #[.bool false] 4 (0,0))
 L:W.heap[l]? =some (.loop (YP fn s cn bv sv w0.heap.size D .done (some .ret)))
 K:W.heap[D]? =some (.deferred (some []))
 below:Below w0.heap.size w0 W
theorem RgAt.keep{w0:World}{fn:FuncId}{s:ByteArray}{cn:Int}{bv sv:Value}{l D Bx:Nat}{c:Array Value}{f:Nat × Nat}{pre:List (List UInt8)}{W W':World}(h:RgAt w0 fn s cn bv sv l D pre W)(hg:W.grownBy W' (some Bx))(hB:W.heap[Bx]? =some (.cells c 9 f))(h0:w0.heap.size≤Bx)(h1:w0.heap.size≠Bx)(h2:w0.heap.size+1≠Bx)(h3:l≠Bx)(h4:D≠Bx):RgAt w0 fn s cn bv sv l D pre W':=by
 have hb: ∀k:Nat,k<W.heap.size→k≠Bx→W'.heap[k]? =W.heap[k]?:=fun k hk hne=>hg.block k hk (fun e=>hne (by cases e;rfl));obtain⟨q,v1,v2,ys,hr,hd⟩:=h.st;exact⟨⟨q,v1,v2,ys,hr,hd.keptO hg hB (fun c e f9 h9=>by cases h9;unfold Mf;decide)⟩,(hb _ (Array.getElem?_eq_some_iff.1 h.r0).1 h1).trans h.r0,(hb _ (Array.getElem?_eq_some_iff.1 h.r1).1 h2).trans h.r1,(hb l (Array.getElem?_eq_some_iff.1 h.L).1 h3).trans h.L,(hb D (Array.getElem?_eq_some_iff.1 h.K).1 h4).trans h.K,h.below.grown hg h.below.size (fun k e=>by cases e;exact h0)⟩
theorem Qto{w0 Z:World}{o9:Option Obj}{fn:FuncId}{s:ByteArray}{cn:Int}{bv sv:Value}{l D Bx:Nat}{pre:List (List UInt8)}(h0l:w0.heap.size+1+1<l)(hlD:l≠D)(hlB:Bx≠l)(hL:Z.heap[l]? =some (.loop {YP fn s cn bv sv w0.heap.size D .ready none with state:= .busy}))
  (hst: ∃q v1 v2 ys,Qy Yt Qk QH q0 pre=some q∧DqP Z (w0.heap.size+1+1) (w0.heap.size+1+1) q v1 v2 ys) (hr0:Z.heap[w0.heap.size]? =some (.cells #[.int .i64 0,.slice none 0 0,.slice none 0 0] 43 (0,0))) (hr1:Z.heap[w0.heap.size+1]? =some (.cells #[.bool false] 4 (0,0))) (hK:Z.heap[D]? =some (.deferred (some []))) (hb:Below w0.heap.size w0 Z) (hx:Z.heap[Bx]? =o9):
  ∃vv w',(Instr.endRound l none).run Tryz.prog Z= .ok vv w'∧((Ending.returned vv= .returned (.bool true)∧RgAt w0 fn s cn bv sv l D pre w'∧w'.heap[Bx]? =o9)∨(Ending.returned vv= .returned (.bool false)∧RgSt w0 fn s cn bv sv l D w')):=by
 have hl:l<Z.heap.size:=(Array.getElem?_eq_some_iff.1 hL).1;obtain⟨q,v1,v2,ys,hr,hd⟩:=hst;have hd2:=hd.keptO (grownBy_putObj_a Z l (.loop (YP fn s cn bv sv w0.heap.size D .ready none))) hL (fun c e f h9=>by cases h9);exact⟨_,_,run_endRound none hL,Or.inl ⟨rfl,⟨⟨q,v1,v2,ys,hr,hd2⟩,(World.putObj_heap_other (by omega)).trans hr0,(World.putObj_heap_other (by omega)).trans hr1,World.putObj_heap_same hl,(World.putObj_heap_other (by omega)).trans hK,hb.grown (grownBy_putObj_a _ _ _) hb.size (fun k e=>by cases e;omega)⟩,(World.putObj_heap_other hlB).trans hx⟩⟩
theorem Qqv{w0 Z:World}{o9:Option Obj}{fn:FuncId}{s:ByteArray}{cn:Int}{bv sv:Value}{l D Bx:Nat}{pre:List (List UInt8)}(h0l:w0.heap.size+1+1<l)(hlD:l≠D)(hL:Z.heap[l]? =some (.loop {YP fn s cn bv sv w0.heap.size D .ready none with state:= .busy}))
  (hno:Qy Yt Qk QH q0 (lnI s.data.toList)=none) (hr0:Z.heap[w0.heap.size]? =some (.cells #[.int .i64 0,.slice none 0 0,.slice none 0 0] 43 (0,0))) (hr1:Z.heap[w0.heap.size+1]? =some (.cells #[.bool false] 4 (0,0))) (hK:Z.heap[D]? =some (.deferred (some []))) (hb:Below w0.heap.size w0 Z):
  ∃vv w',(Instr.endRound l (some .ret)).run Tryz.prog Z= .ok vv w'∧((Ending.returned vv= .returned (.bool true)∧RgAt w0 fn s cn bv sv l D pre w'∧w'.heap[Bx]? =o9)∨(Ending.returned vv= .returned (.bool false)∧RgSt w0 fn s cn bv sv l D w')):=by
 have hl:l<Z.heap.size:=(Array.getElem?_eq_some_iff.1 hL).1;exact⟨_,_,run_endRound (some .ret) hL,Or.inr ⟨rfl,⟨hno,(World.putObj_heap_other (by omega)).trans hr0,(World.putObj_heap_other (by omega)).trans hr1,World.putObj_heap_same hl,(World.putObj_heap_other (by omega)).trans hK,hb.grown (grownBy_putObj_a _ _ _) hb.size (fun k e=>by cases e;omega)⟩⟩⟩
theorem Qmt(m:Nat)(w0:World)(fn:FuncId)(s:ByteArray)(cn:Int)(bv sv:Value)(l D Bx:Nat)(hlD:l≠D)(hlB:Bx≠l)(hDB:D≠Bx)(h0l:w0.heap.size+1+1<l)(h0D:w0.heap.size+1+1<D)(h0B:w0.heap.size+1+1<Bx)(hg0:GI w0)
  (pre:List (List UInt8)) (x p:List UInt8) (W:World) (h:RgAt w0 fn s cn bv sv l D pre W) (hre: ∃rest,lnI s.data.toList=pre++x::rest) (hlz: ∀y∈pre,y.length≤1048576) (hlen:pre.length≤1048576) (hp:p.length≤1048576) (hx:x.length≤1048576) (hpx:Lib.trimSuffix p [10]=x) (hXW: ∃c f,W.heap[Bx]? =some (.cells c 9 f)):
  YieldAt Fence.wide m Tryz.prog l #[.string (bs p)] W fun e W'=>(e= .returned (.bool true)∧RgAt w0 fn s cn bv sv l D (pre++ [x]) W'∧W'.heap[Bx]? =W.heap[Bx]?)∨(e= .returned (.bool false)∧RgSt w0 fn s cn bv sv l D W'):=by
 obtain⟨o9,HO9⟩: ∃o9,Hid (W.heap[Bx]? =o9):=⟨_,rfl⟩;obtain⟨q,v1,v2,ys,hr,hd⟩:=h.st;have HLM:Hid (LimQ 1048576 pre.length q):=by have:=LimQ.run wfI pre 0 q0 q (LimQ.zero _) hlz hr;rw[Nat.zero_add]at this;exact this
 have HNX:Hid (Qy Yt Qk QH q0 (pre++ [x])=stG Yt Qk QH q x):=by show _=_;rw[Br,hr];rfl
 rw[HO9.out];refine⟨fn,#[.string s,undef,.pointer (some ⟨w0.heap.size,0,none⟩),.pointer (some ⟨w0.heap.size+1,0,none⟩),.pointer (some ⟨w0.heap.size+1+1,0,none⟩),undef,.string s,.bool false,.bool false,.string s,.int .i64 s.size,.bool false,.bool false,.bool false,.string s,.int .i64 cn,bv,bv,undef,.string s,sv,.string (bs p),undef,undef,undef,undef,undef,undef,undef,undef,undef,undef,undef],NC,Qd2,by simpa[YP]using run_yield (P:=Tryz.prog) (args:= #[.string (bs p)]) h.L rfl,roundIn_of_wpIn trivial ?_⟩;have hl:l<W.heap.size:=(Array.getElem?_eq_some_iff.1 h.L).1;have hbr:=run_beginRound (P:=Tryz.prog) h.L rfl;obtain⟨W2,hW2⟩: ∃W2,W.putObj l (.loop {YP fn s cn bv sv w0.heap.size D .ready none with state:= .busy})=W2:=⟨_,rfl⟩;rw[hW2]at hbr;have hg2:W.grownBy W2 (some l):=by rw[←hW2];exact grownBy_putObj_a _ _ _
 have hD2:DqP W2 (w0.heap.size+1+1) (w0.heap.size+1+1) q v1 v2 ys:=hd.keptO hg2 h.L (fun c e f h9=>by cases h9);have hr0:W2.heap[w0.heap.size]? =some (.cells #[.int .i64 0,.slice none 0 0,.slice none 0 0] 43 (0,0)):=by rw[←hW2];exact(World.putObj_heap_other (by omega)).trans h.r0
 have hr1:W2.heap[w0.heap.size+1]? =some (.cells #[.bool false] 4 (0,0)):=by rw[←hW2];exact(World.putObj_heap_other (by omega)).trans h.r1
 have hK2:W2.heap[D]? =some (.deferred (some [])):=by rw[←hW2];exact(World.putObj_heap_other (by omega)).trans h.K
 have hX2:W2.heap[Bx]? =W.heap[Bx]?:=by rw[←hW2];exact World.putObj_heap_other hlB
 have hL2:W2.heap[l]? =some (.loop {YP fn s cn bv sv w0.heap.size D .ready none with state:= .busy}):=by rw[←hW2];exact World.putObj_heap_same hl
 have hb2:Below w0.heap.size w0 W2:=h.below.grown hg2 h.below.size (fun k e=>by cases e;omega);have hG2:GI W2:=hg0.below hb2;have HT:Hid (bs (Lib.trimSuffix (bs p).data.toList [10])=bs x):=by show _=_;rw[Qnt,hpx]
 have hpz:(bs p).size≤1048577:=by rw[Qj];omega
 have hxz:(bs x).size≤1048576:=by rw[Qj];omega
 clear hW2;unfold NC;gi_wp2
 unfold Qd2;gi_wp2
 refine And.intro trivial (And.intro (fun h9=>absurd h9 (by decide)) ?_);refine((callsIn_wide.2 (Qdp (bs p) _ hpz)).inRound l).mono ?_;rintro e w9 ⟨rfl,rfl⟩;rw[HT.out];gi_wp2
 refine And.intro trivial (And.intro (fun h9=>absurd h9 (by decide)) ?_);refine((callsIn_wide.2 (OK (bs x) _ hD2 hxz HLM.out hlen hG2)).inRound l).mono ?_;rintro e W3 ⟨hkp,hm⟩;rw[Qnt]at hm;have hlt0:w0.heap.size<w9.heap.size:=(Array.getElem?_eq_some_iff.1 hr0).1;have hlt1:w0.heap.size+1<w9.heap.size:=(Array.getElem?_eq_some_iff.1 hr1).1;have hltL:l<w9.heap.size:=(Array.getElem?_eq_some_iff.1 hL2).1
 have hltD:D<w9.heap.size:=(Array.getElem?_eq_some_iff.1 hK2).1;have b0:W3.heap[w0.heap.size]? =some (.cells #[.int .i64 0,.slice none 0 0,.slice none 0 0] 43 (0,0)):=(hkp.block _ hlt0 (Or.inl (by omega))).trans hr0;have b1:W3.heap[w0.heap.size+1]? =some (.cells #[.bool false] 4 (0,0)):=(hkp.block _ hlt1 (Or.inl (by omega))).trans hr1;have bL:W3.heap[l]? =some (.loop {YP fn s cn bv sv w0.heap.size D .ready none with state:= .busy}):=(hkp.block _ hltL (Or.inr fun c e f h9=>by rw[hL2]at h9;cases h9)).trans hL2;have bK:W3.heap[D]? =some (.deferred (some [])):=(hkp.block _ hltD (Or.inr fun c e f h9=>by rw[hK2]at h9;cases h9)).trans hK2
 have bX:W3.heap[Bx]? =o9:=by
  obtain⟨c,f,hX⟩:=hXW;have hX9:w9.heap[Bx]? =some (.cells c 9 f):=hX2.trans hX;exact((hkp.block _ (Array.getElem?_eq_some_iff.1 hX9).1 (Or.inr fun c' e' f' h9=>by rw[hX9]at h9;cases h9;unfold Mf;decide)).trans hX2).trans HO9.out
 have bB:Below w0.heap.size w0 W3:=hb2.trans ((hkp.to_below (by omega)).mono (by omega));clear hkp;cases ho:stG Yt Qk QH q x with
 | some q'=>
  rw[ho]at hm;obtain⟨rfl,u1,u2,us,hd3⟩:=hm;gi_wp2
  exact Qto h0l hlD hlB bL ⟨q',u1,u2,us,HNX.out.trans ho,hd3⟩ b0 b1 bK bB bX
 | none=>
  rw[ho]at hm;obtain rfl:=hm
  have hno:Qy Yt Qk QH q0 (lnI s.data.toList)=none:=by
   obtain⟨rest,e9⟩:=hre;rw[e9,show pre++x::rest=(pre++ [x])++rest by simp,ZE,HNX.out,ho];rfl
  have c0:W3.cell? ⟨w0.heap.size,0,none⟩=some (.int .i64 0):=by simp[World.cell?,b0]
  have c1:W3.cell? ⟨w0.heap.size,1,none⟩=some (.slice none 0 0):=by simp[World.cell?,b0]
  have c2:W3.cell? ⟨w0.heap.size,2,none⟩=some (.slice none 0 0):=by simp[World.cell?,b0]
  have cf: ∀o,W3.frozen? ⟨w0.heap.size,o,none⟩=false:=fun o=>by simp[World.frozen?,b0]
  have d0:W3.cell? ⟨w0.heap.size+1,0,none⟩=some (.bool false):=by simp[World.cell?,b1]
  have df:W3.frozen? ⟨w0.heap.size+1,0,none⟩=false:=by simp[World.frozen?,b1]
  gi_wp2
  have s1:(W3.setCell ⟨w0.heap.size,0,none⟩ (.int .i64 0)).heap[w0.heap.size]? =some (.cells #[.int .i64 0,.slice none 0 0,.slice none 0 0] 43 (0,0)):=heap_setCell_same W3 w0.heap.size 0 _ _ (.int .i64 0) b0;have s2:((W3.setCell ⟨w0.heap.size,0,none⟩ (.int .i64 0)).setCell ⟨w0.heap.size,1,none⟩ (.slice none 0 0)).heap[w0.heap.size]? =some (.cells #[.int .i64 0,.slice none 0 0,.slice none 0 0] 43 (0,0)):=heap_setCell_same _ w0.heap.size 1 _ _ (.slice none 0 0) s1;have s3:(((W3.setCell ⟨w0.heap.size,0,none⟩ (.int .i64 0)).setCell ⟨w0.heap.size,1,none⟩ (.slice none 0 0)).setCell ⟨w0.heap.size,2,none⟩ (.slice none 0 0)).heap[w0.heap.size]? =some (.cells #[.int .i64 0,.slice none 0 0,.slice none 0 0] 43 (0,0)):=heap_setCell_same _ w0.heap.size 2 _ _ (.slice none 0 0) s2;have far: ∀k:Nat,k≠w0.heap.size→(((W3.setCell ⟨w0.heap.size,0,none⟩ (.int .i64 0)).setCell ⟨w0.heap.size,1,none⟩ (.slice none 0 0)).setCell ⟨w0.heap.size,2,none⟩ (.slice none 0 0)).heap[k]? =W3.heap[k]?:=fun k hk=>((Below.heap_setCell _ _ _ _ hk).trans (Below.heap_setCell _ _ _ _ hk)).trans (Below.heap_setCell _ _ _ _ hk)
  exact Qqv h0l hlD ((Below.heap_setCell _ _ _ _ (by show l≠w0.heap.size+1;omega)).trans ((far l (by omega)).trans bL)) hno ((Below.heap_setCell _ _ _ _ (by show w0.heap.size≠w0.heap.size+1;omega)).trans s3) (heap_setCell_same _ (w0.heap.size+1) 0 _ _ (.bool false) ((far _ (by omega)).trans b1)) ((Below.heap_setCell _ _ _ _ (by show D≠w0.heap.size+1;omega)).trans ((far D (by omega)).trans bK))
   ((((bB.setCell (p:=⟨w0.heap.size,0,none⟩) (Nat.le_refl _) _).setCell (p:=⟨w0.heap.size,1,none⟩) (Nat.le_refl _) _).setCell (p:=⟨w0.heap.size,2,none⟩) (Nat.le_refl _) _).setCell (p:=⟨w0.heap.size+1,0,none⟩) (Nat.le_succ _) _)
attribute [local go_sem] Oper.semAt_some
theorem DqV.keptO{W W':World}{B k:Nat}{v:Value}{q:RQ}{o:Obj}(h:DqV W B v q)(hg:W.grownBy W' (some k))(hk:W.heap[k]? =some o)(ho: ∀(c:Array Value) (e9:TypeId) (f:Nat × Nat),o=Obj.cells c e9 f→ ¬Mf e9):DqV W' B v q:=by
 obtain⟨v1,v2,ys,e,h1,h2,h3,h4⟩:=h;refine⟨v1,v2,ys,e,h1.kept hg (XF h1 Qcg hk ho),fun i x hx=> ?_,h3,h4.kept hg (XF h4 Qkf hk ho)⟩;obtain⟨u,v,y0,y1,y2,k1,k2⟩:=h2 i x hx;exact⟨u,v,y0,y1,y2,k1.kept hg (Qjx k1 hk ho),k2.kept hg (XF k2 Qii hk ho)⟩
theorem Qfm(l:List UInt8):(∀x∈lnI l,x.length≤l.length)∧(lnI l).length≤l.count 10+1:=by
 obtain⟨h1,h2⟩:=Qb4 l;unfold lnI;refine⟨fun x hx=> ?_,?_⟩
 ·rcases List.mem_append.1 hx with hx | hx
  ·exact h1 x hx
  ·split at hx
   ·cases hx
   ·rw[List.mem_singleton]at hx;subst hx;exact h2
 ·rw[List.length_append,Qb5];split
  ·simp
  ·simp
theorem Qhe(n:Nat)(s:ByteArray)(w:World):
  CallsIn Fence.wide n Tryz.prog 33 #[.string s] w fun e w'=>e= .returned (.func (.func 72) #[] #[.pointer (some ⟨w.heap.size,0,none⟩)])∧w'=w.alloc (.cells #[.string s] 9):=by
 refine callsIn_of_wp Tryz.func33 rfl trivial ?_ rfl;simp only[Tryz.ntmps33,List.size_toArray,List.length_cons,List.length_nil,Nat.reduceAdd,Nat.reduceSub,Array.replicate_succ,Array.replicate_zero,List.push_toArray,List.append_toArray,List.nil_append,List.cons_append];gi_wp2
 go_ret;exact⟨rfl,rfl⟩
theorem Qth(n0:Nat)(hn0:4≤n0)(s:ByteArray)(w:World)(hs:s.size≤1048576)(hg:GI w):
  CallsIn Fence.wide n0 Tryz.prog 14 #[.string s] w fun e w'=>RgPost w.heap.size (VP s) e w'∧Below w.heap.size w w':=by
 have h1:1≤n0:=by omega
 have HG:Hid (GI w):=hg;have eg: ∀args w,(callFunc 72 args).run Tryz.prog w= .ok (.enter 72 args) w:=enters_of Tryz.func72 (by kernel_rfl) rfl;obtain⟨cn,HCN⟩: ∃cn:Nat,Hid (s.data.toList.count 10=cn):=⟨_,rfl⟩;have q9: ¬(2000000:Int)<(s.size:Int):=by omega
 clear hg;refine callsIn_of_wp_marks Tryz.func14 rfl trivial ?_ rfl;simp only[Tryz.ntmps14,List.size_toArray,List.length_cons,List.length_nil,Nat.reduceAdd,Nat.reduceSub,Array.replicate_succ,Array.replicate_zero,List.push_toArray,List.append_toArray,List.nil_append,List.cons_append];cases hse:s.toList.isEmpty
 rotate_left
 ·have HF:Hid (VP s=none):=if_pos (Or.inl hse);gi_wp2
  refine⟨trivial,?_⟩;gi_wp2
  refine⟨.tuple #[.agg #[.int .i64 0,.slice none 0 0,.slice none 0 0],.bool false],by simp[results,Tryz.results14,go_sem],?_⟩;exact⟨RgPost.no HF.out rfl,((Below.refl _ _).alloc (Nat.le_refl _) _).alloc (by simp) _⟩
 gi_wp2
 refine⟨trivial,?_⟩;refine(callsIn_wide.2 (Qas s _)).mono ?_;rintro e w' ⟨rfl,rfl⟩;rw[HCN.out];by_cases h30:10000<cn
 ·have q1:(10000:Int)<(cn:Int):=by omega
  have HF:Hid (VP s=none):=if_pos (Or.inr (by rw[HCN.out];exact h30));gi_wp2
  refine⟨.tuple #[.agg #[.int .i64 0,.slice none 0 0,.slice none 0 0],.bool false],by simp[results,Tryz.results14,go_sem],?_⟩;exact⟨RgPost.no HF.out rfl,((Below.refl _ _).alloc (Nat.le_refl _) _).alloc (by simp) _⟩
 have HAS:Hid (VP s=Qa1 Yt Qk QH s (lnI s.data.toList)):=if_neg (by rw[HCN.out,hse];intro h9;rcases h9 with h9 | h9;cases h9;exact h30 h9)
 have HLN:Hid ((lnI s.data.toList).length≤10001∧ ∀y∈lnI s.data.toList,y.length≤1048576):=by
  obtain⟨z1,z2⟩:=Qfm s.data.toList;have h8:s.data.toList.length=s.size:=by simp
  exact⟨by rw[HCN.out]at z2;omega,fun y hy=>Nat.le_trans (z1 y hy) (by omega)⟩
 have q1: ¬(10000:Int)<(cn:Int):=by omega
 gi_wp2
 refine⟨trivial,?_⟩;refine(Qhe _ s _).mono ?_;rintro e w9 ⟨rfl,rfl⟩;gi_wp2
 refine wpIn_rangeFunc ?_;intro fn hfn;show∃_,_;obtain⟨bv,hbv⟩: ∃bv,Value.bool (decide ((10000:Int)<(cn:Int)))=bv:=⟨_,rfl⟩;obtain⟨Xa,hXa⟩: ∃X,(w.alloc (.cells #[.int .i64 0,.slice none 0 0,.slice none 0 0] 43)).alloc (.cells #[.bool false] 4)=X:=⟨_,rfl⟩;have zXa:Xa.heap.size=w.heap.size+1+1:=by rw[←hXa];simp
 have ra0:Xa.heap[w.heap.size]? =some (.cells #[.int .i64 0,.slice none 0 0,.slice none 0 0] 43 (0,0)):=by rw[←hXa];exact(Below.heap_alloc _ _ _ (by simp)).trans (World.alloc_heap_new w _)
 have ra1:Xa.heap[w.heap.size+1]? =some (.cells #[.bool false] 4 (0,0)):=by rw[←hXa];have:=World.alloc_heap_new (w.alloc (.cells #[.int .i64 0,.slice none 0 0,.slice none 0 0] 43)) (.cells #[.bool false] 4);rwa[World.size_alloc]at this
 have bXa:Below w.heap.size w Xa:=by rw[←hXa];exact((Below.refl _ _).alloc (Nat.le_refl _) _).alloc (by simp) _
 rw[hXa];obtain⟨Xb,hXb⟩: ∃X,Xa.alloc (.cells #[.int .i64 0,.slice none 0 0,.slice none 0 0] 43)=X:=⟨_,rfl⟩;have zXb:Xb.heap.size=w.heap.size+1+1+1:=by rw[←hXb];simp[zXa]
 have hDb:DqP Xb (w.heap.size+1+1) (w.heap.size+1+1) q0 (.slice none 0 0) (.slice none 0 0) []:=by rw[←hXb,←zXa];exact DqP.new Xa
 have bXb:Below Xa.heap.size Xa Xb:=by rw[←hXb];exact(Below.refl _ _).alloc (Nat.le_refl _) _
 rw[hXb];obtain⟨W0,hW0⟩: ∃W0,Xb.alloc (.cells #[.string s] 9)=W0:=⟨_,rfl⟩;have hs0:W0.heap.size=w.heap.size+1+1+1+1:=by rw[←hW0];simp[zXb]
 have bW0:Below Xb.heap.size Xb W0:=by rw[←hW0];exact(Below.refl _ _).alloc (Nat.le_refl _) _
 have hn0':W0.heap[w.heap.size+1+1+1]? =some (.cells #[.string s] 9 (0,0)):=by rw[←hW0,←zXb];exact World.alloc_heap_new Xb _
 rw[hW0];have d2:W0.cell? ⟨w.heap.size+1+1+1,0,none⟩=some (.string s):=by simp[World.cell?,hn0']
 have g2:W0.frozen? ⟨w.heap.size+1+1+1,0,none⟩=false:=by simp[World.frozen?,hn0']
 obtain⟨sv,hsv⟩: ∃sv,Value.func (.func 72) #[] #[.pointer (some ⟨w.heap.size+1+1+1,0,none⟩)]=sv:=⟨_,rfl⟩;obtain⟨rc,hrc⟩: ∃rc,YP fn s (cn:Int) bv sv w.heap.size W0.heap.size .ready none=rc:=⟨_,rfl⟩;obtain⟨W1,hW1⟩: ∃W1,(W0.alloc (.deferred (some []))).alloc (.loop rc)=W1:=⟨_,rfl⟩
 have hold: ∀k:Nat,k<W0.heap.size→W1.heap[k]? =W0.heap[k]?:=fun k hk=>by
  rw[←hW1];exact(Below.heap_alloc _ _ k (by simp;omega)).trans (Below.heap_alloc _ _ k hk)
 have hb01:Below W0.heap.size W0 W1:=by rw[←hW1];exact((Below.refl _ W0).alloc (Nat.le_refl _) _).alloc (by simp) _
 have hbw:Below w.heap.size w W1:=Qc (Qc (Qc bXa bXb) bW0) hb01
 have hL1:W1.heap[W0.heap.size+1]? =some (.loop rc):=by
  rw[←hW1];have:=World.alloc_heap_new (W0.alloc (.deferred (some []))) (.loop rc);rwa[World.size_alloc]at this
 have hK1:W1.heap[W0.heap.size]? =some (.deferred (some [])):=by rw[←hW1];exact(Below.heap_alloc _ _ _ (by simp)).trans (World.alloc_heap_new W0 _)
 have hX1:W1.heap[w.heap.size+1+1+1]? =some (.cells #[.string s] 9 (0,0)):=(hold _ (by omega)).trans hn0';have b0:W1.cell? ⟨w.heap.size+1+1+1,0,none⟩=some (.string s):=(World.cell?_of_block (hold (w.heap.size+1+1+1) (by omega))).trans d2;have b1:W1.frozen? ⟨w.heap.size+1+1+1,0,none⟩=false:=by have:=g2;unfold World.frozen? at this ⊢;simpa only[hold (w.heap.size+1+1+1) (by omega)]using this
 have hst1:RgAt w fn s (cn:Int) bv sv (W0.heap.size+1) W0.heap.size [] W1:=by
  refine⟨⟨q0,_,_,_,rfl,(hDb.below bW0).below hb01⟩,?_,?_,by rw[hrc];exact hL1,hK1,hbw⟩
  ·exact(hold _ (by omega)).trans ((bW0.block _ (by omega)).trans ((bXb.block _ (by omega)).trans ra0))
  ·exact(hold _ (by omega)).trans ((bW0.block _ (by omega)).trans ((bXb.block _ (by omega)).trans ra1))
 have key:=Qq8 (n0-1) (by omega) (W0.heap.size+1) (w.heap.size+1+1+1) s hs
  (fun pre W=>RgAt w fn s (cn:Int) bv sv (W0.heap.size+1) W0.heap.size pre W∧ ∃c,W.heap[w.heap.size+1+1+1]? =some (.cells c 9 (0,0)))
  (fun W=>RgSt w fn s (cn:Int) bv sv (W0.heap.size+1) W0.heap.size W)
  W1 b0 b1 ⟨hst1,_,hX1⟩
  (fun pre Wa Wb hx hy hz=>by
   obtain⟨hx1,c,hx2⟩:=hx
   exact⟨hx1.keep hy hx2 (by omega) (by omega) (by omega) (by omega) (by omega),hz c _ hx2⟩)
  (fun pre x p Wa hx hre hp9 hx9 ht9=>by
   obtain⟨hx1,c,hx2⟩:=hx
   have hpl: ∀y∈pre,y.length≤1048576:=fun y hy=>by
    obtain⟨rest,e9⟩:=hre;exact HLN.out.2 y (by rw[e9];exact List.mem_append_left _ hy)
   have hpn:pre.length≤1048576:=by
    obtain⟨rest,e9⟩:=hre;have h8:=HLN.out.1;rw[e9,List.length_append]at h8;omega
   obtain⟨fn2,tm2,as2,bo2,e2,r2⟩:=Qmt (n0-1-1) w fn s (cn:Int) bv sv (W0.heap.size+1) W0.heap.size (w.heap.size+1+1+1) (by omega) (by omega) (by omega) (by omega) (by omega) (by omega) HG.out pre x p Wa hx1 hre hpl hpn hp9 hx9 ht9 ⟨c,_,hx2⟩
   exact⟨fn2,tm2,as2,bo2,e2,r2.mono fun e W' hpp=>by
    rcases hpp with⟨h5,h6,h7⟩ | ⟨h5,h6⟩
    ·exact Or.inl ⟨h5,⟨h6,c,h7.trans hx2⟩,h7⟩
    ·exact Or.inr ⟨h5,h6⟩⟩)
 have HS0:Hid (W0.heap.size=w.heap.size+1+1+1+1):=hs0
 refine⟨W0.heap.size+1,[{target:= .collected W0.heap.size,args:= #[]}],W1,{target:= .fn (.func 72) #[.pointer (some ⟨w.heap.size+1+1+1,0,none⟩)],args:= #[.func (.yield (W0.heap.size+1)) #[] #[]]},W1,72,
  #[.func (.yield (W0.heap.size+1)) #[] #[]]++ #[.pointer (some ⟨w.heap.size+1+1+1,0,none⟩)],W1,?_,?_,?_,?_,fun _=>h1,?_⟩
 ·rw[←hW1,←hrc,←hbv,←hsv];exact run_enterLoop_outer _ _ _ _ _
 ·simp[resolve,go_sem]
 ·intro f' hf';trivial
 ·simp[invoke,go_sem,eg]
 ·refine key.mono ?_;rintro e W2 ⟨⟨v0,rfl⟩,hpost⟩;clear key hst1 hX1 b0 b1 hK1 hL1 hold d2 g2 hn0' hs0 zXb zXa;rcases hpost with⟨h2,c,hbx⟩ | h2
  ·obtain⟨q,v1,v2,ys,hr,hd⟩:=h2.st;have HR:Hid (Qy Yt Qk QH q0 (lnI s.data.toList)=some q):=hr;obtain⟨VA,vc,rfl,_,_⟩:=Qo hd.vr;obtain⟨BA,bc,rfl,_,_⟩:=Qo hd.br
   have HLM:Hid (LimQ 1048576 10001 q):=by
    have h9:=LimQ.run wfI (lnI s.data.toList) 0 q0 q (LimQ.zero _) HLN.out.2 hr;have h8:=HLN.out.1;exact⟨h9.bl,fun x hx=>by obtain⟨a1,a2,a3,a4,a5⟩:=h9.vs x hx;exact⟨a1,a2,a3,by omega,a5⟩,by have:=h9.nb;omega,by have:=h9.nv;omega⟩
   have hend:=run_endLoop (P:=Tryz.prog) h2.L (by simp[YP]);obtain⟨W3,hW3⟩: ∃W3,W2.putObj (W0.heap.size+1) (.loop {YP fn s (cn:Int) bv sv w.heap.size W0.heap.size .ready none with state:= .exhausted})=W3:=⟨_,rfl⟩;rw[hW3]at hend;have hg3:W2.grownBy W3 (some (W0.heap.size+1)):=by rw[←hW3];exact grownBy_putObj_a _ _ _
   have D:Hid (DqP W3 (w.heap.size+1+1) (w.heap.size+1+1) q (.slice VA q.vs.length vc) (.slice BA q.bl.length bc) ys):=hd.keptO hg3 h2.L (fun c e f h9=>by cases h9);have R0:Hid (W3.heap[w.heap.size]? =some (.cells #[.int .i64 0,.slice none 0 0,.slice none 0 0] 43 (0,0))):=by rw[←hW3];exact(World.putObj_heap_other (by have:=HS0.out;omega)).trans h2.r0
   have R1:Hid (W3.heap[w.heap.size+1]? =some (.cells #[.bool false] 4 (0,0))):=by rw[←hW3];exact(World.putObj_heap_other (by have:=HS0.out;omega)).trans h2.r1
   have K3:Hid (W3.heap[W0.heap.size]? =some (.deferred (some []))):=by rw[←hW3];exact(World.putObj_heap_other (by omega)).trans h2.K
   have B3:Hid (Below w.heap.size w W3):=h2.below.grown hg3 h2.below.size (fun k e=>by cases e;have:=HS0.out;omega);have c0:W3.cell? ⟨w.heap.size+1+1,0,none⟩=some (.int .i64 q.next):=D.out.box.cellAt 0 (by decide);have c1:W3.cell? ⟨w.heap.size+1+1,1,none⟩=some (.slice VA q.vs.length vc):=D.out.box.cellAt 1 (by decide);have c2:W3.cell? ⟨w.heap.size+1+1,2,none⟩=some (.slice BA q.bl.length bc):=D.out.box.cellAt 2 (by decide);clear hW3 hr hd hg3 h2 hbx;refine⟨none,W3,hend,?_⟩;gi_wp2
   refine⟨trivial,?_⟩;refine(callsIn_wide.2 (Bz W3 (D.out.val.row (HLM.out.srcs (by omega))) (HLM.out.ok (by omega)) (HLM.out.lil (by omega) (by omega)) (HG.out.below B3.out))).mono ?_;rintro e W4 ⟨rfl,hb4⟩;obtain⟨t,HT⟩: ∃t,Hid (Qgq (dgQ q)=t):=⟨_,rfl⟩;rw[HT.out];have D4:=hd (D.out.below hb4);have r0:W4.heap[w.heap.size]? =some (.cells #[.int .i64 0,.slice none 0 0,.slice none 0 0] 43 (0,0)):=(hb4.block _ (Array.getElem?_eq_some_iff.1 R0.out).1).trans R0.out
   have r1:W4.heap[w.heap.size+1]? =some (.cells #[.bool false] 4 (0,0)):=(hb4.block _ (Array.getElem?_eq_some_iff.1 R1.out).1).trans R1.out;have K4:Hid (W4.heap[W0.heap.size]? =some (.deferred (some []))):=(hb4.block _ (Array.getElem?_eq_some_iff.1 K3.out).1).trans K3.out;have B4:=hd (Qc B3.out hb4);replace c0:W4.cell? ⟨w.heap.size+1+1,0,none⟩=some (.int .i64 q.next):=D4.out.box.cellAt 0 (by decide);replace c1:W4.cell? ⟨w.heap.size+1+1,1,none⟩=some (.slice VA q.vs.length vc):=D4.out.box.cellAt 1 (by decide);replace c2:W4.cell? ⟨w.heap.size+1+1,2,none⟩=some (.slice BA q.bl.length bc):=D4.out.box.cellAt 2 (by decide);have p0:W4.cell? ⟨w.heap.size,0,none⟩=some (.int .i64 0):=by simp[World.cell?,r0]
   have p1:W4.cell? ⟨w.heap.size,1,none⟩=some (.slice none 0 0):=by simp[World.cell?,r0]
   have p2:W4.cell? ⟨w.heap.size,2,none⟩=some (.slice none 0 0):=by simp[World.cell?,r0]
   have pf: ∀o,W4.frozen? ⟨w.heap.size,o,none⟩=false:=fun o=>by simp[World.frozen?,r0]
   have e0:W4.cell? ⟨w.heap.size+1,0,none⟩=some (.bool false):=by simp[World.cell?,r1]
   have ef: ∀o,W4.frozen? ⟨w.heap.size+1,o,none⟩=false:=fun o=>by simp[World.frozen?,r1]
   clear hb4 D R0 R1 K3 B3 r0 r1;cases hq9:t.toList==s.toList
   ·have HF:Hid (VP s=none):=HAS.out.trans (Qeb HR.out (Or.inl (by rw[HT.out];exact hq9)));gi_wp2
    obtain⟨Z,HZ⟩: ∃Z,Hid ((((W4.setCell ⟨w.heap.size,0,none⟩ (.int .i64 0)).setCell ⟨w.heap.size,1,none⟩ (.slice none 0 0)).setCell ⟨w.heap.size,2,none⟩ (.slice none 0 0)).setCell ⟨w.heap.size+1,0,none⟩ (.bool false)=Z):=⟨_,rfl⟩;rw[HZ.out];have z0:Z.cell? ⟨w.heap.size,0,none⟩=some (.int .i64 0):=by rw[←HZ.out];go_simp
    have z1:Z.cell? ⟨w.heap.size,1,none⟩=some (.slice none 0 0):=by rw[←HZ.out];go_simp
    have z2:Z.cell? ⟨w.heap.size,2,none⟩=some (.slice none 0 0):=by rw[←HZ.out];go_simp
    have z3:Z.cell? ⟨w.heap.size+1,0,none⟩=some (.bool false):=by rw[←HZ.out];go_simp
    have KZ:Z.heap[W0.heap.size]? =some (.deferred (some [])):=by
     rw[←HZ.out];have h9:=HS0.out;exact(Below.heap_setCell _ _ _ _ (by show W0.heap.size≠w.heap.size+1;omega)).trans ((Below.heap_setCell _ _ _ _ (by show W0.heap.size≠w.heap.size;omega)).trans ((Below.heap_setCell _ _ _ _ (by show W0.heap.size≠w.heap.size;omega)).trans ((Below.heap_setCell _ _ _ _ (by show W0.heap.size≠w.heap.size;omega)).trans K4.out)))
    have BZ:Below w.heap.size w Z:=by rw[←HZ.out];exact(((B4.out.setCell (p:=⟨w.heap.size,0,none⟩) (Nat.le_refl _) _).setCell (p:=⟨w.heap.size,1,none⟩) (Nat.le_refl _) _).setCell (p:=⟨w.heap.size,2,none⟩) (Nat.le_refl _) _).setCell (p:=⟨w.heap.size+1,0,none⟩) (Nat.le_succ _) _
    have y0: ∀o,(Z.putObj W0.heap.size o).cell? ⟨w.heap.size,0,none⟩=some (.int .i64 0):=fun o=>(World.cell?_of_block (World.putObj_heap_other (by have:=HS0.out;show w.heap.size≠W0.heap.size;omega))).trans z0;have y1: ∀o,(Z.putObj W0.heap.size o).cell? ⟨w.heap.size,1,none⟩=some (.slice none 0 0):=fun o=>(World.cell?_of_block (World.putObj_heap_other (by have:=HS0.out;show w.heap.size≠W0.heap.size;omega))).trans z1;have y2: ∀o,(Z.putObj W0.heap.size o).cell? ⟨w.heap.size,2,none⟩=some (.slice none 0 0):=fun o=>(World.cell?_of_block (World.putObj_heap_other (by have:=HS0.out;show w.heap.size≠W0.heap.size;omega))).trans z2;have y3: ∀o,(Z.putObj W0.heap.size o).cell? ⟨w.heap.size+1,0,none⟩=some (.bool false):=fun o=>(World.cell?_of_block (World.putObj_heap_other (by have:=HS0.out;show w.heap.size+1≠W0.heap.size;omega))).trans z3;refine⟨by simp,.inl ⟨_,_,rfl,run_takeDeferred KZ,?_⟩⟩;refine⟨.tuple #[.agg #[.int .i64 0,.slice none 0 0,.slice none 0 0],.bool false],by simp[results,Tryz.results14,go_sem,y0,y1,y2,y3],?_⟩;exact⟨RgPost.no HF.out rfl,BZ.grown (grownBy_putObj_a _ _ _) BZ.size (fun k e=>by cases e;have:=HS0.out;omega)⟩
   ·have HF:Hid (VP s=some q):=HAS.out.trans (Qgf HR.out (by rw[HT.out];exact hq9) hse);gi_wp2
    obtain⟨Z,HZ⟩: ∃Z,Hid ((((W4.setCell ⟨w.heap.size,0,none⟩ (.int .i64 q.next)).setCell ⟨w.heap.size,1,none⟩ (.slice VA q.vs.length vc)).setCell ⟨w.heap.size,2,none⟩ (.slice BA q.bl.length bc)).setCell ⟨w.heap.size+1,0,none⟩ (.bool true)=Z):=⟨_,rfl⟩;rw[HZ.out];have z0:Z.cell? ⟨w.heap.size,0,none⟩=some (.int .i64 q.next):=by rw[←HZ.out];go_simp
    have z1:Z.cell? ⟨w.heap.size,1,none⟩=some (.slice VA q.vs.length vc):=by rw[←HZ.out];go_simp
    have z2:Z.cell? ⟨w.heap.size,2,none⟩=some (.slice BA q.bl.length bc):=by rw[←HZ.out];go_simp
    have z3:Z.cell? ⟨w.heap.size+1,0,none⟩=some (.bool true):=by rw[←HZ.out];go_simp
    have KZ:Z.heap[W0.heap.size]? =some (.deferred (some [])):=by
     rw[←HZ.out];have h9:=HS0.out;exact(Below.heap_setCell _ _ _ _ (by show W0.heap.size≠w.heap.size+1;omega)).trans ((Below.heap_setCell _ _ _ _ (by show W0.heap.size≠w.heap.size;omega)).trans ((Below.heap_setCell _ _ _ _ (by show W0.heap.size≠w.heap.size;omega)).trans ((Below.heap_setCell _ _ _ _ (by show W0.heap.size≠w.heap.size;omega)).trans K4.out)))
    have BZ:Below w.heap.size w Z:=by rw[←HZ.out];exact(((B4.out.setCell (p:=⟨w.heap.size,0,none⟩) (Nat.le_refl _) _).setCell (p:=⟨w.heap.size,1,none⟩) (Nat.le_refl _) _).setCell (p:=⟨w.heap.size,2,none⟩) (Nat.le_refl _) _).setCell (p:=⟨w.heap.size+1,0,none⟩) (Nat.le_succ _) _
    have VZ:DqV Z (w.heap.size+1+1) (.agg #[.int .i64 q.next,.slice VA q.vs.length vc,.slice BA q.bl.length bc]) q:=by
     rw[←HZ.out];exact(((D4.out.val.setB (by omega)).setB (by omega)).setB (by omega)).setB (by omega)
    have y0: ∀o,(Z.putObj W0.heap.size o).cell? ⟨w.heap.size,0,none⟩=some (.int .i64 q.next):=fun o=>(World.cell?_of_block (World.putObj_heap_other (by have:=HS0.out;show w.heap.size≠W0.heap.size;omega))).trans z0;have y1: ∀o,(Z.putObj W0.heap.size o).cell? ⟨w.heap.size,1,none⟩=some (.slice VA q.vs.length vc):=fun o=>(World.cell?_of_block (World.putObj_heap_other (by have:=HS0.out;show w.heap.size≠W0.heap.size;omega))).trans z1;have y2: ∀o,(Z.putObj W0.heap.size o).cell? ⟨w.heap.size,2,none⟩=some (.slice BA q.bl.length bc):=fun o=>(World.cell?_of_block (World.putObj_heap_other (by have:=HS0.out;show w.heap.size≠W0.heap.size;omega))).trans z2;have y3: ∀o,(Z.putObj W0.heap.size o).cell? ⟨w.heap.size+1,0,none⟩=some (.bool true):=fun o=>(World.cell?_of_block (World.putObj_heap_other (by have:=HS0.out;show w.heap.size+1≠W0.heap.size;omega))).trans z3;refine⟨by simp,.inl ⟨_,_,rfl,run_takeDeferred KZ,?_⟩⟩;refine⟨.tuple #[.agg #[.int .i64 q.next,.slice VA q.vs.length vc,.slice BA q.bl.length bc],.bool true],by simp[results,Tryz.results14,go_sem,y0,y1,y2,y3],?_⟩;exact⟨RgPost.yes HF.out rfl ((VZ.keptO (grownBy_putObj_a _ _ _) KZ (fun c e f h9=>by cases h9)).mono (by omega)),BZ.grown (grownBy_putObj_a _ _ _) BZ.size (fun k e=>by cases e;have:=HS0.out;omega)⟩
  ·have HF:Hid (VP s=none):=HAS.out.trans (Qdf h2.no);have hend:=run_endLoop (P:=Tryz.prog) h2.L (by simp[YP]);obtain⟨W3,hW3⟩: ∃W3,W2.putObj (W0.heap.size+1) (.loop {YP fn s (cn:Int) bv sv w.heap.size W0.heap.size .done (some .ret)with state:= .exhausted})=W3:=⟨_,rfl⟩;rw[hW3]at hend;have hg3:W2.grownBy W3 (some (W0.heap.size+1)):=by rw[←hW3];exact grownBy_putObj_a _ _ _
   have r0:W3.heap[w.heap.size]? =some (.cells #[.int .i64 0,.slice none 0 0,.slice none 0 0] 43 (0,0)):=by rw[←hW3];exact(World.putObj_heap_other (by have:=HS0.out;omega)).trans h2.r0
   have r1:W3.heap[w.heap.size+1]? =some (.cells #[.bool false] 4 (0,0)):=by rw[←hW3];exact(World.putObj_heap_other (by have:=HS0.out;omega)).trans h2.r1
   have K3:Hid (W3.heap[W0.heap.size]? =some (.deferred (some []))):=by rw[←hW3];exact(World.putObj_heap_other (by omega)).trans h2.K
   have B3:Hid (Below w.heap.size w W3):=h2.below.grown hg3 h2.below.size (fun k e=>by cases e;have:=HS0.out;omega);have p0:W3.cell? ⟨w.heap.size,0,none⟩=some (.int .i64 0):=by simp[World.cell?,r0]
   have p1:W3.cell? ⟨w.heap.size,1,none⟩=some (.slice none 0 0):=by simp[World.cell?,r0]
   have p2:W3.cell? ⟨w.heap.size,2,none⟩=some (.slice none 0 0):=by simp[World.cell?,r0]
   have e0:W3.cell? ⟨w.heap.size+1,0,none⟩=some (.bool false):=by simp[World.cell?,r1]
   clear hW3 hg3 h2 r0 r1;refine⟨some .ret,W3,hend,?_⟩;gi_wp2
   obtain⟨Z,HZ⟩: ∃Z,Hid (W3=Z):=⟨_,rfl⟩;have z0:=p0;have z1:=p1;have z2:=p2;have z3:=e0;have KZ:=K3.out;have BZ:=B3.out
   rw[HZ.out]at z0 z1 z2 z3 KZ BZ ⊢;have y0: ∀o,(Z.putObj W0.heap.size o).cell? ⟨w.heap.size,0,none⟩=some (.int .i64 0):=fun o=>(World.cell?_of_block (World.putObj_heap_other (by have:=HS0.out;show w.heap.size≠W0.heap.size;omega))).trans z0;have y1: ∀o,(Z.putObj W0.heap.size o).cell? ⟨w.heap.size,1,none⟩=some (.slice none 0 0):=fun o=>(World.cell?_of_block (World.putObj_heap_other (by have:=HS0.out;show w.heap.size≠W0.heap.size;omega))).trans z1;have y2: ∀o,(Z.putObj W0.heap.size o).cell? ⟨w.heap.size,2,none⟩=some (.slice none 0 0):=fun o=>(World.cell?_of_block (World.putObj_heap_other (by have:=HS0.out;show w.heap.size≠W0.heap.size;omega))).trans z2;have y3: ∀o,(Z.putObj W0.heap.size o).cell? ⟨w.heap.size+1,0,none⟩=some (.bool false):=fun o=>(World.cell?_of_block (World.putObj_heap_other (by have:=HS0.out;show w.heap.size+1≠W0.heap.size;omega))).trans z3;refine⟨by simp,.inl ⟨_,_,rfl,run_takeDeferred KZ,?_⟩⟩;refine⟨.tuple #[.agg #[.int .i64 0,.slice none 0 0,.slice none 0 0],.bool false],by simp[results,Tryz.results14,go_sem,y0,y1,y2,y3],?_⟩
   exact⟨RgPost.no HF.out rfl,BZ.grown (grownBy_putObj_a _ _ _) BZ.size (fun k e=>by cases e;have:=HS0.out;omega)⟩
theorem Gf(s:ByteArray)(w:World)(hs:s.size≤1048576)(hg:GI w):Calls Tryz.prog 14 #[.string s] w fun e w'=>RgPost w.heap.size (VP s) e w'∧Below w.heap.size w w':=
 callsIn_wide.1 (Qth 9 (by omega) s w hs hg)
end Go.Proofs.YtbdhinckiccniaaGreatDoor
