import Derived.Test.YtomadadmakdkgaaGreatDoorMn
import Derived.Test.YtomadadmakdkgaaGreatDoorGbf
import Derived.Test.YtomadadmakdkgaaGreatDoorGbe
open Go.Proofs.Tryz
open Go.Value renaming int → d, string → g, tuple → G, bool → J, agg → N
open Go.IntKind renaming i64 → f, wrap_i64 → M
open Go renaming bodyPost_ret → C, wp_region_held_drew → E, results → F, wp_store_mid → H, wpAnyH_done → I, maxLen → K
open Go.Obj renaming cells → D
open UInt8 renaming toNat_inj → L
open Go.Lib renaming itoa → O
open Or renaming inl → R
set_option linter.unusedSimpArgs false
set_option linter.unusedVariables false
set_option maxHeartbeats 8000000
set_option maxRecDepth 100000
namespace Go.Proofs.YtomadadmakdkgaaGreatDoor
open Go.RowKit
variable {l:List UInt8} {t s:ByteArray}
theorem Qcb(h:0<l.length):Zr (48::l)=Zr l:=by
 cases l with
 | nil=>simp at h
 | cons c t=>rw[Zr,pS rfl]
theorem Bj{b:UInt8}(h:b≠48):Zr (b::l)=b::l:=by
 cases l with
 | nil=>rfl
 | cons c t=>rw[Zr,nG h]
theorem Bi(h:l.length<=1):Zr l=l:=by
 cases l with
 | nil=>rfl
 | cons b t=>
  cases t with
  | nil=>rfl
  | cons c u=>simp at h
theorem Nu(nb:Bool)(m:Nat):Qpk nb (if m<=1000000000000000 then some m else none)=if Ym (if nb then-(m:Int)else(m:Int))=true then some (if nb then-(m:Int)else(m:Int))else none:=by
 by_cases h:m<=1000000000000000
 ·rw[pS h,pS]
  ·rfl
  ·rw[JU];cases nb<;>simp<;>omega
 ·rw[nG h,nG]
  ·rfl
  ·rw[JU];cases nb<;>simp<;>omega
theorem Qgs(z:Int):(#[Value.int .i64 1,d f z,g ⟨#[]⟩]:Array Value).all (·.oneCell')=true:=
 all_oneCell_toArray (cs:= [Value.int .i64 1,d f z,g ⟨#[]⟩]) (fun v hv=>by
  simp only[List.mem_cons,List.not_mem_nil,or_false]at hv
  rcases hv with rfl | rfl | rfl<;>rfl)
theorem Hj{w W:World}(h:Below (w.heap.size+1) (w.alloc (D #[d f 0,d f 0,g ⟨#[]⟩] 144)) W):W.there w.heap.size 0 3:=by
 intro j hj;have h0:j=0\/j=1\/j=2:=by omega
 rw[Nat.zero_add,h.cell (p:=⟨w.heap.size,j,none⟩) (by simp),h.frozen (p:=⟨w.heap.size,j,none⟩) (by simp)];rcases h0 with rfl | rfl | rfl<;>simp
theorem Quk(s:ByteArray)(w:World)(hs:s.size<=200)(h2:1<s.size)(h45:s[0]=45):Calls prog 99 #[g s] w (Qbm s.data.toList w):=by
 obtain⟨c,HC⟩: ∃c,Hid (s.extract 1 s.size=c):=⟨_,rfl⟩;have H4:Hid (c.data.toList=rest s 1):=by show _=_;rw[<-HC.out,Ur s 1 (by omega)];rfl
 have g3:Hid (c.size+1=s.size):=by
  show _=_;have h9:c.size=(rest s 1).length:=by rw[<-H4.out];rfl
  rw[h9,Ye];omega
 obtain⟨l0,H3⟩: ∃l,Hid (c.data.toList=l):=⟨_,rfl⟩;have H1:Hid (1<=c.size/\c.size<=200):=by have:=g3.out;exact⟨by omega,by omega⟩
 have h4:Hid (n5 s.data.toList=Qpk true (u15 l0)):=by
  show _=_;rw[<-H3.out,H4.out];unfold n5;rw[Yd (by omega:0<s.size),h45,pS (by rfl),List.tail_cons,nG];intro e;have h9:=congrArg List.length e;rw[Ye]at h9
  simp at h9;omega
 have q0:(0:Int)<(s.size:Int):=by omega
 have q1:(1:Int)<=(s.size:Int):=by omega
 have hb:(s[0].toNat:Int)=45:=by rw[h45];rfl
 have hcc:=HC.out;have hce:c.toList.isEmpty=false:=QZ H1.out.1;clear h45;go_enter func99,ntmps99;go_wp2_with fail
 go_loopw [0] (fun a wr=> ∃t:ByteArray,a= g t/\1<=t.size/\t.size<=200/\Zr t.data.toList=Zr l0/\wr=(w.alloc (D #[d f 0,d f 0,g ⟨#[]⟩] 144))) (fun a _=>Qa3 a)
 case atStart=>exact⟨c,rfl,H1.out.1,H1.out.2,by rw[H3.out],rfl⟩
 case round=>
  obtain⟨t,rfl,ht1,ht2,H0,rfl⟩:=hrel;have h7:Hid (Zr t.data.toList=Zr l0):=H0;clear H0;have q0:(0:Int)<(t.size:Int):=by omega
  by_cases hlen:1<t.size
  ·have q1:(1:Int)<(t.size:Int):=by omega
   by_cases h0:t[0]=48
   ·have hb:(t[0].toNat:Int)=48:=by rw[h0];rfl
    have q2:(1:Int)<=(t.size:Int):=by omega
    obtain⟨y,HY⟩: ∃y,Hid (t.extract 1 t.size=y):=⟨_,rfl⟩;have H2:Hid (y.data.toList=rest t 1):=by show _=_;rw[<-HY.out,Ur t 1 (by omega)];rfl
    have h6:Hid (y.size+1=t.size):=by
     show _=_;have h9:y.size=(rest t 1).length:=by rw[<-H2.out];rfl
     rw[h9,Ye];omega
    have g2:Hid (Zr y.data.toList=Zr l0):=by
     show _=_;rw[H2.out,<-h7.out,Yd (by omega:0<t.size),h0];exact(Qcb (by rw[Ye];omega)).symm
    have hy:=HY.out;clear h0;go_wp2_with fail
    exact⟨⟨y,rfl,by have:=h6.out;omega,by have:=h6.out;omega,g2.out,by first | rfl | trivial⟩,by have:=h6.out;simp only[Qa3];omega⟩
   ·have hb: ¬(t[0].toNat:Int)=48:=fun e=>h0 (L.1 (by have:(48:UInt8).toNat=48:=rfl;omega));have hb':((t[0].toNat:Int)==48)=false:=by simpa using hb
    have h3:Hid (Zr l0=t.data.toList):=by
     show _=_;rw[<-h7.out,Yd (by omega:0<t.size)];exact Bj h0
    clear h0;go_wp2_with fail
    refine(QS t _ (by omega)).mono ?_;rintro _ w9 ⟨rfl,hw9⟩;obtain rfl:=hw9.symm;clear hw9;cases hl:l16 t.data.toList with
    | none=>
     have HN:Hid (n5 s.data.toList=none):=by show _=_;rw[h4.out,u15,h3.out,hl];rfl
     clear hl;unfold o16;go_wp2_with fail
     refine E (S:=(fun w'=> ∀o,w'.cell? ⟨w.heap.size+1,o,none⟩=((w.alloc (D #[d f 0,d f 0,g ⟨#[]⟩] 144)).alloc (D #[d f 1,d f (0),g ⟨#[]⟩] 144)).cell? ⟨w.heap.size+1,o,none⟩)) (by kernel_rfl) (fun _=>rfl) (fun hHeld=> ?_);refine tkA 0 ?_;refine tkB 1 ?_;refine tkA 2 ?_;refine tnB 3 ?_;refine tnA 4 ?_;refine tkB 5 ?_
     refine rqA 6 (fun Kq hKq=> ?_);clear hHeld;rw[pS (by rfl)];refine H 144 (.tmp 2) (.tmp 42) rfl w.heap.size 0 #[d f 1,d f (0),g ⟨#[]⟩] rfl rfl (Hj (by go_grown)) (by kernel_rfl) (Qgs _) ?_;change Kq _ (World.setCell (World.setCell (World.setCell _ ⟨w.heap.size,0,none⟩ _) ⟨w.heap.size,1,none⟩ _) ⟨w.heap.size,2,none⟩ _);refine hkB hKq (fun o=>(World.cell?_setCell_far _ _ _ _ (by simp only;omega)).trans ((World.cell?_setCell_far _ _ _ _ (by simp only;omega)).trans ((World.cell?_setCell_far _ _ _ _ (by simp only;omega)).trans rfl))) fun hHeld=> ?_;clear hKq Kq
     refine tkB 7 ?_;refine I (by kernel_rfl) ?_ _;go_wp2_with fail
     refine C (v:= G #[N #[d f 1,d f 0,g ⟨#[]⟩],J false]) ?_ rfl ⟨R ⟨HN.out,1,0,rfl⟩,by go_grown⟩;simp (maxDischargeDepth:=9) [F,results99,go_sem, *]
    | some m=>
     have hm:=(Jg hl).2.1;obtain⟨b,HB⟩: ∃b,Hid (Ym (-(m:Int))=b):=⟨_,rfl⟩;have h8:Hid (okV 1 (-(m:Int)) ⟨#[]⟩=b):=by show _=_;rw[Hs,HB.out]
     have HF:Hid (n5 s.data.toList=if Ym (-(m:Int))=true then some (-(m:Int))else none):=by
      show _=_;rw[h4.out,u15,h3.out,hl];simp only;exact Nu true m
     have H6:IntKind.i64.wrap (-(m:Int))= -(m:Int):=by rw[M];omega
     clear hl;unfold o16;go_wp2_with fail
     refine E (S:=(fun w'=> ∀o,w'.cell? ⟨w.heap.size+1,o,none⟩=((w.alloc (D #[d f 0,d f 0,g ⟨#[]⟩] 144)).alloc (D #[d f 1,d f (-(m:Int)),g ⟨#[]⟩] 144)).cell? ⟨w.heap.size+1,o,none⟩)) (by kernel_rfl) (fun _=>rfl) (fun hHeld=> ?_);refine tkA 0 ?_;refine tkB 1 ?_;refine tkA 2 ?_;refine tkB 3 ?_;refine rqA 4 (fun Kq hKq=> ?_);go_simp
     refine(Qq 1 (-(m:Int)) ⟨#[]⟩ _ (by unfold K;show 0<=_;omega)).mono ?_;rintro e w3 ⟨rfl,hb3⟩;rw[h8.out];have h1: ∀o,w3.cell? ⟨w.heap.size+1,o,none⟩=((w.alloc (D #[d f 0,d f 0,g ⟨#[]⟩] 144)).alloc (D #[d f 1,d f (-(m:Int)),g ⟨#[]⟩] 144)).cell? ⟨w.heap.size+1,o,none⟩:=fun o=>hb3.cell (p:=⟨w.heap.size+1,o,none⟩) (by simp);have h5:Below (w.heap.size+1) (w.alloc (D #[d f 0,d f 0,g ⟨#[]⟩] 144)) w3:=(Qk (B:=w.heap.size+1) (by go_grown) (by go_size) hb3).1;obtain⟨H9,H8,g1,g0,H5,H7,l3⟩:=bk1 (w:=w) hb3;clear hb3
     refine hkB hKq (h1) fun hHeld=> ?_;clear hKq Kq;refine tkB 5 ?_;refine rqA 6 (fun Kq hKq=> ?_);clear hHeld;rw[pS (by rfl)];refine H 144 (.tmp 2) (.tmp 42) rfl w.heap.size 0 #[d f 1,d f (-(m:Int)),g ⟨#[]⟩] rfl rfl (Hj (h5)) (by kernel_rfl) (Qgs _) ?_
     change Kq _ (World.setCell (World.setCell (World.setCell _ ⟨w.heap.size,0,none⟩ _) ⟨w.heap.size,1,none⟩ _) ⟨w.heap.size,2,none⟩ _);refine hkB hKq (fun o=>(World.cell?_setCell_far _ _ _ _ (by simp only;omega)).trans ((World.cell?_setCell_far _ _ _ _ (by simp only;omega)).trans ((World.cell?_setCell_far _ _ _ _ (by simp only;omega)).trans (h1 o)))) fun hHeld=> ?_;clear hKq Kq;refine tkB 7 ?_;refine I (by kernel_rfl) ?_ _;go_wp2_with fail
     refine C (v:= G #[N #[d f 1,d f (-(m:Int)),g ⟨#[]⟩],J b]) ?_ rfl ⟨Ds HF.out HB.out,by go_grown⟩;simp (maxDischargeDepth:=9) [F,results99,go_sem, *]
  ·have q1: ¬(1:Int)<(t.size:Int):=by omega
   have h3:Hid (Zr l0=t.data.toList):=by
    show _=_;rw[<-h7.out];exact Bi (by show t.data.toList.length<=1;exact(by omega:t.size<=1))
   go_wp2_with fail
   refine(QS t _ (by omega)).mono ?_;rintro _ w9 ⟨rfl,hw9⟩;obtain rfl:=hw9.symm;clear hw9;cases hl:l16 t.data.toList with
   | none=>
    have HN:Hid (n5 s.data.toList=none):=by show _=_;rw[h4.out,u15,h3.out,hl];rfl
    clear hl;unfold o16;go_wp2_with fail
    refine E (S:=(fun w'=> ∀o,w'.cell? ⟨w.heap.size+1,o,none⟩=((w.alloc (D #[d f 0,d f 0,g ⟨#[]⟩] 144)).alloc (D #[d f 1,d f (0),g ⟨#[]⟩] 144)).cell? ⟨w.heap.size+1,o,none⟩)) (by kernel_rfl) (fun _=>rfl) (fun hHeld=> ?_);refine tkA 0 ?_;refine tkB 1 ?_;refine tkA 2 ?_;refine tnB 3 ?_;refine tnA 4 ?_;refine tkB 5 ?_
    refine rqA 6 (fun Kq hKq=> ?_);clear hHeld;rw[pS (by rfl)];refine H 144 (.tmp 2) (.tmp 42) rfl w.heap.size 0 #[d f 1,d f (0),g ⟨#[]⟩] rfl rfl (Hj (by go_grown)) (by kernel_rfl) (Qgs _) ?_;change Kq _ (World.setCell (World.setCell (World.setCell _ ⟨w.heap.size,0,none⟩ _) ⟨w.heap.size,1,none⟩ _) ⟨w.heap.size,2,none⟩ _);refine hkB hKq (fun o=>(World.cell?_setCell_far _ _ _ _ (by simp only;omega)).trans ((World.cell?_setCell_far _ _ _ _ (by simp only;omega)).trans ((World.cell?_setCell_far _ _ _ _ (by simp only;omega)).trans rfl))) fun hHeld=> ?_;clear hKq Kq
    refine tkB 7 ?_;refine I (by kernel_rfl) ?_ _;go_wp2_with fail
    refine C (v:= G #[N #[d f 1,d f 0,g ⟨#[]⟩],J false]) ?_ rfl ⟨R ⟨HN.out,1,0,rfl⟩,by go_grown⟩;simp (maxDischargeDepth:=9) [F,results99,go_sem, *]
   | some m=>
    have hm:=(Jg hl).2.1;obtain⟨b,HB⟩: ∃b,Hid (Ym (-(m:Int))=b):=⟨_,rfl⟩;have h8:Hid (okV 1 (-(m:Int)) ⟨#[]⟩=b):=by show _=_;rw[Hs,HB.out]
    have HF:Hid (n5 s.data.toList=if Ym (-(m:Int))=true then some (-(m:Int))else none):=by
     show _=_;rw[h4.out,u15,h3.out,hl];simp only;exact Nu true m
    have H6:IntKind.i64.wrap (-(m:Int))= -(m:Int):=by rw[M];omega
    clear hl;unfold o16;go_wp2_with fail
    refine E (S:=(fun w'=> ∀o,w'.cell? ⟨w.heap.size+1,o,none⟩=((w.alloc (D #[d f 0,d f 0,g ⟨#[]⟩] 144)).alloc (D #[d f 1,d f (-(m:Int)),g ⟨#[]⟩] 144)).cell? ⟨w.heap.size+1,o,none⟩)) (by kernel_rfl) (fun _=>rfl) (fun hHeld=> ?_);refine tkA 0 ?_;refine tkB 1 ?_;refine tkA 2 ?_;refine tkB 3 ?_;refine rqA 4 (fun Kq hKq=> ?_);go_simp
    refine(Qq 1 (-(m:Int)) ⟨#[]⟩ _ (by unfold K;show 0<=_;omega)).mono ?_;rintro e w3 ⟨rfl,hb3⟩;rw[h8.out];have h1: ∀o,w3.cell? ⟨w.heap.size+1,o,none⟩=((w.alloc (D #[d f 0,d f 0,g ⟨#[]⟩] 144)).alloc (D #[d f 1,d f (-(m:Int)),g ⟨#[]⟩] 144)).cell? ⟨w.heap.size+1,o,none⟩:=fun o=>hb3.cell (p:=⟨w.heap.size+1,o,none⟩) (by simp);have h5:Below (w.heap.size+1) (w.alloc (D #[d f 0,d f 0,g ⟨#[]⟩] 144)) w3:=(Qk (B:=w.heap.size+1) (by go_grown) (by go_size) hb3).1;obtain⟨H9,H8,g1,g0,H5,H7,l3⟩:=bk1 (w:=w) hb3;clear hb3
    refine hkB hKq (h1) fun hHeld=> ?_;clear hKq Kq;refine tkB 5 ?_;refine rqA 6 (fun Kq hKq=> ?_);clear hHeld;rw[pS (by rfl)];refine H 144 (.tmp 2) (.tmp 42) rfl w.heap.size 0 #[d f 1,d f (-(m:Int)),g ⟨#[]⟩] rfl rfl (Hj (h5)) (by kernel_rfl) (Qgs _) ?_
    change Kq _ (World.setCell (World.setCell (World.setCell _ ⟨w.heap.size,0,none⟩ _) ⟨w.heap.size,1,none⟩ _) ⟨w.heap.size,2,none⟩ _);refine hkB hKq (fun o=>(World.cell?_setCell_far _ _ _ _ (by simp only;omega)).trans ((World.cell?_setCell_far _ _ _ _ (by simp only;omega)).trans ((World.cell?_setCell_far _ _ _ _ (by simp only;omega)).trans (h1 o)))) fun hHeld=> ?_;clear hKq Kq;refine tkB 7 ?_;refine I (by kernel_rfl) ?_ _;go_wp2_with fail
    refine C (v:= G #[N #[d f 1,d f (-(m:Int)),g ⟨#[]⟩],J b]) ?_ rfl ⟨Ds HF.out HB.out,by go_grown⟩;simp (maxDischargeDepth:=9) [F,results99,go_sem, *]
theorem Quj(s:ByteArray)(w:World)(hs:s.size<=200)(h1:0<s.size)(h45:s[0]≠45):Calls prog 99 #[g s] w (Qbm s.data.toList w):=by
 obtain⟨l0,H3⟩: ∃l,Hid (s.data.toList=l):=⟨_,rfl⟩;have H1:Hid (1<=s.size/\s.size<=200):=⟨h1,hs⟩
 have h4:Hid (n5 s.data.toList=Qpk false (u15 l0)):=by
  show _=_;rw[<-H3.out];unfold n5;rw[nG (by rw[Yx h1];simpa using h45),nG (by rw[Yd h1];simp)]
 have q0:(0:Int)<(s.size:Int):=by omega
 have hb: ¬(s[0].toNat:Int)=45:=fun e=>h45 (L.1 (by have:(45:UInt8).toNat=45:=rfl;omega));have H8:((s[0].toNat:Int)==45)=false:=by simpa using hb
 have hce:s.toList.isEmpty=false:=QZ h1;clear h45;go_enter func99,ntmps99;go_wp2_with fail
 go_loopw [0] (fun a wr=> ∃t:ByteArray,a= g t/\1<=t.size/\t.size<=200/\Zr t.data.toList=Zr l0/\wr=(w.alloc (D #[d f 0,d f 0,g ⟨#[]⟩] 144))) (fun a _=>Qa3 a)
 case atStart=>exact⟨s,rfl,H1.out.1,H1.out.2,by rw[H3.out],rfl⟩
 case round=>
  obtain⟨t,rfl,ht1,ht2,H0,rfl⟩:=hrel;have h7:Hid (Zr t.data.toList=Zr l0):=H0;clear H0;have q0:(0:Int)<(t.size:Int):=by omega
  by_cases hlen:1<t.size
  ·have q1:(1:Int)<(t.size:Int):=by omega
   by_cases h0:t[0]=48
   ·have hb:(t[0].toNat:Int)=48:=by rw[h0];rfl
    have q2:(1:Int)<=(t.size:Int):=by omega
    obtain⟨y,HY⟩: ∃y,Hid (t.extract 1 t.size=y):=⟨_,rfl⟩;have H2:Hid (y.data.toList=rest t 1):=by show _=_;rw[<-HY.out,Ur t 1 (by omega)];rfl
    have h6:Hid (y.size+1=t.size):=by
     show _=_;have h9:y.size=(rest t 1).length:=by rw[<-H2.out];rfl
     rw[h9,Ye];omega
    have g1:Hid (Zr y.data.toList=Zr l0):=by
     show _=_;rw[H2.out,<-h7.out,Yd (by omega:0<t.size),h0];exact(Qcb (by rw[Ye];omega)).symm
    have hy:=HY.out;clear h0;go_wp2_with fail
    exact⟨⟨y,rfl,by have:=h6.out;omega,by have:=h6.out;omega,g1.out,by first | rfl | trivial⟩,by have:=h6.out;simp only[Qa3];omega⟩
   ·have hb: ¬(t[0].toNat:Int)=48:=fun e=>h0 (L.1 (by have:(48:UInt8).toNat=48:=rfl;omega));have H8:((t[0].toNat:Int)==48)=false:=by simpa using hb
    have h3:Hid (Zr l0=t.data.toList):=by
     show _=_;rw[<-h7.out,Yd (by omega:0<t.size)];exact Bj h0
    clear h0;go_wp2_with fail
    refine(QS t _ (by omega)).mono ?_;rintro _ w9 ⟨rfl,hw9⟩;obtain rfl:=hw9.symm;clear hw9;cases hl:l16 t.data.toList with
    | none=>
     have HN:Hid (n5 s.data.toList=none):=by show _=_;rw[h4.out,u15,h3.out,hl];rfl
     clear hl;unfold o16;go_wp2_with fail
     refine E (S:=(fun w'=> ∀o,w'.cell? ⟨w.heap.size+1,o,none⟩=((w.alloc (D #[d f 0,d f 0,g ⟨#[]⟩] 144)).alloc (D #[d f 1,d f (0),g ⟨#[]⟩] 144)).cell? ⟨w.heap.size+1,o,none⟩)) (by kernel_rfl) (fun _=>rfl) (fun hHeld=> ?_);refine tkA 0 ?_;refine tkB 1 ?_;refine tkA 2 ?_;refine tnB 3 ?_;refine tnA 4 ?_;refine tkB 5 ?_
     refine rqA 6 (fun Kq hKq=> ?_);clear hHeld;rw[pS (by rfl)];refine H 144 (.tmp 2) (.tmp 42) rfl w.heap.size 0 #[d f 1,d f (0),g ⟨#[]⟩] rfl rfl (Hj (by go_grown)) (by kernel_rfl) (Qgs _) ?_;change Kq _ (World.setCell (World.setCell (World.setCell _ ⟨w.heap.size,0,none⟩ _) ⟨w.heap.size,1,none⟩ _) ⟨w.heap.size,2,none⟩ _);refine hkB hKq (fun o=>(World.cell?_setCell_far _ _ _ _ (by simp only;omega)).trans ((World.cell?_setCell_far _ _ _ _ (by simp only;omega)).trans ((World.cell?_setCell_far _ _ _ _ (by simp only;omega)).trans rfl))) fun hHeld=> ?_;clear hKq Kq
     refine tkB 7 ?_;refine I (by kernel_rfl) ?_ _;go_wp2_with fail
     refine C (v:= G #[N #[d f 1,d f 0,g ⟨#[]⟩],J false]) ?_ rfl ⟨R ⟨HN.out,1,0,rfl⟩,by go_grown⟩;simp (maxDischargeDepth:=9) [F,results99,go_sem, *]
    | some m=>
     have hm:=(Jg hl).2.1;obtain⟨b,HB⟩: ∃b,Hid (Ym ((m:Int))=b):=⟨_,rfl⟩;have h8:Hid (okV 1 ((m:Int)) ⟨#[]⟩=b):=by show _=_;rw[Hs,HB.out]
     have HF:Hid (n5 s.data.toList=if Ym ((m:Int))=true then some ((m:Int))else none):=by
      show _=_;rw[h4.out,u15,h3.out,hl];simp only;exact Nu false m
     skip
     clear hl;unfold o16;go_wp2_with fail
     refine E (S:=(fun w'=> ∀o,w'.cell? ⟨w.heap.size+1,o,none⟩=((w.alloc (D #[d f 0,d f 0,g ⟨#[]⟩] 144)).alloc (D #[d f 1,d f ((m:Int)),g ⟨#[]⟩] 144)).cell? ⟨w.heap.size+1,o,none⟩)) (by kernel_rfl) (fun _=>rfl) (fun hHeld=> ?_);refine tkA 0 ?_;refine tkB 1 ?_;refine tkA 2 ?_;refine tkB 3 ?_;refine rqA 4 (fun Kq hKq=> ?_);go_simp
     refine(Qq 1 ((m:Int)) ⟨#[]⟩ _ (by unfold K;show 0<=_;omega)).mono ?_;rintro e w3 ⟨rfl,hb3⟩;rw[h8.out];have h2: ∀o,w3.cell? ⟨w.heap.size+1,o,none⟩=((w.alloc (D #[d f 0,d f 0,g ⟨#[]⟩] 144)).alloc (D #[d f 1,d f ((m:Int)),g ⟨#[]⟩] 144)).cell? ⟨w.heap.size+1,o,none⟩:=fun o=>hb3.cell (p:=⟨w.heap.size+1,o,none⟩) (by simp);have h5:Below (w.heap.size+1) (w.alloc (D #[d f 0,d f 0,g ⟨#[]⟩] 144)) w3:=(Qk (B:=w.heap.size+1) (by go_grown) (by go_size) hb3).1;obtain⟨H7,H6,g0,H9,H4,H5,l3⟩:=bk1 (w:=w) hb3;clear hb3
     refine hkB hKq (h2) fun hHeld=> ?_;clear hKq Kq;refine tkB 5 ?_;refine rqA 6 (fun Kq hKq=> ?_);clear hHeld;rw[pS (by rfl)];refine H 144 (.tmp 2) (.tmp 42) rfl w.heap.size 0 #[d f 1,d f ((m:Int)),g ⟨#[]⟩] rfl rfl (Hj (h5)) (by kernel_rfl) (Qgs _) ?_
     change Kq _ (World.setCell (World.setCell (World.setCell _ ⟨w.heap.size,0,none⟩ _) ⟨w.heap.size,1,none⟩ _) ⟨w.heap.size,2,none⟩ _);refine hkB hKq (fun o=>(World.cell?_setCell_far _ _ _ _ (by simp only;omega)).trans ((World.cell?_setCell_far _ _ _ _ (by simp only;omega)).trans ((World.cell?_setCell_far _ _ _ _ (by simp only;omega)).trans (h2 o)))) fun hHeld=> ?_;clear hKq Kq;refine tkB 7 ?_;refine I (by kernel_rfl) ?_ _;go_wp2_with fail
     refine C (v:= G #[N #[d f 1,d f ((m:Int)),g ⟨#[]⟩],J b]) ?_ rfl ⟨Ds HF.out HB.out,by go_grown⟩;simp (maxDischargeDepth:=9) [F,results99,go_sem, *]
  ·have q1: ¬(1:Int)<(t.size:Int):=by omega
   have h3:Hid (Zr l0=t.data.toList):=by
    show _=_;rw[<-h7.out];exact Bi (by show t.data.toList.length<=1;exact(by omega:t.size<=1))
   go_wp2_with fail
   refine(QS t _ (by omega)).mono ?_;rintro _ w9 ⟨rfl,hw9⟩;obtain rfl:=hw9.symm;clear hw9;cases hl:l16 t.data.toList with
   | none=>
    have HN:Hid (n5 s.data.toList=none):=by show _=_;rw[h4.out,u15,h3.out,hl];rfl
    clear hl;unfold o16;go_wp2_with fail
    refine E (S:=(fun w'=> ∀o,w'.cell? ⟨w.heap.size+1,o,none⟩=((w.alloc (D #[d f 0,d f 0,g ⟨#[]⟩] 144)).alloc (D #[d f 1,d f (0),g ⟨#[]⟩] 144)).cell? ⟨w.heap.size+1,o,none⟩)) (by kernel_rfl) (fun _=>rfl) (fun hHeld=> ?_);refine tkA 0 ?_;refine tkB 1 ?_;refine tkA 2 ?_;refine tnB 3 ?_;refine tnA 4 ?_;refine tkB 5 ?_
    refine rqA 6 (fun Kq hKq=> ?_);clear hHeld;rw[pS (by rfl)];refine H 144 (.tmp 2) (.tmp 42) rfl w.heap.size 0 #[d f 1,d f (0),g ⟨#[]⟩] rfl rfl (Hj (by go_grown)) (by kernel_rfl) (Qgs _) ?_;change Kq _ (World.setCell (World.setCell (World.setCell _ ⟨w.heap.size,0,none⟩ _) ⟨w.heap.size,1,none⟩ _) ⟨w.heap.size,2,none⟩ _);refine hkB hKq (fun o=>(World.cell?_setCell_far _ _ _ _ (by simp only;omega)).trans ((World.cell?_setCell_far _ _ _ _ (by simp only;omega)).trans ((World.cell?_setCell_far _ _ _ _ (by simp only;omega)).trans rfl))) fun hHeld=> ?_;clear hKq Kq
    refine tkB 7 ?_;refine I (by kernel_rfl) ?_ _;go_wp2_with fail
    refine C (v:= G #[N #[d f 1,d f 0,g ⟨#[]⟩],J false]) ?_ rfl ⟨R ⟨HN.out,1,0,rfl⟩,by go_grown⟩;simp (maxDischargeDepth:=9) [F,results99,go_sem, *]
   | some m=>
    have hm:=(Jg hl).2.1;obtain⟨b,HB⟩: ∃b,Hid (Ym ((m:Int))=b):=⟨_,rfl⟩;have h8:Hid (okV 1 ((m:Int)) ⟨#[]⟩=b):=by show _=_;rw[Hs,HB.out]
    have HF:Hid (n5 s.data.toList=if Ym ((m:Int))=true then some ((m:Int))else none):=by
     show _=_;rw[h4.out,u15,h3.out,hl];simp only;exact Nu false m
    skip
    clear hl;unfold o16;go_wp2_with fail
    refine E (S:=(fun w'=> ∀o,w'.cell? ⟨w.heap.size+1,o,none⟩=((w.alloc (D #[d f 0,d f 0,g ⟨#[]⟩] 144)).alloc (D #[d f 1,d f ((m:Int)),g ⟨#[]⟩] 144)).cell? ⟨w.heap.size+1,o,none⟩)) (by kernel_rfl) (fun _=>rfl) (fun hHeld=> ?_);refine tkA 0 ?_;refine tkB 1 ?_;refine tkA 2 ?_;refine tkB 3 ?_;refine rqA 4 (fun Kq hKq=> ?_);go_simp
    refine(Qq 1 ((m:Int)) ⟨#[]⟩ _ (by unfold K;show 0<=_;omega)).mono ?_;rintro e w3 ⟨rfl,hb3⟩;rw[h8.out];have h2: ∀o,w3.cell? ⟨w.heap.size+1,o,none⟩=((w.alloc (D #[d f 0,d f 0,g ⟨#[]⟩] 144)).alloc (D #[d f 1,d f ((m:Int)),g ⟨#[]⟩] 144)).cell? ⟨w.heap.size+1,o,none⟩:=fun o=>hb3.cell (p:=⟨w.heap.size+1,o,none⟩) (by simp);have h5:Below (w.heap.size+1) (w.alloc (D #[d f 0,d f 0,g ⟨#[]⟩] 144)) w3:=(Qk (B:=w.heap.size+1) (by go_grown) (by go_size) hb3).1;obtain⟨H7,H6,g0,H9,H4,H5,l3⟩:=bk1 (w:=w) hb3;clear hb3
    refine hkB hKq (h2) fun hHeld=> ?_;clear hKq Kq;refine tkB 5 ?_;refine rqA 6 (fun Kq hKq=> ?_);clear hHeld;rw[pS (by rfl)];refine H 144 (.tmp 2) (.tmp 42) rfl w.heap.size 0 #[d f 1,d f ((m:Int)),g ⟨#[]⟩] rfl rfl (Hj (h5)) (by kernel_rfl) (Qgs _) ?_
    change Kq _ (World.setCell (World.setCell (World.setCell _ ⟨w.heap.size,0,none⟩ _) ⟨w.heap.size,1,none⟩ _) ⟨w.heap.size,2,none⟩ _);refine hkB hKq (fun o=>(World.cell?_setCell_far _ _ _ _ (by simp only;omega)).trans ((World.cell?_setCell_far _ _ _ _ (by simp only;omega)).trans ((World.cell?_setCell_far _ _ _ _ (by simp only;omega)).trans (h2 o)))) fun hHeld=> ?_;clear hKq Kq;refine tkB 7 ?_;refine I (by kernel_rfl) ?_ _;go_wp2_with fail
    refine C (v:= G #[N #[d f 1,d f ((m:Int)),g ⟨#[]⟩],J b]) ?_ rfl ⟨Ds HF.out HB.out,by go_grown⟩;simp (maxDischargeDepth:=9) [F,results99,go_sem, *]
theorem Dt(s:ByteArray)(w:World)(hs:s.size<=200)(h1:0<s.size):Calls prog 99 #[g s] w (Qbm s.data.toList w):=by
 by_cases h0:s[0]=45
 ·by_cases h2:1<s.size
  ·exact Quk s w hs h2 h0
  ·have q0:(0:Int)<(s.size:Int):=by omega
   have q1:(1:Int)<=(s.size:Int):=by omega
   have hb:(s[0].toNat:Int)=45:=by rw[h0];rfl
   obtain⟨c,HC⟩: ∃c,Hid (s.extract 1 s.size=c):=⟨_,rfl⟩;have hce:c.toList.isEmpty=true:=Us (by rw[<-HC.out,ByteArray.size_extract];omega);have hcc:=HC.out
   have HN:Hid (n5 s.data.toList=none):=by
    show _=_;unfold n5;rw[Yd h1,h0,pS (by rfl),List.tail_cons,pS];exact List.length_eq_zero_iff.1 (by rw[Ye];omega)
   clear h0;go_enter func99,ntmps99;go_wp2_with fail
   refine C (v:= G #[N #[d f 0,d f 0,g ⟨#[]⟩],J false]) ?_ rfl ⟨R ⟨HN.out,0,0,rfl⟩,by go_grown⟩;simp (maxDischargeDepth:=9) [F,results99,go_sem, *]
 ·exact Quj s w hs h1 h0
theorem Qba(h:t.size<=200):lim (some t)=some t:=pS h
theorem Qnw(h: ¬t.size<=200):lim (some t)=none:=nG h
theorem Qo7{v:Int}(h0: -1000000000000000<=v)(h1:v<=1000000000000000):(txV 1 v ⟨#[]⟩).size<=200:=by
 unfold txV;rw[Hs,(JU v).2 ⟨h0,h1⟩,pS rfl];have e:txB 1 v ⟨#[]⟩=itB v:=rfl;rw[e];show(O v).length<=200;have h9:=Mg v (by omega) (by omega);unfold MW at h9
 split at h9
 ·cases hl:l16 (O v).tail with
  | none=>rw[hl]at h9;cases h9
  | some m=>
   unfold l16 at hl;split at hl
   ·cases hl
   ·rename_i hn
    have h8:(O v).tail.length<=16:=by omega
    rw[List.length_tail]at h8;omega
 ·cases hl:l16 (O v)with
  | none=>rw[hl]at h9;cases h9
  | some m=>
   unfold l16 at hl;split at hl
   ·cases hl
   ·omega
theorem Ql2:inF ⟨#[]⟩=some ⟨#[]⟩:=by decide+kernel
theorem Qpy(h:gOk (Qu s)=true):rvS s= G #[N #[d f (Qu s).1,d f (Qu s).2.1,g (Qu s).2.2],J true]/\txV (Qu s).1 (Qu s).2.1 (Qu s).2.2=s:=by
 refine⟨?_,?_⟩
 ·rw[<-Ny];unfold rvT;rw[h,pS rfl]
 ·unfold txV;rw[<-Mh,h,pS rfl];exact Qez s h
theorem Qh9(h:gOk (Qu s)=false):rvS s= G #[N #[d f 0,d f 0,g ⟨#[]⟩],J false]:=by
 rw[<-Ny];unfold rvT;rw[h];rfl
theorem Qkb(h:QJ s=true):txV 2 0 s=(⟨#[39]⟩:ByteArray)++s:=by
 unfold txV okV;simp[h];rfl
theorem Qmd(h:s.size<=200):(Qu s).2.2.size<=K:=by
 by_cases hg:gOk (Qu s)=true
 ·have h1:=Mh s;rw[hg]at h1;have:=Qcr h1.symm;unfold K;omega
 ·unfold Qu;split
  ·split
   ·show(s.extract 1 s.size).size<=K;rw[ByteArray.size_extract];unfold K;omega
   ·unfold YK;repeat' split
    all_goals first
     | exact Nat.zero_le _
     | (unfold Qn6;split<;>exact Nat.zero_le _)
  ·exact Nat.zero_le _
theorem Om(b:Nat): ∀(vs:List Value) (o:Nat) (w:World),Below b w (w.setCells b o vs)/\(w.setCells b o vs).heap.size=w.heap.size
 | [],_,w=>⟨Below.refl _ _,rfl⟩
 | v::r,o,w=>by
  obtain⟨h1,h2⟩:=Om b r (o+1) (w.setCell ⟨b,o,none⟩ v);exact⟨((Below.refl b w).setCell (Nat.le_refl _) v).trans h1,h2.trans (by simp)⟩
theorem Qn2:(prog.info? 144).map (·.size)=some 3:=by kernel_rfl
theorem Qfa{ops:Array Oper}{rest:List Oper}{op:Oper}{a:Act}{Q:Exit->Act->World->Prop}{b:Nat}{w4:World}(hX:w4.there b 0 3)(hgd:op.guard=none)(x y:Operand)(ho:op.op= .store 144 x y)(k n:Int)(t:ByteArray)
  (hx:a.eval x= .pointer (some ⟨b,0,none⟩)) (hy:a.eval y= N #[d f k,d f n,g t])
  (h: ∀w5,w5.rangeAt b 0 [d f k,d f n,g t]->w5.there b 0 3->Below b w4 w5->w5.heap.size=w4.heap.size->wpList prog ops Q rest (a.put op.dst undef) w5):wpList prog ops Q (op::rest) a w4:=by
 have hb:=Om b [d f k,d f n,g t] 0 w4
 refine wpList_store_mid hgd 144 x y ho b 0 #[d f k,d f n,g t] hx hy hX (by rw[Qn2];rfl) (all_oneCell_toArray (cs:= [d f k,d f n,g t]) (fun v hv=>by
  simp only[List.mem_cons,List.not_mem_nil,or_false]at hv
  rcases hv with rfl | rfl | rfl<;>rfl)) ?_
 refine h _ (World.rangeAt_setCells_same w4 b 0 _ hX) ?_ hb.1 hb.2;exact World.there_setCells hX _ _ _
theorem Qsv{ops:Array Oper}{rest:List Oper}{op:Oper}{a:Act}{Q:Exit->Act->World->Prop}{b:Nat}{w5:World}{k n:Int}(hr:w5.rangeAt b 0 [d f k,d f n,g t])(hgd:op.guard=none)(x:Operand)(ho:op.op= .load 144 x)
  (hx:a.eval x= .pointer (some ⟨b,0,none⟩)) (h:wpList prog ops Q rest (a.put op.dst (N #[d f k,d f n,g t])) w5):wpList prog ops Q (op::rest) a w5:=
 wpList_load_mid hgd 144 x ho b 0 hx [d f k,d f n,g t] _ hr underlying144 rfl (by rw[Qn2];rfl) h
theorem ZP(s:ByteArray)(w:World)(hs:s.size<=K):Calls prog 58 #[g s] w fun e w'=>opA (inF s) e/\Below w.heap.size w w':=by
 have HS:Hid (s.size<=K):=hs;obtain⟨b,HB⟩: ∃b,Hid (QJ s=b):=⟨_,rfl⟩;go_enter func58,ntmps58;go_wp2_with fail
 refine(Zy s _ HS.out).mono ?_;rintro _ w0 ⟨rfl,hw0⟩;obtain rfl:=hw0.symm;clear hw0;rw[HB.out];cases b
 ·have HN:Hid (inF s=none):=by show _=_;unfold inF;rw[HB.out];rfl
  go_wp2_with fail
  refine C (v:= G #[g ⟨#[]⟩,J false]) ?_ rfl ⟨by rw[HN.out];rfl,Below.refl _ _⟩;simp (maxDischargeDepth:=9) [F,results58,go_sem, *]
 have h4:s.size<=200:=Hq HB.out;have h9:Hid (inF s=lim (srT s)):=by show _=_;unfold inF;rw[HB.out];rfl
 by_cases h0:s.size=0
 ·have H8:s.toList.isEmpty=true:=Us h0;have HN:Hid (inF s=some ⟨#[]⟩):=by show _=_;rw[Za h0];exact Ql2
  go_wp2_with fail
  refine C (v:= G #[g ⟨#[]⟩,J true]) ?_ rfl ⟨by rw[HN.out];rfl,Below.refl _ _⟩;simp (maxDischargeDepth:=9) [F,results58,go_sem, *]
 have h1:0<s.size:=by omega
 have H8:s.toList.isEmpty=false:=QZ h1;have q0:(0:Int)<(s.size:Int):=by omega
 by_cases h6:s[0]=61
 ·have hb:(s[0].toNat:Int)=61:=by rw[h6];rfl
  have q1:(1:Int)<=(s.size:Int):=by omega
  obtain⟨c,HC⟩: ∃c,Hid (s.extract 1 s.size=c):=⟨_,rfl⟩;have hcc:=HC.out
  have g5:Hid (c.size<=K):=by
   show _<=_;rw[<-HC.out,ByteArray.size_extract];unfold K;omega
  have HE:Hid (eqH s=true):=by show _=_;unfold eqH;rw[dif_pos h1,h6];rfl
  have h2:Hid (inF s=lim (fsT (rdF c))):=by show _=_;rw[h9.out];unfold srT;rw[HE.out,pS rfl,HC.out]
  clear h6;go_wp2_with fail
  refine(Jv c _ g5.out).mono ?_;rintro _ w1 ⟨hb1,(⟨hr,rfl⟩ | ⟨out,v,ys,hr,rfl,ho,hp⟩)⟩
  ·have HN:Hid (inF s=none):=by show _=_;rw[h2.out,hr];rfl
   have K1:Hid (Below w.heap.size w w1):=hb1;clear hb1 hr;go_wp2_with fail
   refine(Xi _ (⟨Nat.zero_le _,fun i hi=>by omega⟩:FnRow w1 none 0 (fun _=>dFN)) (by omega) (fun i hi=>by omega)).mono ?_;rintro _ w2 ⟨rfl,hb2⟩;have K2:=hd (Qb K1.out hb2);obtain⟨t,HT⟩: ∃t,Hid (ftx (fun _=>dFN) 0=t):=⟨_,rfl⟩;rw[HT.out];clear hb2;go_wp2_with fail
   refine C (v:= G #[g ⟨#[]⟩,J false]) ?_ rfl ⟨by rw[HN.out];rfl,K2.out⟩;simp (maxDischargeDepth:=9) [F,results58,go_sem, *]
  ·obtain⟨g0,_,_⟩:=XL hr;obtain⟨A,cap,rfl,H1⟩:=YF ho hp (Uo g0).1;have g4:Hid (FnRow w1 A out.length (ouF out)):=H1;have g3:Hid (∀i,i<out.length->(ouF out i).kids.length<=1048576):=(Uo g0).2;have HN:Hid (out.length<=1048576):=by show _<=_;have:=Yn g0;omega
   have K1:Hid (Below w.heap.size w w1):=hb1;obtain⟨t,HT⟩: ∃t,Hid (ftx (ouF out) out.length=t):=⟨_,rfl⟩;have HF:Hid (inF s=lim (if t.size=0 then none else some ((⟨#[61]⟩:ByteArray)++t))):=by show _=_;rw[h2.out,hr,<-HT.out];rfl
   have H2:Hid (t.size<=200):=by show _<=_;rw[<-HT.out];exact KH _ _
   clear hb1 hr ho hp H1 g0;go_wp2_with fail
   refine(Xi _ g4.out HN.out g3.out).mono ?_;rintro _ w2 ⟨rfl,hb2⟩;have K2:=hd (Qb K1.out hb2);rw[HT.out];clear hb2;by_cases h3:t.size=0
   ·have H6:t.toList.isEmpty=true:=Us h3;have HN:Hid (inF s=none):=by show _=_;rw[HF.out,pS h3];rfl
    clear h3;go_wp2_with fail
    refine C (v:= G #[g ⟨#[]⟩,J false]) ?_ rfl ⟨by rw[HN.out];rfl,K2.out⟩;simp (maxDischargeDepth:=9) [F,results58,go_sem, *]
   have H6:t.toList.isEmpty=false:=QZ (by omega);have H4:Hid (((⟨#[61]⟩:ByteArray)++t).size=1+t.size):=by show _=_;rw[ByteArray.size_append];rfl
   have hwp:IntKind.i64.wrap ((t.size:Int)+1)=(t.size:Int)+1:=by have:=H2.out;rw[M];omega
   have z1: ¬9223372036854775807<1+t.size:=by have:=H2.out;omega
   by_cases hlong:t.size+1<=200
   ·have q3: ¬(200:Int)<(t.size:Int)+1:=by omega
    have HN:Hid (inF s=some ((⟨#[61]⟩:ByteArray)++t)):=by show _=_;rw[HF.out,nG h3];exact Qba (by rw[H4.out];omega)
    clear h3;go_wp2_with fail
    refine C (v:= G #[g ((⟨#[61]⟩:ByteArray)++t),J true]) ?_ rfl ⟨by rw[HN.out];rfl,K2.out⟩;simp (maxDischargeDepth:=9) [F,results58,go_sem, *]
   ·have q3:(200:Int)<(t.size:Int)+1:=by omega
    have HN:Hid (inF s=none):=by show _=_;rw[HF.out,nG h3];exact Qnw (by rw[H4.out];omega)
    clear h3;go_wp2_with fail
    refine C (v:= G #[g ⟨#[]⟩,J false]) ?_ rfl ⟨by rw[HN.out];rfl,K2.out⟩;simp (maxDischargeDepth:=9) [F,results58,go_sem, *]
 have hb: ¬(s[0].toNat:Int)=61:=fun e=>h6 (L.1 (by have:(61:UInt8).toNat=61:=rfl;omega));have hb':((s[0].toNat:Int)==61)=false:=by simpa using hb
 have HE:Hid (eqH s=false):=by show _=_;unfold eqH;rw[dif_pos h1];simpa using h6
 clear h6;go_wp2_with fail
 refine(Dt s _ h4 h1).mono ?_;rintro _ w2 ⟨(⟨hn,k,n,rfl⟩ | ⟨v,hn,rfl⟩),hb2⟩;rotate_left
 ·have h7:=n5_b hn;have h2:Hid (inF s=some (txV 1 v ⟨#[]⟩)):=by show _=_;rw[h9.out];unfold srT;rw[HE.out,nG (by simp),hn];exact Qba (Qo7 h7.1 h7.2)
  have K2:Hid (Below w.heap.size w w2):=hb2;obtain⟨t,HT⟩: ∃t,Hid (txV 1 v ⟨#[]⟩=t):=⟨_,rfl⟩;rw[HT.out]at h2;clear hb2 hn h7;go_wp2_with fail
  refine(YQ 1 v ⟨#[]⟩ _ (by unfold K;show 0<=_;omega)).mono ?_;rintro _ w3 ⟨rfl,hb3⟩;have K3:Hid (Below w.heap.size w w3):=Qb (Qb K2.out (by go_grown)) hb3;rw[HT.out];clear hb3;go_wp2_with fail
  refine C (v:= G #[g t,J true]) ?_ rfl ⟨by rw[h2.out];rfl,K3.out⟩;simp (maxDischargeDepth:=9) [F,results58,go_sem, *]
 have h2:Hid (inF s=lim (if gOk (Qu s)=true then some s else some ((⟨#[39]⟩:ByteArray)++s))):=by show _=_;rw[h9.out];unfold srT;rw[HE.out,nG (by simp),hn]
 have K2:Hid (Below w.heap.size w w2):=hb2;clear hb2 hn;go_wp2_with fail
 refine(VW s _ (by omega)).mono ?_;rintro _ w3 ⟨rfl,hb3⟩
 have H3:Hid (w3.there w2.heap.size 0 3):=by
  intro j hj;have H0:w2.heap.size<(w2.alloc (D #[d f k,d f n,g ⟨#[]⟩] 144)).heap.size:=by simp
  have H7:j=0\/j=1\/j=2:=by omega
  rw[Nat.zero_add,hb3.cell (p:=⟨w2.heap.size,j,none⟩) H0,hb3.frozen (p:=⟨w2.heap.size,j,none⟩) H0];rcases H7 with rfl | rfl | rfl<;>simp
 have K3:Hid (Below w.heap.size w w3):=Qb (Qb K2.out (by go_grown)) hb3;have h8:Hid (w.heap.size<=w2.heap.size):=K2.out.size;clear hb3;cases hq:gOk (Qu s)
 ·rw[Qh9 hq];have HX:Hid (txV 2 0 s=(⟨#[39]⟩:ByteArray)++s):=Qkb HB.out;have h5:Hid (inF s=lim (some ((⟨#[39]⟩:ByteArray)++s))):=by show _=_;rw[h2.out,nG (by rw[hq];simp)]
  obtain⟨t,HT⟩: ∃t,Hid ((⟨#[39]⟩:ByteArray)++s=t):=⟨_,rfl⟩;rw[HT.out]at HX h5;clear hq
  go_wp2_with (first
   | (refine Qfa H3.out rfl (.tmp 7) (.tmp 51) rfl 0 0 ⟨#[]⟩ rfl rfl ?_;intro w5 hr5 ht5 hb5 hs5;have H9:Hid (w5.there w2.heap.size 0 3):=ht5;have K5:Hid (Below w.heap.size w w5):=K3.out.trans (hb5.mono h8.out);clear hr5 ht5 hb5 hs5)
   | (refine Qfa H9.out rfl (.tmp 7) (.tmp 56) rfl 2 0 s rfl rfl ?_;intro w6 hr6 ht6 hb6 hs6;have g1:Hid (w6.rangeAt w2.heap.size 0 [d f 2,d f 0,g s]):=hr6;have K6:Hid (Below w.heap.size w w6):=K5.out.trans (hb6.mono h8.out);clear hr6 ht6 hb6 hs6)
   | (refine Qsv g1.out rfl (.tmp 7) rfl rfl ?_))
  refine(YQ 2 0 s _ HS.out).mono ?_;rintro _ w4 ⟨rfl,hb4⟩;have K4:=hd (Qb K6.out hb4);rw[HX.out];clear hb4;by_cases ht:t.size<=200
  ·have q3: ¬(200:Int)<(t.size:Int):=by omega
   have HN:Hid (inF s=some t):=by show _=_;rw[h5.out];exact Qba ht
   go_wp2_with fail
   refine C (v:= G #[g t,J true]) ?_ rfl ⟨by rw[HN.out];rfl,K4.out⟩;simp (maxDischargeDepth:=9) [F,results58,go_sem, *]
  ·have q3:(200:Int)<(t.size:Int):=by omega
   have HN:Hid (inF s=none):=by show _=_;rw[h5.out];exact Qnw ht
   go_wp2_with fail
   refine C (v:= G #[g ⟨#[]⟩,J false]) ?_ rfl ⟨by rw[HN.out];rfl,K4.out⟩;simp (maxDischargeDepth:=9) [F,results58,go_sem, *]
 ·obtain⟨e1,e2⟩:=Qpy hq;rw[e1];have HN:Hid (inF s=some s):=by show _=_;rw[h2.out,pS hq];exact Qba h4
  obtain⟨q,HQ⟩: ∃q,Hid (Qu s=q):=⟨_,rfl⟩;have H5:Hid (q.2.2.size<=K):=by show _<=_;rw[<-HQ.out];exact Qmd h4
  rw[HQ.out]at e2 ⊢;obtain⟨k2,n2,s2⟩:=q;simp only at e2 H5 ⊢;have HX:Hid (txV k2 n2 s2=s):=e2;have q3: ¬(200:Int)<(s.size:Int):=by omega
  clear hq e1 e2
  go_wp2_with (first
   | (refine Qfa H3.out rfl (.tmp 7) (.tmp 51) rfl k2 n2 s2 rfl rfl ?_;intro w5 hr5 ht5 hb5 hs5;have g2:Hid (w5.rangeAt w2.heap.size 0 [d f k2,d f n2,g s2]):=hr5;have K5:Hid (Below w.heap.size w w5):=K3.out.trans (hb5.mono h8.out);clear hr5 ht5 hb5 hs5)
   | (refine Qsv g2.out rfl (.tmp 7) rfl rfl ?_))
  refine(YQ k2 n2 s2 _ H5.out).mono ?_;rintro _ w4 ⟨rfl,hb4⟩;have K4:=hd (Qb K5.out hb4);rw[HX.out];clear hb4;go_wp2_with fail
  refine C (v:= G #[g s,J true]) ?_ rfl ⟨by rw[HN.out];rfl,K4.out⟩;simp (maxDischargeDepth:=9) [F,results58,go_sem, *]
end Go.Proofs.YtomadadmakdkgaaGreatDoor
