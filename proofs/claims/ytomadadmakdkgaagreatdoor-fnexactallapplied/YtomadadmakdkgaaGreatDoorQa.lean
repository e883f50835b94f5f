import Derived.Test.YtomadadmakdkgaaGreatDoorMn
import Derived.Test.YtomadadmakdkgaaGreatDoorGzd
import Derived.Test.YtomadadmakdkgaaGreatDoorGzj
import Derived.Test.YtomadadmakdkgaaGreatDoorGaa
import Derived.Test.YtomadadmakdkgaaGreatDoorGaf
import Derived.Test.YtomadadmakdkgaaGreatDoorGmv
import Derived.Test.YtomadadmakdkgaaGreatDoorGal
open Go.Proofs.Tryz
open Go.Value renaming int → y, bool → D, slice → E, agg → I, string → J, tuple → K
open Go.IntKind renaming i64 → C
open Go.Ending renaming returned → H
open Go renaming bodyPost_ret → L, results → M, FuncId → Q
open Or renaming inl → N
open Go.RowKit renaming ownsRow_setCell_below → O
set_option linter.unusedSimpArgs false
set_option linter.unusedVariables false
set_option maxHeartbeats 4000000
set_option maxRecDepth 100000
namespace Go.Proofs.YtomadadmakdkgaaGreatDoor
open Go.RowKit
variable {F:Nat->FN} {n kc B cap B':Nat} {KA A:Option Addr} {l:List Int} {fn:Q} {W:World} {ys:List Value} {x:FN}
def m3(k:Int):Bool:=k%3==0
def Hy(ys:List Value)(i:Nat):Option Nat:=(ys[i*14+13]?).bind Value.ownBlock
def Oo(ys:List Value)(n:Nat):Prop:= ∀i j,i<n->j<n->i≠j-> ∀b,Hy ys i=some b->Hy ys j≠some b
theorem Qw9(h:Zb F n=true):n<=60:=by
 simp only[Zb,Bool.and_eq_true,decide_eq_true_eq]at h;omega
theorem shiftedNodeX_cell_yes(o ck cn:Int)(cs:ByteArray)(ac ar:Int)(af ag:Bool)(bc br:Int)(bf bg:Bool)(hcf: ∀(ax:Array Value) (W:World),(callFunc fn ax).run prog W= .ok (.enter fn ax) W)(xa ya xb yb:Int)(p q:Nat)(w:World)(hM: ∀u:World,Below w.heap.size w u->Calls prog fn #[I #[y C ac,y C ar,D af,D ag],I #[y C ac,y C ar,D af,D ag],.pointer (some ⟨p,0,none⟩),.pointer (some ⟨q,0,none⟩)] u fun z w'=>z= H (K #[I #[y C xa,y C ya,D af,D ag],I #[y C xb,y C yb,D af,D ag]])/\Below u.heap.size u w')
  (hA:Ql xa ya xb yb=true) (h0:KA=none->kc=0) (hi:IntRow w KA l) (hn:l.length<=1048576):
  Calls prog 160 #[I #[y C 2,y C o,y C ck,y C cn,J cs,y C ac,y C ar,D af,D ag,y C bc,y C br,D bf,D bg,E KA l.length kc],.func (.func fn) #[] #[.pointer (some ⟨p,0,none⟩),.pointer (some ⟨q,0,none⟩)]] w fun z w'=> ∃KB kb,z= H (I #[y C 2,y C o,y C ck,y C cn,J cs,y C xa,y C ya,D af,D ag,y C bc,y C br,D bf,D bg,E KB l.length kb])/\w'.ownsRow w.heap.size 2 1 (E KB l.length kb) l.length (l.map (Value.int .i64))/\Below w.heap.size w w':=by
 have HA:Hid (Ql xa ya xb yb=true):=hA;clear hA;have HI:Hid (IntRow w KA l):=hi;have HN:Hid (l.length<=1048576):=hn;have HK:Hid (KA=none->kc=0):=h0;have h3:Hid (∀u:World,Below w.heap.size w u->Calls prog fn #[I #[y C ac,y C ar,D af,D ag],I #[y C ac,y C ar,D af,D ag],.pointer (some ⟨p,0,none⟩),.pointer (some ⟨q,0,none⟩)] u fun z w'=>z= H (K #[I #[y C xa,y C ya,D af,D ag],I #[y C xb,y C yb,D af,D ag]])/\Below u.heap.size u w'):=hM;clear hi hn h0 hM
 go_enter func160,ntmps160
 go_wp2_with (first
  | (go_at_call 187;refine(YV _ _ _ _ true _ HA.out).mono ?_;rintro z wB ⟨rfl,hb⟩;obtain⟨h1,hfB,h2,hFB,hzB,hkB,lB0,lB1⟩:=bk2 (w:=w) hb;have x0:wB.cell? ⟨w.heap.size,0,none⟩=some (y C 2):=(by simp (maxDischargeDepth:=9) [go_sem, *]);have x1:wB.cell? ⟨w.heap.size,1,none⟩=some (y C o):=(by simp (maxDischargeDepth:=9) [go_sem, *]);have x2:wB.cell? ⟨w.heap.size,2,none⟩=some (y C ck):=(by simp (maxDischargeDepth:=9) [go_sem, *]);have x3:wB.cell? ⟨w.heap.size,3,none⟩=some (y C cn):=(by simp (maxDischargeDepth:=9) [go_sem, *]);have x4:wB.cell? ⟨w.heap.size,4,none⟩=some (J cs):=(by simp (maxDischargeDepth:=9) [go_sem, *]);have x5:wB.cell? ⟨w.heap.size,5,none⟩=some (y C ac):=(by simp (maxDischargeDepth:=9) [go_sem, *]);have x6:wB.cell? ⟨w.heap.size,6,none⟩=some (y C ar):=(by simp (maxDischargeDepth:=9) [go_sem, *]);have x7:wB.cell? ⟨w.heap.size,7,none⟩=some (D af):=(by simp (maxDischargeDepth:=9) [go_sem, *]);have x8:wB.cell? ⟨w.heap.size,8,none⟩=some (D ag):=(by simp (maxDischargeDepth:=9) [go_sem, *]);have x9:wB.cell? ⟨w.heap.size,9,none⟩=some (y C bc):=(by simp (maxDischargeDepth:=9) [go_sem, *]);have x10:wB.cell? ⟨w.heap.size,10,none⟩=some (y C br):=(by simp (maxDischargeDepth:=9) [go_sem, *]);have x11:wB.cell? ⟨w.heap.size,11,none⟩=some (D bf):=(by simp (maxDischargeDepth:=9) [go_sem, *]);have x12:wB.cell? ⟨w.heap.size,12,none⟩=some (D bg):=(by simp (maxDischargeDepth:=9) [go_sem, *]);have x13:wB.cell? ⟨w.heap.size,13,none⟩=some (E KA l.length kc):=(by simp (maxDischargeDepth:=9) [go_sem, *]);have z0:wB.cell? ⟨w.heap.size+1,0,none⟩=some (y C 0):=(by simp (maxDischargeDepth:=9) [go_sem, *]);have z1:wB.cell? ⟨w.heap.size+1,1,none⟩=some (y C 0):=(by simp (maxDischargeDepth:=9) [go_sem, *]);have z2:wB.cell? ⟨w.heap.size+1,2,none⟩=some (y C 0):=(by simp (maxDischargeDepth:=9) [go_sem, *]);have z3:wB.cell? ⟨w.heap.size+1,3,none⟩=some (y C 0):=(by simp (maxDischargeDepth:=9) [go_sem, *]);have z4:wB.cell? ⟨w.heap.size+1,4,none⟩=some (J ⟨#[]⟩):=(by simp (maxDischargeDepth:=9) [go_sem, *]);have z5:wB.cell? ⟨w.heap.size+1,5,none⟩=some (y C 0):=(by simp (maxDischargeDepth:=9) [go_sem, *]);have z6:wB.cell? ⟨w.heap.size+1,6,none⟩=some (y C 0):=(by simp (maxDischargeDepth:=9) [go_sem, *]);have z7:wB.cell? ⟨w.heap.size+1,7,none⟩=some (D false):=(by simp (maxDischargeDepth:=9) [go_sem, *]);have z8:wB.cell? ⟨w.heap.size+1,8,none⟩=some (D false):=(by simp (maxDischargeDepth:=9) [go_sem, *]);have z9:wB.cell? ⟨w.heap.size+1,9,none⟩=some (y C 0):=(by simp (maxDischargeDepth:=9) [go_sem, *]);have z10:wB.cell? ⟨w.heap.size+1,10,none⟩=some (y C 0):=(by simp (maxDischargeDepth:=9) [go_sem, *]);have z11:wB.cell? ⟨w.heap.size+1,11,none⟩=some (D false):=(by simp (maxDischargeDepth:=9) [go_sem, *]);have z12:wB.cell? ⟨w.heap.size+1,12,none⟩=some (D false):=(by simp (maxDischargeDepth:=9) [go_sem, *]);have z13:wB.cell? ⟨w.heap.size+1,13,none⟩=some (E none 0 0):=(by simp (maxDischargeDepth:=9) [go_sem, *]);have t0:wB.cell? ⟨wA.heap.size,0,none⟩=some (y C xa):=(by simp (maxDischargeDepth:=9) [go_sem, *]);have t1:wB.cell? ⟨wA.heap.size,1,none⟩=some (y C ya):=(by simp (maxDischargeDepth:=9) [go_sem, *]);have t2:wB.cell? ⟨wA.heap.size,2,none⟩=some (D af):=(by simp (maxDischargeDepth:=9) [go_sem, *]);have t3:wB.cell? ⟨wA.heap.size,3,none⟩=some (D ag):=(by simp (maxDischargeDepth:=9) [go_sem, *]);clear hb h1 h2)
  | (at_builtin;refine Vb _ rfl _ _ rfl (E none 0 0) rfl (w.heap.size+2) ?kb ?kn rfl HK.out ?ki HN.out ?_)
  | (have h7:=h3.out;(with_reducible (refine(h7 _ ?_).mono ?_));(focus go_grown);clear h7;rintro z wA ⟨rfl,hb⟩;obtain⟨hc,hf,hC,hF,hz,hk,l0,l1⟩:=bk2 (w:=w) hb;clear hb))
 case kb=>go_size
 case kn=>exact⟨rfl,N ⟨rfl,rfl⟩⟩
 case ki=>exact HI.out.below (by go_grown)
 intro KB kb w9 hown hgrow;have HO:Hid (w9.ownsRow (w.heap.size+2) 2 1 (E KB l.length kb) l.length (l.map (Value.int .i64))):=hown;have hb:=(Below.refl _ _).grown hgrow (Nat.le_refl _) (fun k hk=>by cases hk);obtain⟨hc9,hf9,hC9,hF9,hz9,hk9,m0,m1⟩:=bk2 (w:=w) hb;clear hgrow hb hown;go_wp2_with fail
 refine L (v:= I #[y C 2,y C o,y C ck,y C cn,J cs,y C xa,y C ya,D af,D ag,y C bc,y C br,D bf,D bg,E KB l.length kb]) ?_ rfl ⟨_,_,rfl,?_,by go_grown⟩
 ·simp (maxDischargeDepth:=9) [M,results160,go_sem, *]
 ·refine QU (B:=w.heap.size+2) ?_ (by omega);repeat (refine O ?_ (by simp) _)
  exact HO.out
theorem shiftedNodeX_cell_no(o ck cn:Int)(cs:ByteArray)(ac ar:Int)(af ag:Bool)(bc br:Int)(bf bg:Bool)(hcf: ∀(ax:Array Value) (W:World),(callFunc fn ax).run prog W= .ok (.enter fn ax) W)(xa ya xb yb:Int)(p q:Nat)(w:World)(hM: ∀u:World,Below w.heap.size w u->Calls prog fn #[I #[y C ac,y C ar,D af,D ag],I #[y C ac,y C ar,D af,D ag],.pointer (some ⟨p,0,none⟩),.pointer (some ⟨q,0,none⟩)] u fun z w'=>z= H (K #[I #[y C xa,y C ya,D af,D ag],I #[y C xb,y C yb,D af,D ag]])/\Below u.heap.size u w')
  (hA:Ql xa ya xb yb=false) (h0:KA=none->kc=0) (hi:IntRow w KA l) (hn:l.length<=1048576):
  Calls prog 160 #[I #[y C 2,y C o,y C ck,y C cn,J cs,y C ac,y C ar,D af,D ag,y C bc,y C br,D bf,D bg,E KA l.length kc],.func (.func fn) #[] #[.pointer (some ⟨p,0,none⟩),.pointer (some ⟨q,0,none⟩)]] w fun z w'=>z= H (I #[y C 1,y C 0,y C 4,y C 3,J ⟨#[]⟩,y C 0,y C 0,D false,D false,y C 0,y C 0,D false,D false,E none 0 0])/\Below w.heap.size w w':=by
 have HA:Hid (Ql xa ya xb yb=false):=hA;clear hA;have HI:Hid (IntRow w KA l):=hi;have HN:Hid (l.length<=1048576):=hn;have HK:Hid (KA=none->kc=0):=h0;have h1:Hid (∀u:World,Below w.heap.size w u->Calls prog fn #[I #[y C ac,y C ar,D af,D ag],I #[y C ac,y C ar,D af,D ag],.pointer (some ⟨p,0,none⟩),.pointer (some ⟨q,0,none⟩)] u fun z w'=>z= H (K #[I #[y C xa,y C ya,D af,D ag],I #[y C xb,y C yb,D af,D ag]])/\Below u.heap.size u w'):=hM;clear hi hn h0 hM
 go_enter func160,ntmps160
 go_wp2_with (first
  | (go_at_call 187;refine(YV _ _ _ _ false _ HA.out).mono ?_;rintro z w1 ⟨rfl,hb⟩;obtain⟨hc,hf,hC,hF,hz,hk,l0,l1⟩:=bk2 (w:=w) hb;clear hb)
  | (go_at_call 192;refine(Hz _).mono ?_;rintro z w1 ⟨rfl,hb⟩;obtain⟨hc,hf,hC,hF,hz,hk,l0,l1⟩:=bk2 (w:=w) hb;clear hb)
  | (have h7:=h1.out;(with_reducible (refine(h7 _ ?_).mono ?_));(focus go_grown);clear h7;rintro z w1 ⟨rfl,hb⟩;obtain⟨hc,hf,hC,hF,hz,hk,l0,l1⟩:=bk2 (w:=w) hb;clear hb))
 refine L (v:= I #[y C 1,y C 0,y C 4,y C 3,J ⟨#[]⟩,y C 0,y C 0,D false,D false,y C 0,y C 0,D false,D false,E none 0 0]) ?_ rfl ⟨rfl,by go_grown⟩;simp (maxDischargeDepth:=9) [M,results160,go_sem, *]
theorem shiftedNodeX_area_yes(o ck cn:Int)(cs:ByteArray)(ac ar:Int)(af ag:Bool)(bc br:Int)(bf bg:Bool)(hcf: ∀(ax:Array Value) (W:World),(callFunc fn ax).run prog W= .ok (.enter fn ax) W)(xa ya xb yb:Int)(p q:Nat)(w:World)(hM: ∀u:World,Below w.heap.size w u->Calls prog fn #[I #[y C ac,y C ar,D af,D ag],I #[y C bc,y C br,D bf,D bg],.pointer (some ⟨p,0,none⟩),.pointer (some ⟨q,0,none⟩)] u fun z w'=>z= H (K #[I #[y C xa,y C ya,D af,D ag],I #[y C xb,y C yb,D bf,D bg]])/\Below u.heap.size u w')
  (hA:Ql xa ya xb yb=true) (h0:KA=none->kc=0) (hi:IntRow w KA l) (hn:l.length<=1048576):
  Calls prog 160 #[I #[y C 3,y C o,y C ck,y C cn,J cs,y C ac,y C ar,D af,D ag,y C bc,y C br,D bf,D bg,E KA l.length kc],.func (.func fn) #[] #[.pointer (some ⟨p,0,none⟩),.pointer (some ⟨q,0,none⟩)]] w fun z w'=> ∃KB kb,z= H (I #[y C 3,y C o,y C ck,y C cn,J cs,y C xa,y C ya,D af,D ag,y C xb,y C yb,D bf,D bg,E KB l.length kb])/\w'.ownsRow w.heap.size 2 1 (E KB l.length kb) l.length (l.map (Value.int .i64))/\Below w.heap.size w w':=by
 have HA:Hid (Ql xa ya xb yb=true):=hA;clear hA;have HI:Hid (IntRow w KA l):=hi;have HN:Hid (l.length<=1048576):=hn;have HK:Hid (KA=none->kc=0):=h0;have h1:Hid (∀u:World,Below w.heap.size w u->Calls prog fn #[I #[y C ac,y C ar,D af,D ag],I #[y C bc,y C br,D bf,D bg],.pointer (some ⟨p,0,none⟩),.pointer (some ⟨q,0,none⟩)] u fun z w'=>z= H (K #[I #[y C xa,y C ya,D af,D ag],I #[y C xb,y C yb,D bf,D bg]])/\Below u.heap.size u w'):=hM;clear hi hn h0 hM
 go_enter func160,ntmps160
 go_wp2_with (first
  | (go_at_call 188;refine(Xm _ _ _ _ _ _ _ _ _ _ _ _ _).mono ?_;rintro z w1 ⟨rfl,hb⟩;obtain⟨hc,hf,hC,hF,hz,hk,l0,l1⟩:=bk2 (w:=w) hb;clear hb)
  | (go_at_call 187;refine(YV _ _ _ _ true _ HA.out).mono ?_;rintro z w1 ⟨rfl,hb⟩;obtain⟨hc,hf,hC,hF,hz,hk,l0,l1⟩:=bk2 (w:=w) hb;clear hb)
  | (at_builtin;refine Vb _ rfl _ _ rfl (E none 0 0) rfl (w.heap.size+2) ?kb ?kn rfl HK.out ?ki HN.out ?_)
  | (have h7:=h1.out;(with_reducible (refine(h7 _ ?_).mono ?_));(focus go_grown);clear h7;rintro z w1 ⟨rfl,hb⟩;obtain⟨hc,hf,hC,hF,hz,hk,l0,l1⟩:=bk2 (w:=w) hb;clear hb))
 case kb=>go_size
 case kn=>exact⟨rfl,N ⟨rfl,rfl⟩⟩
 case ki=>exact HI.out.below (by go_grown)
 intro KB kb w9 hown hgrow;have HO:Hid (w9.ownsRow (w.heap.size+2) 2 1 (E KB l.length kb) l.length (l.map (Value.int .i64))):=hown;have hb:=(Below.refl _ _).grown hgrow (Nat.le_refl _) (fun k hk=>by cases hk);obtain⟨hc9,hf9,hC9,hF9,hz9,hk9,m0,m1⟩:=bk2 (w:=w) hb;clear hgrow hb hown;go_wp2_with fail
 refine L (v:= I #[y C 3,y C o,y C ck,y C cn,J cs,y C xa,y C ya,D af,D ag,y C xb,y C yb,D bf,D bg,E KB l.length kb]) ?_ rfl ⟨_,_,rfl,?_,by go_grown⟩
 ·simp (maxDischargeDepth:=9) [M,results160,go_sem, *]
 ·refine QU (B:=w.heap.size+2) ?_ (by omega);repeat (refine O ?_ (by simp) _)
  exact HO.out
theorem shiftedNodeX_area_no(o ck cn:Int)(cs:ByteArray)(ac ar:Int)(af ag:Bool)(bc br:Int)(bf bg:Bool)(hcf: ∀(ax:Array Value) (W:World),(callFunc fn ax).run prog W= .ok (.enter fn ax) W)(xa ya xb yb:Int)(p q:Nat)(w:World)(hM: ∀u:World,Below w.heap.size w u->Calls prog fn #[I #[y C ac,y C ar,D af,D ag],I #[y C bc,y C br,D bf,D bg],.pointer (some ⟨p,0,none⟩),.pointer (some ⟨q,0,none⟩)] u fun z w'=>z= H (K #[I #[y C xa,y C ya,D af,D ag],I #[y C xb,y C yb,D bf,D bg]])/\Below u.heap.size u w')
  (hA:Ql xa ya xb yb=false) (h0:KA=none->kc=0) (hi:IntRow w KA l) (hn:l.length<=1048576):
  Calls prog 160 #[I #[y C 3,y C o,y C ck,y C cn,J cs,y C ac,y C ar,D af,D ag,y C bc,y C br,D bf,D bg,E KA l.length kc],.func (.func fn) #[] #[.pointer (some ⟨p,0,none⟩),.pointer (some ⟨q,0,none⟩)]] w fun z w'=>z= H (I #[y C 1,y C 0,y C 4,y C 3,J ⟨#[]⟩,y C 0,y C 0,D false,D false,y C 0,y C 0,D false,D false,E none 0 0])/\Below w.heap.size w w':=by
 have HA:Hid (Ql xa ya xb yb=false):=hA;clear hA;have HI:Hid (IntRow w KA l):=hi;have HN:Hid (l.length<=1048576):=hn;have HK:Hid (KA=none->kc=0):=h0;have h1:Hid (∀u:World,Below w.heap.size w u->Calls prog fn #[I #[y C ac,y C ar,D af,D ag],I #[y C bc,y C br,D bf,D bg],.pointer (some ⟨p,0,none⟩),.pointer (some ⟨q,0,none⟩)] u fun z w'=>z= H (K #[I #[y C xa,y C ya,D af,D ag],I #[y C xb,y C yb,D bf,D bg]])/\Below u.heap.size u w'):=hM;clear hi hn h0 hM
 go_enter func160,ntmps160
 go_wp2_with (first
  | (go_at_call 188;refine(Xm _ _ _ _ _ _ _ _ _ _ _ _ _).mono ?_;rintro z w1 ⟨rfl,hb⟩;obtain⟨hc,hf,hC,hF,hz,hk,l0,l1⟩:=bk2 (w:=w) hb;clear hb)
  | (go_at_call 187;refine(YV _ _ _ _ false _ HA.out).mono ?_;rintro z w1 ⟨rfl,hb⟩;obtain⟨hc,hf,hC,hF,hz,hk,l0,l1⟩:=bk2 (w:=w) hb;clear hb)
  | (go_at_call 192;refine(Hz _).mono ?_;rintro z w1 ⟨rfl,hb⟩;obtain⟨hc,hf,hC,hF,hz,hk,l0,l1⟩:=bk2 (w:=w) hb;clear hb)
  | (have h7:=h1.out;(with_reducible (refine(h7 _ ?_).mono ?_));(focus go_grown);clear h7;rintro z w1 ⟨rfl,hb⟩;obtain⟨hc,hf,hC,hF,hz,hk,l0,l1⟩:=bk2 (w:=w) hb;clear hb))
 refine L (v:= I #[y C 1,y C 0,y C 4,y C 3,J ⟨#[]⟩,y C 0,y C 0,D false,D false,y C 0,y C 0,D false,D false,E none 0 0]) ?_ rfl ⟨rfl,by go_grown⟩;simp (maxDischargeDepth:=9) [M,results160,go_sem, *]
def QY:FN:=⟨1,0,4,3,⟨#[]⟩,0,0,false,false,0,0,false,false,[]⟩
abbrev Xy:=Int->Int->Bool->Bool->Int × Int
def QB(f g:Xy)(x:FN):FN:=
 if x.k=2 then(if Ql (f x.ac x.ar x.af x.ag).1 (f x.ac x.ar x.af x.ag).2 (g x.ac x.ar x.af x.ag).1 (g x.ac x.ar x.af x.ag).2=true then{x with ac:=(f x.ac x.ar x.af x.ag).1,ar:=(f x.ac x.ar x.af x.ag).2}else QY)
 else if x.k=3 then(if Ql (f x.ac x.ar x.af x.ag).1 (f x.ac x.ar x.af x.ag).2 (g x.bc x.br x.bf x.bg).1 (g x.bc x.br x.bf x.bg).2=true then{x with ac:=(f x.ac x.ar x.af x.ag).1,ar:=(f x.ac x.ar x.af x.ag).2,bc:=(g x.bc x.br x.bf x.bg).1,br:=(g x.bc x.br x.bf x.bg).2}else QY)
 else x
def Qov(x:FN)(KA:Option Addr)(kc:Nat):Value:= I #[y C x.k,y C x.o,y C x.ck,y C x.cn,J x.cs,y C x.ac,y C x.ar,D x.af,D x.ag,y C x.bc,y C x.br,D x.bf,D x.bg,E KA x.kids.length kc]
def DU(x:FN):Prop:=(x.k=2\/x.k=3->(-1000<=x.ac/\x.ac<=1000)/\(-1000<=x.ar/\x.ar<=1000))/\(x.k=3->(-1000<=x.bc/\x.bc<=1000)/\(-1000<=x.br/\x.br<=1000))
theorem Je(w:World)(B:Nat):w.ownsRow B 2 1 (E none 0 0) 0 []:=⟨rfl,N ⟨rfl,rfl⟩⟩
theorem impl_shiftedNodeX(x:FN){f g:Xy}(hcf: ∀(ax:Array Value) (W:World),(callFunc fn ax).run prog W= .ok (.enter fn ax) W)(p q:Nat)(w:World)(hM: ∀(c r:Int) (a b:Bool) (c' r':Int) (a' b':Bool),-1000<=c/\c<=1000-> -1000<=r/\r<=1000-> -1000<=c'/\c'<=1000-> -1000<=r'/\r'<=1000-> ∀u:World,Below w.heap.size w u->Calls prog fn #[I #[y C c,y C r,D a,D b],I #[y C c',y C r',D a',D b'],.pointer (some ⟨p,0,none⟩),.pointer (some ⟨q,0,none⟩)] u fun z w'=>z= H (K #[I #[y C (f c r a b).1,y C (f c r a b).2,D a,D b],I #[y C (g c' r' a' b').1,y C (g c' r' a' b').2,D a',D b']])/\Below u.heap.size u w')(hs:DU x)
  (h0:KA=none->kc=0) (hi:IntRow w KA x.kids) (hn:x.kids.length<=1048576):
  Calls prog 160 #[Qov x KA kc,.func (.func fn) #[] #[.pointer (some ⟨p,0,none⟩),.pointer (some ⟨q,0,none⟩)]] w fun z w'=>
   ∃KB kb,z= H (Qov (QB f g x) KB kb)/\w'.ownsRow w.heap.size 2 1 (E KB (QB f g x).kids.length kb) (QB f g x).kids.length ((QB f g x).kids.map (Value.int .i64))/\Below w.heap.size w w':=by
 obtain⟨k,o,ck,cn,cs,ac,ar,af,ag,bc,br,bf,bg,kids⟩:=x;by_cases h2:k=2
 ·subst h2;obtain⟨ha,hr⟩:=hs.1 (N rfl);unfold QB;rw[pS rfl];by_cases hA:Ql (f ac ar af ag).1 (f ac ar af ag).2 (g ac ar af ag).1 (g ac ar af ag).2=true
  ·rw[pS hA];exact shiftedNodeX_cell_yes o ck cn cs ac ar af ag bc br bf bg hcf _ _ _ _ p q w (hM ac ar af ag ac ar af ag ha hr ha hr) hA h0 hi hn
  ·rw[nG hA];exact(shiftedNodeX_cell_no o ck cn cs ac ar af ag bc br bf bg hcf _ _ _ _ p q w (hM ac ar af ag ac ar af ag ha hr ha hr) (eq_false_of_ne_true hA) h0 hi hn).mono fun _ _ h=>⟨none,0,h.1,Je _ _,h.2⟩
 by_cases h3:k=3
 ·subst h3;obtain⟨ha,hr⟩:=hs.1 (Or.inr rfl);obtain⟨hb,h1⟩:=hs.2 rfl;unfold QB;rw[nG h2,pS rfl];by_cases hA:Ql (f ac ar af ag).1 (f ac ar af ag).2 (g bc br bf bg).1 (g bc br bf bg).2=true
  ·rw[pS hA];exact shiftedNodeX_area_yes o ck cn cs ac ar af ag bc br bf bg hcf _ _ _ _ p q w (hM ac ar af ag bc br bf bg ha hr hb h1) hA h0 hi hn
  ·rw[nG hA];exact(shiftedNodeX_area_no o ck cn cs ac ar af ag bc br bf bg hcf _ _ _ _ p q w (hM ac ar af ag bc br bf bg ha hr hb h1) (eq_false_of_ne_true hA) h0 hi hn).mono fun _ _ h=>⟨none,0,h.1,Je _ _,h.2⟩
 ·unfold QB;rw[nG h2,nG h3];exact GK k o ck cn cs ac ar af ag bc br bf bg _ w h2 h3 h0 hi hn
def Qi(d e:Int):Xy:=fun c r f g=>(mvI f c d,mvI g r e)
def Qh(d e:Int):Xy:=fun c r f g=>(mvI f c d,mvI g r e)
theorem cf_MovedBy(ax:Array Value)(W:World):(callFunc 126 ax).run prog W= .ok (.enter 126 ax) W:=by kernel_rfl
theorem mvr_MovedBy(d e:Int)(p q:Nat)(w:World)(hp:p<w.heap.size)(hq:q<w.heap.size)(cp:w.cell? ⟨p,0,none⟩=some (y C d))(cq:w.cell? ⟨q,0,none⟩=some (y C e))(hdq: -1000<=d/\d<=1000)(he: -1000<=e/\e<=1000)
  (c r:Int) (a b:Bool) (c' r':Int) (a' b':Bool) (h1: -1000<=c/\c<=1000) (h2: -1000<=r/\r<=1000) (h3: -1000<=c'/\c'<=1000) (h4: -1000<=r'/\r'<=1000) (u:World) (hu:Below w.heap.size w u):Calls prog 126 #[I #[y C c,y C r,D a,D b],I #[y C c',y C r',D a',D b'],.pointer (some ⟨p,0,none⟩),.pointer (some ⟨q,0,none⟩)] u fun z w'=>z= H (K #[I #[y C (Qi d e c r a b).1,y C (Qi d e c r a b).2,D a,D b],I #[y C (Qh d e c' r' a' b').1,y C (Qh d e c' r' a' b').2,D a',D b']])/\Below u.heap.size u w':=
 YT c r a b c' r' a' b' d e p q u (ltB hu hp) (ltB hu hq) (Uw hu hp cp) (Uw hu hq cq) h1 h2 h3 h4 hdq he
def Zw(d e:Int):Xy:=fun c r _ _=>(c,opI r d e)
def Zv(d e:Int):Xy:=fun c r _ _=>(c,opI r d e)
theorem cf_Opened(ax:Array Value)(W:World):(callFunc 123 ax).run prog W= .ok (.enter 123 ax) W:=by kernel_rfl
theorem mvr_Opened(d e:Int)(p q:Nat)(w:World)(hp:p<w.heap.size)(hq:q<w.heap.size)(cp:w.cell? ⟨p,0,none⟩=some (y C d))(cq:w.cell? ⟨q,0,none⟩=some (y C e))(hdq: -1000<=d/\d<=1000)(he: -1000<=e/\e<=1000)
  (c r:Int) (a b:Bool) (c' r':Int) (a' b':Bool) (h1: -1000<=c/\c<=1000) (h2: -1000<=r/\r<=1000) (h3: -1000<=c'/\c'<=1000) (h4: -1000<=r'/\r'<=1000) (u:World) (hu:Below w.heap.size w u):Calls prog 123 #[I #[y C c,y C r,D a,D b],I #[y C c',y C r',D a',D b'],.pointer (some ⟨p,0,none⟩),.pointer (some ⟨q,0,none⟩)] u fun z w'=>z= H (K #[I #[y C (Zw d e c r a b).1,y C (Zw d e c r a b).2,D a,D b],I #[y C (Zv d e c' r' a' b').1,y C (Zv d e c' r' a' b').2,D a',D b']])/\Below u.heap.size u w':=
 Qo c r a b c' r' a' b' d e p q u (ltB hu hp) (ltB hu hq) (Uw hu hp cp) (Uw hu hq cq) h1 h2 h3 h4 hdq he
def Zi(d e:Int):Xy:=fun c r _ _=>(c,clI r d e d)
def Zh(d e:Int):Xy:=fun c r _ _=>(c,clI r d e (d-1))
theorem cf_Closed(ax:Array Value)(W:World):(callFunc 124 ax).run prog W= .ok (.enter 124 ax) W:=by kernel_rfl
theorem mvr_Closed(d e:Int)(p q:Nat)(w:World)(hp:p<w.heap.size)(hq:q<w.heap.size)(cp:w.cell? ⟨p,0,none⟩=some (y C d))(cq:w.cell? ⟨q,0,none⟩=some (y C e))(hdq: -1000<=d/\d<=1000)(he: -1000<=e/\e<=1000)
  (c r:Int) (a b:Bool) (c' r':Int) (a' b':Bool) (h1: -1000<=c/\c<=1000) (h2: -1000<=r/\r<=1000) (h3: -1000<=c'/\c'<=1000) (h4: -1000<=r'/\r'<=1000) (u:World) (hu:Below w.heap.size w u):Calls prog 124 #[I #[y C c,y C r,D a,D b],I #[y C c',y C r',D a',D b'],.pointer (some ⟨p,0,none⟩),.pointer (some ⟨q,0,none⟩)] u fun z w'=>z= H (K #[I #[y C (Zi d e c r a b).1,y C (Zi d e c r a b).2,D a,D b],I #[y C (Zh d e c' r' a' b').1,y C (Zh d e c' r' a' b').2,D a',D b']])/\Below u.heap.size u w':=
 Qt c r a b c' r' a' b' d e p q u (ltB hu hp) (ltB hu hq) (Uw hu hp cp) (Uw hu hq cq) h1 h2 h3 h4 hdq he
def FnRowS(W:World)(A:Option Addr)(n:Nat)(F:Nat->FN):Prop:=
 n<=maxLen/\ ∀i,i<n-> ∃b o KA kc,A=some ⟨b,o,none⟩/\b<W.heap.size/\NodeAt W b (o+i*14) (F i) KA kc/\IntRow W KA (F i).kids/\(F i).cs.size<=maxLen/\(KA=none->kc=0)
theorem FnRowS.row(h:FnRowS W A n F):FnRow W A n F:=
 ⟨h.1,fun i hi=>by
  obtain⟨b,o,KA,kc,e,hl,hn,hk,hs,_⟩:=h.2 i hi
  exact⟨b,o,KA,kc,e,hl,hn,hk,hs⟩⟩
theorem FnRowS.below{W':World}(h:FnRowS W A n F)(hb:Below W.heap.size W W'):FnRowS W' A n F:=
 ⟨h.1,fun i hi=>by
  obtain⟨b,o,KA,kc,e,hl,hn,hk,hs,h0⟩:=h.2 i hi
  exact⟨b,o,KA,kc,e,Nat.lt_of_lt_of_le hl hb.size,hn.below hl hb,hk.below hb,hs,h0⟩⟩
theorem Qil{e:TypeId}{size:Nat}{xs:List Value}(h:W.ownsRow B e size (E KA n kc) n xs):KA=none->kc=0:=by
 intro e0;rcases h.2 with⟨e,_⟩ | ⟨g,cap,cur,e,_⟩
 ·cases e;rfl
 ·cases e;cases e0
theorem Oa{g:Nat}(h:W.ownsRow B 177 14 (E (some ⟨g,0,none⟩) n cap) n ys)(hp:FnPart W B' ys F n)(hs: ∀i,i<n->(F i).cs.size<=maxLen):FnRowS W (some ⟨g,0,none⟩) n F:=by
 obtain⟨A',cap',e,hn,hc⟩:=Qr h;cases e
 refine⟨hn,fun i hi=> ?_⟩;obtain⟨KA,kc,h1,h2⟩:=hp i hi
 have h0: ∀j,j<14->W.cell? ⟨g,0+i*14+j,none⟩=(Qx (F i) KA kc)[j]?:=fun j hj=>by
  obtain⟨g',e',_,_,c,_⟩:=hc (i*14+j) (by omega);cases e'
  rw[Nat.zero_add,c,h1 j hj]
 obtain⟨g',e',_,hl,_,_⟩:=hc (i*14) (by omega);cases e'
 refine⟨g,0,KA,kc,rfl,hl,⟨h0 0 (by omega),h0 1 (by omega),h0 2 (by omega),h0 3 (by omega),h0 4 (by omega),h0 5 (by omega),h0 6 (by omega),h0 7 (by omega),h0 8 (by omega),h0 9 (by omega),h0 10 (by omega),h0 11 (by omega),h0 12 (by omega),h0 13 (by omega)⟩,Vq h2,hs i hi,Qil h2⟩
theorem Qea{W0:World}{g t:Nat}{G:Nat->FN}{KB:Option Addr}{kb:Nat}(hx:G t=x)(h:W.ownsRow g 177 14 (E (some ⟨g,0,none⟩) n cap) n ys)(ht:t<n)(hp:FnPart W (g+1) ys G t)
  (hk:W.ownsRow B' 2 1 (E KB x.kids.length kb) x.kids.length (x.kids.map (Value.int .i64))) (hp0:FnPart W0 (g+1) ys G t) (hB:W0.heap.size<=B') (hB1:g+1<=B') (hdq:Oo ys t):
  ∃zs,(VG W g (t*14) (Qx x KB kb)).ownsRow g 177 14 (E (some ⟨g,0,none⟩) n cap) n zs/\FnPart (VG W g (t*14) (Qx x KB kb)) (g+1) zs G (t+1)/\Oo zs (t+1)/\W.grownBy (VG W g (t*14) (Qx x KB kb)) (some g):=by
 subst hx;obtain⟨o,gr⟩:=Qaa (Qx (G t) KB kb) W (t*14) ys h;have hl:=h.1;have h4:(Qx (G t) KB kb).length=14:=rfl
 have h3: ∀{KA:Option Addr} {m kc:Nat} {xs:List Value},W.ownsRow (g+1) 2 1 (E KA m kc) m xs->(VG W g (t*14) (Qx (G t) KB kb)).ownsRow (g+1) 2 1 (E KA m kc) m xs:=fun hh=>hh.kept gr (by
  cases hv:(Value.slice _ _ _).ownBlock with
  | none=>exact N rfl
  | some b=>right;intro e;have:=(hh.lt b hv).1;cases e;omega)
 have h5:(VK ys (t*14) (Qx (G t) KB kb))[t*14+13]? =some (E KB (G t).kids.length kb):=Uj _ _ _ 13 (by omega) (by rw[h4];omega);have h0: ∀i,i<t->(VK ys (t*14) (Qx (G t) KB kb))[i*14+13]? =ys[i*14+13]?:=fun i hi=>Kt _ _ _ _ (by omega)
 have h6: ∀i b,i<t->Hy (VK ys (t*14) (Qx (G t) KB kb)) i=some b->b<W0.heap.size:=fun i b hi e=>by
  obtain⟨KA,kc,h1,h2⟩:=hp0 i hi;unfold Hy at e;rw[h0 i hi,h1 13 (by omega)]at e;exact(h2.lt b e).2
 have h7: ∀b,Hy (VK ys (t*14) (Qx (G t) KB kb)) t=some b->B'<=b:=fun b e=>by
  unfold Hy at e;rw[h5]at e;exact(hk.lt b e).1
 refine⟨_,o,fun i hi=> ?_,fun i j hi hj hne b e1 e2=> ?_,gr⟩
 ·by_cases e:i=t
  ·subst e;exact⟨KB,kb,fun j hj=>Uj _ _ _ j (by omega) (by rw[h4];omega),h3 (QU hk hB1)⟩
  ·obtain⟨KA,kc,h1,h2⟩:=hp i (by omega);exact⟨KA,kc,fun j hj=>by rw[Kt _ _ _ _ (by omega)];exact h1 j hj,h3 h2⟩
 ·by_cases ei:i=t
  ·rw[ei]at e1;have a1:=h7 b e1;have a2:=h6 j b (by omega) e2;omega
  ·by_cases ej:j=t
   ·rw[ej]at e2;have a1:=h7 b e2;have a2:=h6 i b (by omega) e1;omega
   ·refine hdq i j (by omega) (by omega) hne b ?_ ?_
    ·unfold Hy at e1 ⊢;rw[h0 i (by omega)]at e1;exact e1
    ·unfold Hy at e2 ⊢;rw[h0 j (by omega)]at e2;exact e2
theorem impl_shiftedX{f g:Xy}(hcf: ∀(ax:Array Value) (W:World),(callFunc fn ax).run prog W= .ok (.enter fn ax) W)(p q:Nat)(w:World)(hM: ∀(c r:Int) (a b:Bool) (c' r':Int) (a' b':Bool),-1000<=c/\c<=1000-> -1000<=r/\r<=1000-> -1000<=c'/\c'<=1000-> -1000<=r'/\r'<=1000-> ∀u:World,Below w.heap.size w u->Calls prog fn #[I #[y C c,y C r,D a,D b],I #[y C c',y C r',D a',D b'],.pointer (some ⟨p,0,none⟩),.pointer (some ⟨q,0,none⟩)] u fun z w'=>z= H (K #[I #[y C (f c r a b).1,y C (f c r a b).2,D a,D b],I #[y C (g c' r' a' b').1,y C (g c' r' a' b').2,D a',D b']])/\Below u.heap.size u w')(h:FnRowS w A n F)(hn:n<=1048576)(hkn: ∀i,i<n->(F i).kids.length<=1048576)(hsm: ∀i,i<n->DU (F i)):
  Calls prog 122 #[E A n cap,.func (.func fn) #[] #[.pointer (some ⟨p,0,none⟩),.pointer (some ⟨q,0,none⟩)]] w fun z w'=> ∃ys,z= H (E (some ⟨w.heap.size,0,none⟩) n n)/\w'.ownsRow w.heap.size 177 14 (E (some ⟨w.heap.size,0,none⟩) n n) n ys/\FnPart w' (w.heap.size+1) ys (fun i=>QB f g (F i)) n/\Oo ys n/\Below w.heap.size w w':=by
 have g9:Hid (∀i,i<n->DU (F i)):=hsm;have HR:Hid (FnRowS w A n F):=h;have G1:Hid (∀i,i<n->(F i).kids.length<=1048576):=hkn;have G0:Hid (∀(c r:Int) (a b:Bool) (c' r':Int) (a' b':Bool),-1000<=c/\c<=1000-> -1000<=r/\r<=1000-> -1000<=c'/\c'<=1000-> -1000<=r'/\r'<=1000-> ∀u:World,Below w.heap.size w u->Calls prog fn #[I #[y C c,y C r,D a,D b],I #[y C c',y C r',D a',D b'],.pointer (some ⟨p,0,none⟩),.pointer (some ⟨q,0,none⟩)] u fun z w'=>z= H (K #[I #[y C (f c r a b).1,y C (f c r a b).2,D a,D b],I #[y C (g c' r' a' b').1,y C (g c' r' a' b').2,D a',D b']])/\Below u.heap.size u w'):=hM;have G4:Hid (∀(ax:Array Value) (W:World),(callFunc fn ax).run prog W= .ok (.enter fn ax) W):=hcf;clear h hkn hsm hM hcf;obtain⟨i0,hi,g2,g1,g0⟩:=info_parts MQ
 go_enter func122,ntmps122;go_wp2_with (refine wpList_make_full _ rfl _ _ 129 rfl w.heap.size 177 i0 _ 14 underlying129 hi g2 g1 _ _ _ _ n rfl rfl rfl rfl ?m1 ?m2 ?m3 ?_)
 case m1=>rw[g0];omega
 case m2=>unfold maxLen;omega
 case m3=>exact Nat.le_refl _
 intro w1 h0 hgrow;have H5:Below w.heap.size w w1:=(Below.refl _ _).grown hgrow (Nat.le_refl _) (fun k hk=>by cases hk);obtain⟨ys,h0⟩: ∃ys,w1.ownsRow w.heap.size 177 14 (E (some ⟨w.heap.size,0,none⟩) n n) n ys:=⟨_,h0⟩;clear hgrow;have HO:Hid (w1.ownsRow w.heap.size 177 14 (E (some ⟨w.heap.size,0,none⟩) n n) n ys):=h0;clear h0;go_wp2_with fail
 go_loopw [13] (fun i wr=> ∃t:Nat,t<=n/\i= y C t/\(∃ys,wr.ownsRow w.heap.size 177 14 (E (some ⟨w.heap.size,0,none⟩) n n) n ys/\FnPart wr (w.heap.size+1) ys (fun i=>QB f g (F i)) t/\Oo ys t)/\Below w.heap.size w wr) (fun i _=>n-(intOf i).toNat)
 case atStart=>exact⟨0,Nat.zero_le _,rfl,⟨ys,HO.out,fun j hj=>by omega,fun i j hi=>by omega⟩,H5⟩
 case round=>
  clear HO H5;obtain⟨t,ht,rfl,⟨ys,h0,h9,H0⟩,h5⟩:=hrel;have H7:Hid (Oo ys t):=H0;by_cases h6:t<n
  ·obtain⟨b,o,KA,kc,rfl,hl,H2,H3,hs,H4⟩:=HR.out.2 t h6;have G3:Hid (KA=none->kc=0):=H4;obtain⟨c0,c1,c2,c3,c4,c5,c6,c7,c8,c9,g8,g7,g6,g5⟩:=H2.below hl (W':=wr) h5;have G2:Hid (IntRow wr KA (F t).kids):=H3.below h5;have q0:(0:Int)<=(t:Int):=by omega
   have q1:(t:Int)<(n:Int):=by omega
   have HO:Hid (wr.ownsRow w.heap.size 177 14 (E (some ⟨w.heap.size,0,none⟩) n n) n ys):=h0;have HY:Hid (FnPart wr (w.heap.size+1) ys (fun i=>QB f g (F i)) t):=h9;have HB:Hid (Below w.heap.size w wr):=h5
   have G5:Hid (w.heap.size+1<=wr.heap.size):=by
    obtain⟨A',H1,e,_,hc⟩:=Qr h0;cases e
    obtain⟨g',e',_,g4,_⟩:=hc (t*14) (by omega);cases e'
    exact g4
   clear H0;clear h0 h9 h5 H3 H2 H4;go_wp2_with fail
   refine(impl_shiftedNodeX (F t) (f:=f) (g:=g) (KA:=KA) (kc:=kc) G4.out p q _ (fun c r a b c' r' a' b' h1 h2 h3 h4 u hu=>G0.out c r a b c' r' a' b' h1 h2 h3 h4 u (Qb HB.out (Qb (by go_grown) hu))) (g9.out t h6) G3.out (G2.out.below (by go_grown)) (G1.out t h6)).mono ?_;rintro z w2 ⟨KB,kb,rfl,hkb,hb⟩;obtain⟨x,HX⟩: ∃x,Hid ((QB f g (F t))=x):=⟨_,rfl⟩;rw[HX.out]at hkb ⊢;unfold Qov;have h7:Below wr.heap.size wr w2:=Qb (by go_grown) hb;have H8:Hid (w2.ownsRow (wr.heap.size+1) 2 1 (E KB x.kids.length kb) x.kids.length (x.kids.map (Value.int .i64))):=QU hkb (by simp)
   have h8:=hd (Qd HO.out h7);have H6:=hd (HY.out.below h7);have H9:=hd (Qb HB.out h7);obtain⟨A',H1,e,_,hc⟩:=Qr h8.out;cases e
   have g3:=h8.out.1
   have hx: ∀j,j<14-> ∃x,w2.cell? ⟨w.heap.size,t*14+j,none⟩=some x/\w2.frozen? ⟨w.heap.size,t*14+j,none⟩=false:=fun j hj=>by
    obtain⟨g',e',_,_,d,f⟩:=hc (t*14+j) (by omega);cases e'
    exact⟨_,d.trans (List.getElem?_eq_getElem (by omega)),f⟩
   obtain⟨x0,d0,f0⟩:=hx 0 (by omega);obtain⟨x1,d1,f1⟩:=hx 1 (by omega);obtain⟨x2,d2,f2⟩:=hx 2 (by omega);obtain⟨x3,d3,f3⟩:=hx 3 (by omega);obtain⟨x4,d4,f4⟩:=hx 4 (by omega);obtain⟨x5,d5,f5⟩:=hx 5 (by omega);obtain⟨x6,d6,f6⟩:=hx 6 (by omega)
   obtain⟨x7,d7,f7⟩:=hx 7 (by omega);obtain⟨x8,d8,f8⟩:=hx 8 (by omega);obtain⟨x9,d9,f9⟩:=hx 9 (by omega);obtain⟨x10,d10,f10⟩:=hx 10 (by omega);obtain⟨x11,d11,f11⟩:=hx 11 (by omega);obtain⟨x12,d12,f12⟩:=hx 12 (by omega);obtain⟨x13,d13,f13⟩:=hx 13 (by omega)
   rw[Nat.add_zero]at d0 f0;clear hx hc g3 hb hkb h7 c0 c1 c2 c3 c4 c5 c6 c7 c8 c9 g8 g7 g6 g5 HO HB;have HT:Hid (∃zs,((((((((((((((w2.setCell ⟨w.heap.size,t*14,none⟩ (y C (x.k))).setCell ⟨w.heap.size,t*14+1,none⟩ (y C (x.o))).setCell ⟨w.heap.size,t*14+2,none⟩ (y C (x.ck))).setCell ⟨w.heap.size,t*14+3,none⟩ (y C (x.cn))).setCell ⟨w.heap.size,t*14+4,none⟩ (J (x.cs))).setCell ⟨w.heap.size,t*14+5,none⟩ (y C (x.ac))).setCell ⟨w.heap.size,t*14+6,none⟩ (y C (x.ar))).setCell ⟨w.heap.size,t*14+7,none⟩ (D (x.af))).setCell ⟨w.heap.size,t*14+8,none⟩ (D (x.ag))).setCell ⟨w.heap.size,t*14+9,none⟩ (y C (x.bc))).setCell ⟨w.heap.size,t*14+10,none⟩ (y C (x.br))).setCell ⟨w.heap.size,t*14+11,none⟩ (D (x.bf))).setCell ⟨w.heap.size,t*14+12,none⟩ (D (x.bg))).setCell ⟨w.heap.size,t*14+13,none⟩ (E KB x.kids.length kb)).ownsRow w.heap.size 177 14 (E (some ⟨w.heap.size,0,none⟩) n n) n zs/\FnPart ((((((((((((((w2.setCell ⟨w.heap.size,t*14,none⟩ (y C (x.k))).setCell ⟨w.heap.size,t*14+1,none⟩ (y C (x.o))).setCell ⟨w.heap.size,t*14+2,none⟩ (y C (x.ck))).setCell ⟨w.heap.size,t*14+3,none⟩ (y C (x.cn))).setCell ⟨w.heap.size,t*14+4,none⟩ (J (x.cs))).setCell ⟨w.heap.size,t*14+5,none⟩ (y C (x.ac))).setCell ⟨w.heap.size,t*14+6,none⟩ (y C (x.ar))).setCell ⟨w.heap.size,t*14+7,none⟩ (D (x.af))).setCell ⟨w.heap.size,t*14+8,none⟩ (D (x.ag))).setCell ⟨w.heap.size,t*14+9,none⟩ (y C (x.bc))).setCell ⟨w.heap.size,t*14+10,none⟩ (y C (x.br))).setCell ⟨w.heap.size,t*14+11,none⟩ (D (x.bf))).setCell ⟨w.heap.size,t*14+12,none⟩ (D (x.bg))).setCell ⟨w.heap.size,t*14+13,none⟩ (E KB x.kids.length kb)) (w.heap.size+1) zs (fun i=>QB f g (F i)) (t+1)/\Oo zs (t+1)/\w2.grownBy ((((((((((((((w2.setCell ⟨w.heap.size,t*14,none⟩ (y C (x.k))).setCell ⟨w.heap.size,t*14+1,none⟩ (y C (x.o))).setCell ⟨w.heap.size,t*14+2,none⟩ (y C (x.ck))).setCell ⟨w.heap.size,t*14+3,none⟩ (y C (x.cn))).setCell ⟨w.heap.size,t*14+4,none⟩ (J (x.cs))).setCell ⟨w.heap.size,t*14+5,none⟩ (y C (x.ac))).setCell ⟨w.heap.size,t*14+6,none⟩ (y C (x.ar))).setCell ⟨w.heap.size,t*14+7,none⟩ (D (x.af))).setCell ⟨w.heap.size,t*14+8,none⟩ (D (x.ag))).setCell ⟨w.heap.size,t*14+9,none⟩ (y C (x.bc))).setCell ⟨w.heap.size,t*14+10,none⟩ (y C (x.br))).setCell ⟨w.heap.size,t*14+11,none⟩ (D (x.bf))).setCell ⟨w.heap.size,t*14+12,none⟩ (D (x.bg))).setCell ⟨w.heap.size,t*14+13,none⟩ (E KB x.kids.length kb)) (some w.heap.size)):=Qea (G:=(fun i=>QB f g (F i))) HX.out h8.out h6 H6.out H8.out HY.out (Nat.le_succ _) (Nat.le_trans G5.out (Nat.le_succ _)) H7.out;clear h8 H6 H8 HY H7;go_wp2_with fail
   all_goals
    go_roundw
    case rel=>
     obtain⟨zs,z1,z2,z4,z3⟩:=HT.out;exact⟨t+1,by omega,by simp,⟨zs,z1,z2,z4⟩,H9.out.grown z3 H9.out.size (fun k hk=>by cases hk;exact Nat.le_refl _)⟩
    case measure=>simp[intOf];omega
  ·have q1: ¬(t:Int)<(n:Int):=by omega
   obtain rfl:t=n:=by omega
   go_wp2_with fail
   go_ret;exact⟨rfl,ys,h0,h9,H0,h5⟩
theorem VU(d e:Int)(p q:Nat)(w:World)(hp:p<w.heap.size)(hq:q<w.heap.size)(cp:w.cell? ⟨p,0,none⟩=some (y C d))(cq:w.cell? ⟨q,0,none⟩=some (y C e))(hdq: -1000<=d/\d<=1000)(he: -1000<=e/\e<=1000)(h:FnRowS w A n F)(hn:n<=1048576)(hkn: ∀i,i<n->(F i).kids.length<=1048576)(hsm: ∀i,i<n->DU (F i)):
  Calls prog 122 #[E A n cap,.func (.func 126) #[] #[.pointer (some ⟨p,0,none⟩),.pointer (some ⟨q,0,none⟩)]] w fun z w'=> ∃ys,z= H (E (some ⟨w.heap.size,0,none⟩) n n)/\w'.ownsRow w.heap.size 177 14 (E (some ⟨w.heap.size,0,none⟩) n n) n ys/\FnPart w' (w.heap.size+1) ys (fun i=>QB (Qi d e) (Qh d e) (F i)) n/\Oo ys n/\Below w.heap.size w w':=
 impl_shiftedX cf_MovedBy p q w (mvr_MovedBy d e p q w hp hq cp cq hdq he) h hn hkn hsm
theorem Qaj(d e:Int)(p q:Nat)(w:World)(hp:p<w.heap.size)(hq:q<w.heap.size)(cp:w.cell? ⟨p,0,none⟩=some (y C d))(cq:w.cell? ⟨q,0,none⟩=some (y C e))(hdq: -1000<=d/\d<=1000)(he: -1000<=e/\e<=1000)(h:FnRowS w A n F)(hn:n<=1048576)(hkn: ∀i,i<n->(F i).kids.length<=1048576)(hsm: ∀i,i<n->DU (F i)):
  Calls prog 122 #[E A n cap,.func (.func 123) #[] #[.pointer (some ⟨p,0,none⟩),.pointer (some ⟨q,0,none⟩)]] w fun z w'=> ∃ys,z= H (E (some ⟨w.heap.size,0,none⟩) n n)/\w'.ownsRow w.heap.size 177 14 (E (some ⟨w.heap.size,0,none⟩) n n) n ys/\FnPart w' (w.heap.size+1) ys (fun i=>QB (Zw d e) (Zv d e) (F i)) n/\Oo ys n/\Below w.heap.size w w':=
 impl_shiftedX cf_Opened p q w (mvr_Opened d e p q w hp hq cp cq hdq he) h hn hkn hsm
theorem Qcl(d e:Int)(p q:Nat)(w:World)(hp:p<w.heap.size)(hq:q<w.heap.size)(cp:w.cell? ⟨p,0,none⟩=some (y C d))(cq:w.cell? ⟨q,0,none⟩=some (y C e))(hdq: -1000<=d/\d<=1000)(he: -1000<=e/\e<=1000)(h:FnRowS w A n F)(hn:n<=1048576)(hkn: ∀i,i<n->(F i).kids.length<=1048576)(hsm: ∀i,i<n->DU (F i)):
  Calls prog 122 #[E A n cap,.func (.func 124) #[] #[.pointer (some ⟨p,0,none⟩),.pointer (some ⟨q,0,none⟩)]] w fun z w'=> ∃ys,z= H (E (some ⟨w.heap.size,0,none⟩) n n)/\w'.ownsRow w.heap.size 177 14 (E (some ⟨w.heap.size,0,none⟩) n n) n ys/\FnPart w' (w.heap.size+1) ys (fun i=>QB (Zi d e) (Zh d e) (F i)) n/\Oo ys n/\Below w.heap.size w w':=
 impl_shiftedX cf_Closed p q w (mvr_Closed d e p q w hp hq cp cq hdq he) h hn hkn hsm
theorem Mc{c r:Int}(h:Qf c r=true):(-1000<=c/\c<=1000)/\(-1000<=r/\r<=1000):=by
 unfold Qf at h;have:=of_decide_eq_true h;omega
theorem Jb{a b c d:Int}(h:Ql a b c d=true):Qf a b=true/\Qf c d=true:=by
 unfold Ql at h;rw[Bool.and_eq_true,Bool.and_eq_true]at h;exact h.1
theorem Qiv(h:Qp x=true)(hk:x.k=2):Qf x.ac x.ar=true:=by
 unfold Qp QI at h;rw[nG (by omega),pS hk]at h;simp only[Bool.and_eq_true]at h;exact h.1.1.1.1
theorem Bw(h:Qp x=true)(hk:x.k=3):Ql x.ac x.ar x.bc x.br=true:=by
 unfold Qp QI at h;rw[nG (by omega),nG (by omega),pS hk]at h;simp only[Bool.and_eq_true]at h;exact h.1.1.1
theorem Vo(h:Qp x=true):DU x:=by
 refine⟨fun hk=> ?_,fun hk=> ?_⟩
 ·rcases hk with hk | hk
  ·exact Mc (Qiv h hk)
  ·exact Mc (Jb (Bw h hk)).1
 ·exact Mc (Jb (Bw h hk)).2
theorem Ja(c r:Int):Ql c r c r=Qf c r:=by
 unfold Ql;cases Qf c r<;>simp
theorem Xv{o ck cn:Int}{cs:ByteArray}{ac ar:Int}{af ag:Bool}{bc br:Int}{bf bg:Bool}{kids:List Int}(c r:Int)(h:Qp ⟨2,o,ck,cn,cs,ac,ar,af,ag,bc,br,bf,bg,kids⟩=true):Qp ⟨2,o,ck,cn,cs,c,r,af,ag,bc,br,bf,bg,kids⟩=Qf c r:=by
 unfold Qp QI at h ⊢;rw[nG (by show¬(2:Int)=1;decide),pS rfl]at h ⊢;simp only[Bool.and_eq_true]at h;obtain⟨⟨⟨⟨h1,h2⟩,h3⟩,h4⟩,h5⟩:=h;simp only[h2,h3,h4,h5,Bool.and_true]
theorem Xw{o ck cn:Int}{cs:ByteArray}{ac ar:Int}{af ag:Bool}{bc br:Int}{bf bg:Bool}{kids:List Int}(a b c d:Int)(h:Qp ⟨3,o,ck,cn,cs,ac,ar,af,ag,bc,br,bf,bg,kids⟩=true):Qp ⟨3,o,ck,cn,cs,a,b,af,ag,c,d,bf,bg,kids⟩=Ql a b c d:=by
 unfold Qp QI at h ⊢;rw[nG (by show¬(3:Int)=1;decide),nG (by show¬(3:Int)=2;decide),pS rfl]at h ⊢;simp only[Bool.and_eq_true]at h;obtain⟨⟨⟨h1,h2⟩,h3⟩,h4⟩:=h;simp only[h2,h3,h4,Bool.and_true]
theorem JN(h:Zb F n=true): ∀i,i<n->Qp (F i)=true:=by
 unfold Zb MN at h;simp only[Bool.and_eq_true,List.all_eq_true,List.mem_range]at h;exact h.1.1.1.2
theorem Mp{e e':TypeId}{s s' n':Nat}{v v':Value}{xs xs':List Value}(h:W.ownsRow B e s v n xs)(h':W.ownsRow B' e' s' v' n' xs')(hne:e≠e'):v.ownBlock=none\/v.ownBlock≠v'.ownBlock:=by
 rcases h.2 with⟨rfl,_⟩ | ⟨g,cap,cur,rfl,_,hg,_⟩
 ·exact N rfl
 ·right
  rcases h'.2 with⟨rfl,_⟩ | ⟨g',cap',cur',rfl,_,hg',_⟩
  ·intro e;cases e
  ·intro e9;cases e9
   rw[hg]at hg';cases hg'
   exact hne rfl
theorem Zp{W3:World}{k:Nat}{v:Value}{G:Nat->FN}{KB:Option Addr}{kb:Nat}(hx:G k=x)(hW:W.ownsRow B 177 14 v k ys)(hp:FnPart W B ys G k)
  (hk:W.ownsRow B 2 1 (E KB x.kids.length kb) x.kids.length (x.kids.map (Value.int .i64))) (hg:W.grownBy W3 v.ownBlock):FnPart W3 B (ys++Qx x KB kb) G (k+1):=by
 subst hx;have hl:=hW.1;intro i hi;by_cases e:i=k
 ·subst e;exact⟨KB,kb,fun j hj=>by rw[List.getElem?_append_right (by omega),show i*14+j-ys.length=j by omega],hk.kept hg (Mp hk hW (by decide))⟩
 ·obtain⟨KA,kc,h1,h2⟩:=hp i (by omega);exact⟨KA,kc,fun j hj=>by rw[List.getElem?_append_left (by omega)];exact h1 j hj,h2.kept hg (Mp h2 hW (by decide))⟩
def Hd(d e:Int):Bool:=decide (-52<=d/\d<=52)&&decide (-99<=e/\e<=99)
def Yf(d e:Int):Bool:=decide (1<=d/\d<=99)&&decide (1<=e/\e<=99)
def Qj9(d e:Int):Bool:=decide (1<=d/\d<=99)&&decide (1<=e/\e<=99)
theorem UO(d e:Int)(w:World)(h:FnRowS w A n F)(hn:n<=1048576)(hkn: ∀i,i<n->(F i).kids.length<=1048576)(hft:FT w)(ho:(Zb F n&&Hd d e)=true):
  Calls prog 92 #[E A n cap,y C d,y C e] w fun z w'=> ∃g ys,z= H (K #[E (some ⟨g,0,none⟩) n n,D true])/\w.heap.size<=g/\w'.ownsRow g 177 14 (E (some ⟨g,0,none⟩) n n) n ys/\FnPart w' (g+1) ys (fun i=>QB (Qi d e) (Qh d e) (F i)) n/\Oo ys n/\Below w.heap.size w w':=by
 have HR:Hid (FnRowS w A n F):=h;have h5:Hid (∀i,i<n->(F i).kids.length<=1048576):=hkn;have H0:Hid (FT w):=hft;clear h hkn hft;rw[Bool.and_eq_true]at ho;have HO:Hid (Zb F n=true):=ho.1;have h9:Hid (∀i,i<n->DU (F i)):=fun i hi=>Vo (JN ho.1 i hi)
 have h0:=ho.2;unfold Hd at h0;rw[Bool.and_eq_true]at h0;have HD:Hid (decide (-52<=d/\d<=52)=true):=h0.1;have HE:Hid (decide (-99<=e/\e<=99)=true):=h0.2;have hdq:=of_decide_eq_true h0.1;have he:=of_decide_eq_true h0.2
 have h8: -1000<=d/\d<=1000:=by omega
 have h7: -1000<=e/\e<=1000:=by omega
 clear ho h0;go_enter func92,ntmps92
 go_wp2_with (first
  | (go_at_call 120;refine(YU _ (HR.out.row.below (by go_grown)) (by omega) h5.out (H0.out.below (by go_grown))).mono ?_;rintro z w1 ⟨rfl,hb⟩;rw[HO.out];obtain⟨hc,hf,hC,hF,hz,hk,l0,l1⟩:=bk2 (w:=w) hb;have x0:w1.cell? ⟨w.heap.size,0,none⟩=some (y C d):=(by simp (maxDischargeDepth:=9) [go_sem, *]);have x1:w1.cell? ⟨w.heap.size+1,0,none⟩=some (y C e):=(by simp (maxDischargeDepth:=9) [go_sem, *]);clear hb hc hf hC hF)
  | (go_at_call 125;refine(DJ _ _ _ (by omega) (by omega)).mono ?_;rintro z w1 ⟨rfl,hb⟩;(first | rw[HD.out] | rw[HE.out]);obtain⟨hc,hf,hC,hF,hz,hk,l0,l1⟩:=bk2 (w:=w) hb;have x0:w1.cell? ⟨w.heap.size,0,none⟩=some (y C d):=(by simp (maxDischargeDepth:=9) [go_sem, *]);have x1:w1.cell? ⟨w.heap.size+1,0,none⟩=some (y C e):=(by simp (maxDischargeDepth:=9) [go_sem, *]);clear hb hc hf hC hF))
 refine(VU d e w.heap.size (w.heap.size+1) _ l0 l1 x0 x1 h8 h7 (HR.out.below hk) hn h5.out h9.out).mono ?_;rintro z w2 ⟨ys,rfl,ho,hp,hkd,hb⟩;have h6:=hd (Qb hk hb);have h4:Hid (w.heap.size<=w1.heap.size):=hk.size;have h3:Hid (w2.ownsRow w1.heap.size 177 14 (E (some ⟨w1.heap.size,0,none⟩) n n) n ys):=ho;have h2:Hid (FnPart w2 (w1.heap.size+1) ys (fun i=>QB (Qi d e) (Qh d e) (F i)) n):=hp;have h1:Hid (Oo ys n):=hkd
 clear ho hp hkd hb;go_wp2_with fail
 refine L (v:= K #[E (some ⟨w1.heap.size,0,none⟩) n n,D true]) ?_ rfl (by first | exact⟨_,_,rfl,h4.out,h3.out,h2.out,h1.out,h6.out⟩ | exact⟨_,rfl,h4.out,_,h3.out,h2.out,h1.out,h6.out⟩);simp (maxDischargeDepth:=9) [M,results92,go_sem, *]
theorem Qim(d e:Int)(w:World)(h:FnRowS w A n F)(hn:n<=1048576)(hkn: ∀i,i<n->(F i).kids.length<=1048576)(hft:FT w)(ho:(Zb F n&&Yf d e)=true):
  Calls prog 84 #[E A n cap,y C d,y C e] w fun z w'=> ∃g ys,z= H (K #[E (some ⟨g,0,none⟩) n n,D true])/\w.heap.size<=g/\w'.ownsRow g 177 14 (E (some ⟨g,0,none⟩) n n) n ys/\FnPart w' (g+1) ys (fun i=>QB (Zw d e) (Zv d e) (F i)) n/\Oo ys n/\Below w.heap.size w w':=by
 have HR:Hid (FnRowS w A n F):=h;have h5:Hid (∀i,i<n->(F i).kids.length<=1048576):=hkn;have H0:Hid (FT w):=hft;clear h hkn hft;rw[Bool.and_eq_true]at ho;have HO:Hid (Zb F n=true):=ho.1;have h9:Hid (∀i,i<n->DU (F i)):=fun i hi=>Vo (JN ho.1 i hi)
 have h0:=ho.2;unfold Yf at h0;rw[Bool.and_eq_true]at h0;have HD:Hid (decide (1<=d/\d<=99)=true):=h0.1;have HE:Hid (decide (1<=e/\e<=99)=true):=h0.2;have hdq:=of_decide_eq_true h0.1;have he:=of_decide_eq_true h0.2
 have h8: -1000<=d/\d<=1000:=by omega
 have h7: -1000<=e/\e<=1000:=by omega
 clear ho h0;go_enter func84,ntmps84
 go_wp2_with (first
  | (go_at_call 120;refine(YU _ (HR.out.row.below (by go_grown)) (by omega) h5.out (H0.out.below (by go_grown))).mono ?_;rintro z w1 ⟨rfl,hb⟩;rw[HO.out];obtain⟨hc,hf,hC,hF,hz,hk,l0,l1⟩:=bk2 (w:=w) hb;have x0:w1.cell? ⟨w.heap.size,0,none⟩=some (y C d):=(by simp (maxDischargeDepth:=9) [go_sem, *]);have x1:w1.cell? ⟨w.heap.size+1,0,none⟩=some (y C e):=(by simp (maxDischargeDepth:=9) [go_sem, *]);clear hb hc hf hC hF)
  | (go_at_call 121;refine(Bh _ _).mono ?_;rintro z w1 ⟨rfl,hb⟩;(first | rw[HD.out] | rw[HE.out]);obtain⟨hc,hf,hC,hF,hz,hk,l0,l1⟩:=bk2 (w:=w) hb;have x0:w1.cell? ⟨w.heap.size,0,none⟩=some (y C d):=(by simp (maxDischargeDepth:=9) [go_sem, *]);have x1:w1.cell? ⟨w.heap.size+1,0,none⟩=some (y C e):=(by simp (maxDischargeDepth:=9) [go_sem, *]);clear hb hc hf hC hF))
 refine(Qaj d e w.heap.size (w.heap.size+1) _ l0 l1 x0 x1 h8 h7 (HR.out.below hk) hn h5.out h9.out).mono ?_;rintro z w2 ⟨ys,rfl,ho,hp,hkd,hb⟩;have h6:=hd (Qb hk hb);have h4:Hid (w.heap.size<=w1.heap.size):=hk.size;have h3:Hid (w2.ownsRow w1.heap.size 177 14 (E (some ⟨w1.heap.size,0,none⟩) n n) n ys):=ho;have h2:Hid (FnPart w2 (w1.heap.size+1) ys (fun i=>QB (Zw d e) (Zv d e) (F i)) n):=hp;have h1:Hid (Oo ys n):=hkd
 clear ho hp hkd hb;go_wp2_with fail
 refine L (v:= K #[E (some ⟨w1.heap.size,0,none⟩) n n,D true]) ?_ rfl (by first | exact⟨_,_,rfl,h4.out,h3.out,h2.out,h1.out,h6.out⟩ | exact⟨_,rfl,h4.out,_,h3.out,h2.out,h1.out,h6.out⟩);simp (maxDischargeDepth:=9) [M,results84,go_sem, *]
theorem Qiw(d e:Int)(w:World)(h:FnRowS w A n F)(hn:n<=1048576)(hkn: ∀i,i<n->(F i).kids.length<=1048576)(hft:FT w)(ho:(Zb F n&&Qj9 d e)=true):
  Calls prog 88 #[E A n cap,y C d,y C e] w fun z w'=> ∃g ys,z= H (K #[E (some ⟨g,0,none⟩) n n,D true])/\w.heap.size<=g/\w'.ownsRow g 177 14 (E (some ⟨g,0,none⟩) n n) n ys/\FnPart w' (g+1) ys (fun i=>QB (Zi d e) (Zh d e) (F i)) n/\Oo ys n/\Below w.heap.size w w':=by
 have HR:Hid (FnRowS w A n F):=h;have h5:Hid (∀i,i<n->(F i).kids.length<=1048576):=hkn;have H0:Hid (FT w):=hft;clear h hkn hft;rw[Bool.and_eq_true]at ho;have HO:Hid (Zb F n=true):=ho.1;have h9:Hid (∀i,i<n->DU (F i)):=fun i hi=>Vo (JN ho.1 i hi)
 have h0:=ho.2;unfold Qj9 at h0;rw[Bool.and_eq_true]at h0;have HD:Hid (decide (1<=d/\d<=99)=true):=h0.1;have HE:Hid (decide (1<=e/\e<=99)=true):=h0.2;have hdq:=of_decide_eq_true h0.1;have he:=of_decide_eq_true h0.2
 have h8: -1000<=d/\d<=1000:=by omega
 have h7: -1000<=e/\e<=1000:=by omega
 clear ho h0;go_enter func88,ntmps88
 go_wp2_with (first
  | (go_at_call 120;refine(YU _ (HR.out.row.below (by go_grown)) (by omega) h5.out (H0.out.below (by go_grown))).mono ?_;rintro z w1 ⟨rfl,hb⟩;rw[HO.out];obtain⟨hc,hf,hC,hF,hz,hk,l0,l1⟩:=bk2 (w:=w) hb;have x0:w1.cell? ⟨w.heap.size,0,none⟩=some (y C d):=(by simp (maxDischargeDepth:=9) [go_sem, *]);have x1:w1.cell? ⟨w.heap.size+1,0,none⟩=some (y C e):=(by simp (maxDischargeDepth:=9) [go_sem, *]);clear hb hc hf hC hF)
  | (go_at_call 121;refine(Bh _ _).mono ?_;rintro z w1 ⟨rfl,hb⟩;(first | rw[HD.out] | rw[HE.out]);obtain⟨hc,hf,hC,hF,hz,hk,l0,l1⟩:=bk2 (w:=w) hb;have x0:w1.cell? ⟨w.heap.size,0,none⟩=some (y C d):=(by simp (maxDischargeDepth:=9) [go_sem, *]);have x1:w1.cell? ⟨w.heap.size+1,0,none⟩=some (y C e):=(by simp (maxDischargeDepth:=9) [go_sem, *]);clear hb hc hf hC hF))
 refine(Qcl d e w.heap.size (w.heap.size+1) _ l0 l1 x0 x1 h8 h7 (HR.out.below hk) hn h5.out h9.out).mono ?_;rintro z w2 ⟨ys,rfl,ho,hp,hkd,hb⟩;have h6:=hd (Qb hk hb);have h4:Hid (w.heap.size<=w1.heap.size):=hk.size;have h3:Hid (w2.ownsRow w1.heap.size 177 14 (E (some ⟨w1.heap.size,0,none⟩) n n) n ys):=ho;have h2:Hid (FnPart w2 (w1.heap.size+1) ys (fun i=>QB (Zi d e) (Zh d e) (F i)) n):=hp;have h1:Hid (Oo ys n):=hkd
 clear ho hp hkd hb;go_wp2_with fail
 refine L (v:= K #[E (some ⟨w1.heap.size,0,none⟩) n n,D true]) ?_ rfl (by first | exact⟨_,_,rfl,h4.out,h3.out,h2.out,h1.out,h6.out⟩ | exact⟨_,rfl,h4.out,_,h3.out,h2.out,h1.out,h6.out⟩);simp (maxDischargeDepth:=9) [M,results88,go_sem, *]
theorem Qfb(f g:Xy)(h2: ¬x.k=2)(h3: ¬x.k=3):QB f g x=x:=by
 unfold QB;rw[nG h2,nG h3]
theorem Qcu(h:Qp x=true)(hk:x.k=2\/x.k=3):x.kids= []:=by
 unfold Qp QI at h;rcases hk with hk | hk
 ·rw[nG (by omega),pS hk]at h;simp only[Bool.and_eq_true,decide_eq_true_eq]at h;exact List.length_eq_zero_iff.1 h.2
 ·rw[nG (by omega),nG (by omega),pS hk]at h;simp only[Bool.and_eq_true,decide_eq_true_eq]at h;exact List.length_eq_zero_iff.1 h.2
theorem Qpj(f g:Xy)(h:Qp x=true):(QB f g x).kids=x.kids:=by
 by_cases h2:x.k=2
 ·have e:=Qcu h (N h2);unfold QB;rw[pS h2];split
  ·rfl
  ·rw[e];rfl
 by_cases h3:x.k=3
 ·have e:=Qcu h (Or.inr h3);unfold QB;rw[nG h2,pS h3];split
  ·rfl
  ·rw[e];rfl
 rw[Qfb f g h2 h3]
theorem Qj3(f g:Xy)(x:FN)(h:x.cs.size<=maxLen):(QB f g x).cs.size<=maxLen:=by
 by_cases h2:x.k=2
 ·unfold QB;rw[pS h2];split
  ·exact h
  ·exact Nat.zero_le _
 by_cases h3:x.k=3
 ·unfold QB;rw[nG h2,pS h3];split
  ·exact h
  ·exact Nat.zero_le _
 rw[Qfb f g h2 h3];exact h
end Go.Proofs.YtomadadmakdkgaaGreatDoor
