import Derived.Test.YtomadadmakdkgaaGreatDoorMn
import Derived.Test.YtomadadmakdkgaaGreatDoorGmv
open Go.Proofs.Tryz
open Go.Value renaming int → a, bool → i, slice → j, string → m, int → s, agg → y
open Go.IntKind renaming i64 → b
open Go renaming bodyPost_ret → n, results → A, World → C, Calls → D, Addr → G
open Go.RowKit renaming ownsRow_setCell_below → t, Below → E
open Go.Ending renaming returned → u
open Nat renaming le_refl → F
open Or renaming inl → H
open Go.RowKit.Below renaming refl → I
set_option linter.unusedSimpArgs false
set_option linter.unusedVariables false
set_option maxHeartbeats 4000000
namespace Go.Proofs.YtomadadmakdkgaaGreatDoor
open Go.RowKit
variable {KA:Option G} {kc:Nat} {l:List Int}
theorem XC(o ck cn:Int)(cs:ByteArray)(ac ar:Int)(af ag:Bool)(bc br:Int)(bf bg:Bool)(d e:Int)(p q:Nat)(w:C)(hp:p<w.heap.size)(hq:q<w.heap.size)(cp:w.cell? ⟨p,0,none⟩=some (a b d))(cq:w.cell? ⟨q,0,none⟩=some (a b e))(hac: -1000<=ac/\ac<=1000)(har: -1000<=ar/\ar<=1000)(hd: -1000<=d/\d<=1000)(he: -1000<=e/\e<=1000)
  (hA:Ql (mvI af ac d) (mvI ag ar e) (mvI af ac d) (mvI ag ar e)=true) (h0:KA=none->kc=0) (hi:IntRow w KA l) (hn:l.length<=1048576):
  D prog 160 #[y #[a b 2,a b o,a b ck,a b cn,m cs,a b ac,a b ar,i af,i ag,a b bc,a b br,i bf,i bg,j KA l.length kc],.func (.func 126) #[] #[.pointer (some ⟨p,0,none⟩),.pointer (some ⟨q,0,none⟩)]] w fun z w'=> ∃KB kb,z= u (y #[a b 2,a b o,a b ck,a b cn,m cs,a b (mvI af ac d),a b (mvI ag ar e),i af,i ag,a b bc,a b br,i bf,i bg,j KB l.length kb])/\w'.ownsRow w.heap.size 2 1 (j KB l.length kb) l.length (l.map (s .i64))/\E w.heap.size w w':=by
 have HA:Hid (Ql (mvI af ac d) (mvI ag ar e) (mvI af ac d) (mvI ag ar e)=true):=hA;clear hA;have HI:Hid (IntRow w KA l):=hi;have HN:Hid (l.length<=1048576):=hn;have HK:Hid (KA=none->kc=0):=h0;clear hi hn h0;go_enter func160,ntmps160
 go_wp2_with (first
  | (go_at_call 126;refine(YT _ _ _ _ _ _ _ _ d e p q _ (ltB (by go_grown) hp) (ltB (by go_grown) hq) (Uw (by go_grown) hp cp) (Uw (by go_grown) hq cq) hac har hac har hd he).mono ?_;rintro z wA ⟨rfl,hb⟩;obtain⟨hc,hf,hC,hF,hz,hk,l0,l1⟩:=bk2 (w:=w) hb;clear hb)
  | (go_at_call 187;refine(YV _ _ _ _ true _ HA.out).mono ?_;rintro z wB ⟨rfl,hb⟩;obtain⟨h1,hfB,h2,hFB,hzB,hkB,lB0,lB1⟩:=bk2 (w:=w) hb;have x0:wB.cell? ⟨w.heap.size,0,none⟩=some (a b 2):=(by simp (maxDischargeDepth:=9) [go_sem, *]);have x1:wB.cell? ⟨w.heap.size,1,none⟩=some (a b o):=(by simp (maxDischargeDepth:=9) [go_sem, *]);have x2:wB.cell? ⟨w.heap.size,2,none⟩=some (a b ck):=(by simp (maxDischargeDepth:=9) [go_sem, *]);have x3:wB.cell? ⟨w.heap.size,3,none⟩=some (a b cn):=(by simp (maxDischargeDepth:=9) [go_sem, *]);have x4:wB.cell? ⟨w.heap.size,4,none⟩=some (m cs):=(by simp (maxDischargeDepth:=9) [go_sem, *]);have x5:wB.cell? ⟨w.heap.size,5,none⟩=some (a b ac):=(by simp (maxDischargeDepth:=9) [go_sem, *]);have x6:wB.cell? ⟨w.heap.size,6,none⟩=some (a b ar):=(by simp (maxDischargeDepth:=9) [go_sem, *]);have x7:wB.cell? ⟨w.heap.size,7,none⟩=some (i af):=(by simp (maxDischargeDepth:=9) [go_sem, *]);have x8:wB.cell? ⟨w.heap.size,8,none⟩=some (i ag):=(by simp (maxDischargeDepth:=9) [go_sem, *]);have x9:wB.cell? ⟨w.heap.size,9,none⟩=some (a b bc):=(by simp (maxDischargeDepth:=9) [go_sem, *]);have x10:wB.cell? ⟨w.heap.size,10,none⟩=some (a b br):=(by simp (maxDischargeDepth:=9) [go_sem, *]);have x11:wB.cell? ⟨w.heap.size,11,none⟩=some (i bf):=(by simp (maxDischargeDepth:=9) [go_sem, *]);have x12:wB.cell? ⟨w.heap.size,12,none⟩=some (i bg):=(by simp (maxDischargeDepth:=9) [go_sem, *]);have x13:wB.cell? ⟨w.heap.size,13,none⟩=some (j KA l.length kc):=(by simp (maxDischargeDepth:=9) [go_sem, *]);have z0:wB.cell? ⟨w.heap.size+1,0,none⟩=some (a b 0):=(by simp (maxDischargeDepth:=9) [go_sem, *]);have z1:wB.cell? ⟨w.heap.size+1,1,none⟩=some (a b 0):=(by simp (maxDischargeDepth:=9) [go_sem, *]);have z2:wB.cell? ⟨w.heap.size+1,2,none⟩=some (a b 0):=(by simp (maxDischargeDepth:=9) [go_sem, *]);have z3:wB.cell? ⟨w.heap.size+1,3,none⟩=some (a b 0):=(by simp (maxDischargeDepth:=9) [go_sem, *]);have z4:wB.cell? ⟨w.heap.size+1,4,none⟩=some (m ⟨#[]⟩):=(by simp (maxDischargeDepth:=9) [go_sem, *]);have z5:wB.cell? ⟨w.heap.size+1,5,none⟩=some (a b 0):=(by simp (maxDischargeDepth:=9) [go_sem, *]);have z6:wB.cell? ⟨w.heap.size+1,6,none⟩=some (a b 0):=(by simp (maxDischargeDepth:=9) [go_sem, *]);have z7:wB.cell? ⟨w.heap.size+1,7,none⟩=some (i false):=(by simp (maxDischargeDepth:=9) [go_sem, *]);have z8:wB.cell? ⟨w.heap.size+1,8,none⟩=some (i false):=(by simp (maxDischargeDepth:=9) [go_sem, *]);have z9:wB.cell? ⟨w.heap.size+1,9,none⟩=some (a b 0):=(by simp (maxDischargeDepth:=9) [go_sem, *]);have z10:wB.cell? ⟨w.heap.size+1,10,none⟩=some (a b 0):=(by simp (maxDischargeDepth:=9) [go_sem, *]);have z11:wB.cell? ⟨w.heap.size+1,11,none⟩=some (i false):=(by simp (maxDischargeDepth:=9) [go_sem, *]);have z12:wB.cell? ⟨w.heap.size+1,12,none⟩=some (i false):=(by simp (maxDischargeDepth:=9) [go_sem, *]);have z13:wB.cell? ⟨w.heap.size+1,13,none⟩=some (j none 0 0):=(by simp (maxDischargeDepth:=9) [go_sem, *]);have t0:wB.cell? ⟨wA.heap.size,0,none⟩=some (a b (mvI af ac d)):=(by simp (maxDischargeDepth:=9) [go_sem, *]);have t1:wB.cell? ⟨wA.heap.size,1,none⟩=some (a b (mvI ag ar e)):=(by simp (maxDischargeDepth:=9) [go_sem, *]);have t2:wB.cell? ⟨wA.heap.size,2,none⟩=some (i af):=(by simp (maxDischargeDepth:=9) [go_sem, *]);have t3:wB.cell? ⟨wA.heap.size,3,none⟩=some (i ag):=(by simp (maxDischargeDepth:=9) [go_sem, *]);clear hb h1 h2)
  | (at_builtin;refine Vb _ rfl _ _ rfl (j none 0 0) rfl (w.heap.size+2) ?kb ?kn rfl HK.out ?ki HN.out ?_))
 case kb=>go_size
 case kn=>exact⟨rfl,H ⟨rfl,rfl⟩⟩
 case ki=>exact HI.out.below (by go_grown)
 intro KB kb w9 hown hgrow;have HO:Hid (w9.ownsRow (w.heap.size+2) 2 1 (j KB l.length kb) l.length (l.map (s .i64))):=hown;have hb:=(I _ _).grown hgrow (F _) (fun k hk=>by cases hk);obtain⟨hc9,hf9,hC9,hF9,hz9,hk9,m0,m1⟩:=bk2 (w:=w) hb;clear hgrow hb hown;go_wp2_with fail
 refine n (v:= y #[a b 2,a b o,a b ck,a b cn,m cs,a b (mvI af ac d),a b (mvI ag ar e),i af,i ag,a b bc,a b br,i bf,i bg,j KB l.length kb]) ?_ rfl ⟨_,_,rfl,?_,by go_grown⟩
 ·simp (maxDischargeDepth:=9) [A,results160,go_sem, *]
 ·refine QU (B:=w.heap.size+2) ?_ (by omega);repeat (refine t ?_ (by simp) _)
  exact HO.out
theorem XO(o ck cn:Int)(cs:ByteArray)(ac ar:Int)(af ag:Bool)(bc br:Int)(bf bg:Bool)(d e:Int)(p q:Nat)(w:C)(hp:p<w.heap.size)(hq:q<w.heap.size)(cp:w.cell? ⟨p,0,none⟩=some (a b d))(cq:w.cell? ⟨q,0,none⟩=some (a b e))(hac: -1000<=ac/\ac<=1000)(har: -1000<=ar/\ar<=1000)(hd: -1000<=d/\d<=1000)(he: -1000<=e/\e<=1000)
  (hA:Ql (mvI af ac d) (mvI ag ar e) (mvI af ac d) (mvI ag ar e)=false) (h0:KA=none->kc=0) (hi:IntRow w KA l) (hn:l.length<=1048576):
  D prog 160 #[y #[a b 2,a b o,a b ck,a b cn,m cs,a b ac,a b ar,i af,i ag,a b bc,a b br,i bf,i bg,j KA l.length kc],.func (.func 126) #[] #[.pointer (some ⟨p,0,none⟩),.pointer (some ⟨q,0,none⟩)]] w fun z w'=>z= u (y #[a b 1,a b 0,a b 4,a b 3,m ⟨#[]⟩,a b 0,a b 0,i false,i false,a b 0,a b 0,i false,i false,j none 0 0])/\E w.heap.size w w':=by
 have HA:Hid (Ql (mvI af ac d) (mvI ag ar e) (mvI af ac d) (mvI ag ar e)=false):=hA;clear hA;have HI:Hid (IntRow w KA l):=hi;have HN:Hid (l.length<=1048576):=hn;have HK:Hid (KA=none->kc=0):=h0;clear hi hn h0;go_enter func160,ntmps160
 go_wp2_with (first
  | (go_at_call 126;refine(YT _ _ _ _ _ _ _ _ d e p q _ (ltB (by go_grown) hp) (ltB (by go_grown) hq) (Uw (by go_grown) hp cp) (Uw (by go_grown) hq cq) hac har hac har hd he).mono ?_;rintro z w1 ⟨rfl,hb⟩;obtain⟨hc,hf,hC,hF,hz,hk,l0,l1⟩:=bk2 (w:=w) hb;clear hb)
  | (go_at_call 187;refine(YV _ _ _ _ false _ HA.out).mono ?_;rintro z w1 ⟨rfl,hb⟩;obtain⟨hc,hf,hC,hF,hz,hk,l0,l1⟩:=bk2 (w:=w) hb;clear hb)
  | (go_at_call 192;refine(Hz _).mono ?_;rintro z w1 ⟨rfl,hb⟩;obtain⟨hc,hf,hC,hF,hz,hk,l0,l1⟩:=bk2 (w:=w) hb;clear hb))
 refine n (v:= y #[a b 1,a b 0,a b 4,a b 3,m ⟨#[]⟩,a b 0,a b 0,i false,i false,a b 0,a b 0,i false,i false,j none 0 0]) ?_ rfl ⟨rfl,by go_grown⟩;simp (maxDischargeDepth:=9) [A,results160,go_sem, *]
theorem XD(o ck cn:Int)(cs:ByteArray)(ac ar:Int)(af ag:Bool)(bc br:Int)(bf bg:Bool)(d e:Int)(p q:Nat)(w:C)(hp:p<w.heap.size)(hq:q<w.heap.size)(cp:w.cell? ⟨p,0,none⟩=some (a b d))(cq:w.cell? ⟨q,0,none⟩=some (a b e))(hac: -1000<=ac/\ac<=1000)(har: -1000<=ar/\ar<=1000)(hbc: -1000<=bc/\bc<=1000)(hbr: -1000<=br/\br<=1000)(hd: -1000<=d/\d<=1000)(he: -1000<=e/\e<=1000)
  (hA:Ql (mvI af ac d) (mvI ag ar e) (mvI bf bc d) (mvI bg br e)=true) (h0:KA=none->kc=0) (hi:IntRow w KA l) (hn:l.length<=1048576):
  D prog 160 #[y #[a b 3,a b o,a b ck,a b cn,m cs,a b ac,a b ar,i af,i ag,a b bc,a b br,i bf,i bg,j KA l.length kc],.func (.func 126) #[] #[.pointer (some ⟨p,0,none⟩),.pointer (some ⟨q,0,none⟩)]] w fun z w'=> ∃KB kb,z= u (y #[a b 3,a b o,a b ck,a b cn,m cs,a b (mvI af ac d),a b (mvI ag ar e),i af,i ag,a b (mvI bf bc d),a b (mvI bg br e),i bf,i bg,j KB l.length kb])/\w'.ownsRow w.heap.size 2 1 (j KB l.length kb) l.length (l.map (s .i64))/\E w.heap.size w w':=by
 have HA:Hid (Ql (mvI af ac d) (mvI ag ar e) (mvI bf bc d) (mvI bg br e)=true):=hA;clear hA;have HI:Hid (IntRow w KA l):=hi;have HN:Hid (l.length<=1048576):=hn;have HK:Hid (KA=none->kc=0):=h0;clear hi hn h0;go_enter func160,ntmps160
 go_wp2_with (first
  | (go_at_call 126;refine(YT _ _ _ _ _ _ _ _ d e p q _ (ltB (by go_grown) hp) (ltB (by go_grown) hq) (Uw (by go_grown) hp cp) (Uw (by go_grown) hq cq) hac har hbc hbr hd he).mono ?_;rintro z w1 ⟨rfl,hb⟩;obtain⟨hc,hf,hC,hF,hz,hk,l0,l1⟩:=bk2 (w:=w) hb;clear hb)
  | (go_at_call 188;refine(Xm _ _ _ _ _ _ _ _ _ _ _ _ _).mono ?_;rintro z w1 ⟨rfl,hb⟩;obtain⟨hc,hf,hC,hF,hz,hk,l0,l1⟩:=bk2 (w:=w) hb;clear hb)
  | (go_at_call 187;refine(YV _ _ _ _ true _ HA.out).mono ?_;rintro z w1 ⟨rfl,hb⟩;obtain⟨hc,hf,hC,hF,hz,hk,l0,l1⟩:=bk2 (w:=w) hb;clear hb)
  | (at_builtin;refine Vb _ rfl _ _ rfl (j none 0 0) rfl (w.heap.size+2) ?kb ?kn rfl HK.out ?ki HN.out ?_))
 case kb=>go_size
 case kn=>exact⟨rfl,H ⟨rfl,rfl⟩⟩
 case ki=>exact HI.out.below (by go_grown)
 intro KB kb w9 hown hgrow;have HO:Hid (w9.ownsRow (w.heap.size+2) 2 1 (j KB l.length kb) l.length (l.map (s .i64))):=hown;have hb:=(I _ _).grown hgrow (F _) (fun k hk=>by cases hk);obtain⟨hc9,hf9,hC9,hF9,hz9,hk9,m0,m1⟩:=bk2 (w:=w) hb;clear hgrow hb hown;go_wp2_with fail
 refine n (v:= y #[a b 3,a b o,a b ck,a b cn,m cs,a b (mvI af ac d),a b (mvI ag ar e),i af,i ag,a b (mvI bf bc d),a b (mvI bg br e),i bf,i bg,j KB l.length kb]) ?_ rfl ⟨_,_,rfl,?_,by go_grown⟩
 ·simp (maxDischargeDepth:=9) [A,results160,go_sem, *]
 ·refine QU (B:=w.heap.size+2) ?_ (by omega);repeat (refine t ?_ (by simp) _)
  exact HO.out
theorem XP(o ck cn:Int)(cs:ByteArray)(ac ar:Int)(af ag:Bool)(bc br:Int)(bf bg:Bool)(d e:Int)(p q:Nat)(w:C)(hp:p<w.heap.size)(hq:q<w.heap.size)(cp:w.cell? ⟨p,0,none⟩=some (a b d))(cq:w.cell? ⟨q,0,none⟩=some (a b e))(hac: -1000<=ac/\ac<=1000)(har: -1000<=ar/\ar<=1000)(hbc: -1000<=bc/\bc<=1000)(hbr: -1000<=br/\br<=1000)(hd: -1000<=d/\d<=1000)(he: -1000<=e/\e<=1000)
  (hA:Ql (mvI af ac d) (mvI ag ar e) (mvI bf bc d) (mvI bg br e)=false) (h0:KA=none->kc=0) (hi:IntRow w KA l) (hn:l.length<=1048576):
  D prog 160 #[y #[a b 3,a b o,a b ck,a b cn,m cs,a b ac,a b ar,i af,i ag,a b bc,a b br,i bf,i bg,j KA l.length kc],.func (.func 126) #[] #[.pointer (some ⟨p,0,none⟩),.pointer (some ⟨q,0,none⟩)]] w fun z w'=>z= u (y #[a b 1,a b 0,a b 4,a b 3,m ⟨#[]⟩,a b 0,a b 0,i false,i false,a b 0,a b 0,i false,i false,j none 0 0])/\E w.heap.size w w':=by
 have HA:Hid (Ql (mvI af ac d) (mvI ag ar e) (mvI bf bc d) (mvI bg br e)=false):=hA;clear hA;have HI:Hid (IntRow w KA l):=hi;have HN:Hid (l.length<=1048576):=hn;have HK:Hid (KA=none->kc=0):=h0;clear hi hn h0;go_enter func160,ntmps160
 go_wp2_with (first
  | (go_at_call 126;refine(YT _ _ _ _ _ _ _ _ d e p q _ (ltB (by go_grown) hp) (ltB (by go_grown) hq) (Uw (by go_grown) hp cp) (Uw (by go_grown) hq cq) hac har hbc hbr hd he).mono ?_;rintro z w1 ⟨rfl,hb⟩;obtain⟨hc,hf,hC,hF,hz,hk,l0,l1⟩:=bk2 (w:=w) hb;clear hb)
  | (go_at_call 188;refine(Xm _ _ _ _ _ _ _ _ _ _ _ _ _).mono ?_;rintro z w1 ⟨rfl,hb⟩;obtain⟨hc,hf,hC,hF,hz,hk,l0,l1⟩:=bk2 (w:=w) hb;clear hb)
  | (go_at_call 187;refine(YV _ _ _ _ false _ HA.out).mono ?_;rintro z w1 ⟨rfl,hb⟩;obtain⟨hc,hf,hC,hF,hz,hk,l0,l1⟩:=bk2 (w:=w) hb;clear hb)
  | (go_at_call 192;refine(Hz _).mono ?_;rintro z w1 ⟨rfl,hb⟩;obtain⟨hc,hf,hC,hF,hz,hk,l0,l1⟩:=bk2 (w:=w) hb;clear hb))
 refine n (v:= y #[a b 1,a b 0,a b 4,a b 3,m ⟨#[]⟩,a b 0,a b 0,i false,i false,a b 0,a b 0,i false,i false,j none 0 0]) ?_ rfl ⟨rfl,by go_grown⟩;simp (maxDischargeDepth:=9) [A,results160,go_sem, *]
theorem Qy(o ck cn:Int)(cs:ByteArray)(ac ar:Int)(af ag:Bool)(bc br:Int)(bf bg:Bool)(d e:Int)(p q:Nat)(w:C)(hp:p<w.heap.size)(hq:q<w.heap.size)(cp:w.cell? ⟨p,0,none⟩=some (a b d))(cq:w.cell? ⟨q,0,none⟩=some (a b e))(hac: -1000<=ac/\ac<=1000)(har: -1000<=ar/\ar<=1000)(hd: -1000<=d/\d<=1000)(he: -1000<=e/\e<=1000)
  (hA:Ql ac (opI ar d e) ac (opI ar d e)=true) (h0:KA=none->kc=0) (hi:IntRow w KA l) (hn:l.length<=1048576):
  D prog 160 #[y #[a b 2,a b o,a b ck,a b cn,m cs,a b ac,a b ar,i af,i ag,a b bc,a b br,i bf,i bg,j KA l.length kc],.func (.func 123) #[] #[.pointer (some ⟨p,0,none⟩),.pointer (some ⟨q,0,none⟩)]] w fun z w'=> ∃KB kb,z= u (y #[a b 2,a b o,a b ck,a b cn,m cs,a b ac,a b (opI ar d e),i af,i ag,a b bc,a b br,i bf,i bg,j KB l.length kb])/\w'.ownsRow w.heap.size 2 1 (j KB l.length kb) l.length (l.map (s .i64))/\E w.heap.size w w':=by
 have HA:Hid (Ql ac (opI ar d e) ac (opI ar d e)=true):=hA;clear hA;have HI:Hid (IntRow w KA l):=hi;have HN:Hid (l.length<=1048576):=hn;have HK:Hid (KA=none->kc=0):=h0;clear hi hn h0;go_enter func160,ntmps160
 go_wp2_with (first
  | (go_at_call 123;refine(Qo _ _ _ _ _ _ _ _ d e p q _ (ltB (by go_grown) hp) (ltB (by go_grown) hq) (Uw (by go_grown) hp cp) (Uw (by go_grown) hq cq) hac har hac har hd he).mono ?_;rintro z wA ⟨rfl,hb⟩;obtain⟨hc,hf,hC,hF,hz,hk,l0,l1⟩:=bk2 (w:=w) hb;clear hb)
  | (go_at_call 187;refine(YV _ _ _ _ true _ HA.out).mono ?_;rintro z wB ⟨rfl,hb⟩;obtain⟨h1,hfB,h2,hFB,hzB,hkB,lB0,lB1⟩:=bk2 (w:=w) hb;have x0:wB.cell? ⟨w.heap.size,0,none⟩=some (a b 2):=(by simp (maxDischargeDepth:=9) [go_sem, *]);have x1:wB.cell? ⟨w.heap.size,1,none⟩=some (a b o):=(by simp (maxDischargeDepth:=9) [go_sem, *]);have x2:wB.cell? ⟨w.heap.size,2,none⟩=some (a b ck):=(by simp (maxDischargeDepth:=9) [go_sem, *]);have x3:wB.cell? ⟨w.heap.size,3,none⟩=some (a b cn):=(by simp (maxDischargeDepth:=9) [go_sem, *]);have x4:wB.cell? ⟨w.heap.size,4,none⟩=some (m cs):=(by simp (maxDischargeDepth:=9) [go_sem, *]);have x5:wB.cell? ⟨w.heap.size,5,none⟩=some (a b ac):=(by simp (maxDischargeDepth:=9) [go_sem, *]);have x6:wB.cell? ⟨w.heap.size,6,none⟩=some (a b ar):=(by simp (maxDischargeDepth:=9) [go_sem, *]);have x7:wB.cell? ⟨w.heap.size,7,none⟩=some (i af):=(by simp (maxDischargeDepth:=9) [go_sem, *]);have x8:wB.cell? ⟨w.heap.size,8,none⟩=some (i ag):=(by simp (maxDischargeDepth:=9) [go_sem, *]);have x9:wB.cell? ⟨w.heap.size,9,none⟩=some (a b bc):=(by simp (maxDischargeDepth:=9) [go_sem, *]);have x10:wB.cell? ⟨w.heap.size,10,none⟩=some (a b br):=(by simp (maxDischargeDepth:=9) [go_sem, *]);have x11:wB.cell? ⟨w.heap.size,11,none⟩=some (i bf):=(by simp (maxDischargeDepth:=9) [go_sem, *]);have x12:wB.cell? ⟨w.heap.size,12,none⟩=some (i bg):=(by simp (maxDischargeDepth:=9) [go_sem, *]);have x13:wB.cell? ⟨w.heap.size,13,none⟩=some (j KA l.length kc):=(by simp (maxDischargeDepth:=9) [go_sem, *]);have z0:wB.cell? ⟨w.heap.size+1,0,none⟩=some (a b 0):=(by simp (maxDischargeDepth:=9) [go_sem, *]);have z1:wB.cell? ⟨w.heap.size+1,1,none⟩=some (a b 0):=(by simp (maxDischargeDepth:=9) [go_sem, *]);have z2:wB.cell? ⟨w.heap.size+1,2,none⟩=some (a b 0):=(by simp (maxDischargeDepth:=9) [go_sem, *]);have z3:wB.cell? ⟨w.heap.size+1,3,none⟩=some (a b 0):=(by simp (maxDischargeDepth:=9) [go_sem, *]);have z4:wB.cell? ⟨w.heap.size+1,4,none⟩=some (m ⟨#[]⟩):=(by simp (maxDischargeDepth:=9) [go_sem, *]);have z5:wB.cell? ⟨w.heap.size+1,5,none⟩=some (a b 0):=(by simp (maxDischargeDepth:=9) [go_sem, *]);have z6:wB.cell? ⟨w.heap.size+1,6,none⟩=some (a b 0):=(by simp (maxDischargeDepth:=9) [go_sem, *]);have z7:wB.cell? ⟨w.heap.size+1,7,none⟩=some (i false):=(by simp (maxDischargeDepth:=9) [go_sem, *]);have z8:wB.cell? ⟨w.heap.size+1,8,none⟩=some (i false):=(by simp (maxDischargeDepth:=9) [go_sem, *]);have z9:wB.cell? ⟨w.heap.size+1,9,none⟩=some (a b 0):=(by simp (maxDischargeDepth:=9) [go_sem, *]);have z10:wB.cell? ⟨w.heap.size+1,10,none⟩=some (a b 0):=(by simp (maxDischargeDepth:=9) [go_sem, *]);have z11:wB.cell? ⟨w.heap.size+1,11,none⟩=some (i false):=(by simp (maxDischargeDepth:=9) [go_sem, *]);have z12:wB.cell? ⟨w.heap.size+1,12,none⟩=some (i false):=(by simp (maxDischargeDepth:=9) [go_sem, *]);have z13:wB.cell? ⟨w.heap.size+1,13,none⟩=some (j none 0 0):=(by simp (maxDischargeDepth:=9) [go_sem, *]);have t0:wB.cell? ⟨wA.heap.size,0,none⟩=some (a b ac):=(by simp (maxDischargeDepth:=9) [go_sem, *]);have t1:wB.cell? ⟨wA.heap.size,1,none⟩=some (a b (opI ar d e)):=(by simp (maxDischargeDepth:=9) [go_sem, *]);have t2:wB.cell? ⟨wA.heap.size,2,none⟩=some (i af):=(by simp (maxDischargeDepth:=9) [go_sem, *]);have t3:wB.cell? ⟨wA.heap.size,3,none⟩=some (i ag):=(by simp (maxDischargeDepth:=9) [go_sem, *]);clear hb h1 h2)
  | (at_builtin;refine Vb _ rfl _ _ rfl (j none 0 0) rfl (w.heap.size+2) ?kb ?kn rfl HK.out ?ki HN.out ?_))
 case kb=>go_size
 case kn=>exact⟨rfl,H ⟨rfl,rfl⟩⟩
 case ki=>exact HI.out.below (by go_grown)
 intro KB kb w9 hown hgrow;have HO:Hid (w9.ownsRow (w.heap.size+2) 2 1 (j KB l.length kb) l.length (l.map (s .i64))):=hown;have hb:=(I _ _).grown hgrow (F _) (fun k hk=>by cases hk);obtain⟨hc9,hf9,hC9,hF9,hz9,hk9,m0,m1⟩:=bk2 (w:=w) hb;clear hgrow hb hown;go_wp2_with fail
 refine n (v:= y #[a b 2,a b o,a b ck,a b cn,m cs,a b ac,a b (opI ar d e),i af,i ag,a b bc,a b br,i bf,i bg,j KB l.length kb]) ?_ rfl ⟨_,_,rfl,?_,by go_grown⟩
 ·simp (maxDischargeDepth:=9) [A,results160,go_sem, *]
 ·refine QU (B:=w.heap.size+2) ?_ (by omega);repeat (refine t ?_ (by simp) _)
  exact HO.out
theorem JL(o ck cn:Int)(cs:ByteArray)(ac ar:Int)(af ag:Bool)(bc br:Int)(bf bg:Bool)(d e:Int)(p q:Nat)(w:C)(hp:p<w.heap.size)(hq:q<w.heap.size)(cp:w.cell? ⟨p,0,none⟩=some (a b d))(cq:w.cell? ⟨q,0,none⟩=some (a b e))(hac: -1000<=ac/\ac<=1000)(har: -1000<=ar/\ar<=1000)(hd: -1000<=d/\d<=1000)(he: -1000<=e/\e<=1000)
  (hA:Ql ac (opI ar d e) ac (opI ar d e)=false) (h0:KA=none->kc=0) (hi:IntRow w KA l) (hn:l.length<=1048576):
  D prog 160 #[y #[a b 2,a b o,a b ck,a b cn,m cs,a b ac,a b ar,i af,i ag,a b bc,a b br,i bf,i bg,j KA l.length kc],.func (.func 123) #[] #[.pointer (some ⟨p,0,none⟩),.pointer (some ⟨q,0,none⟩)]] w fun z w'=>z= u (y #[a b 1,a b 0,a b 4,a b 3,m ⟨#[]⟩,a b 0,a b 0,i false,i false,a b 0,a b 0,i false,i false,j none 0 0])/\E w.heap.size w w':=by
 have HA:Hid (Ql ac (opI ar d e) ac (opI ar d e)=false):=hA;clear hA;have HI:Hid (IntRow w KA l):=hi;have HN:Hid (l.length<=1048576):=hn;have HK:Hid (KA=none->kc=0):=h0;clear hi hn h0;go_enter func160,ntmps160
 go_wp2_with (first
  | (go_at_call 123;refine(Qo _ _ _ _ _ _ _ _ d e p q _ (ltB (by go_grown) hp) (ltB (by go_grown) hq) (Uw (by go_grown) hp cp) (Uw (by go_grown) hq cq) hac har hac har hd he).mono ?_;rintro z w1 ⟨rfl,hb⟩;obtain⟨hc,hf,hC,hF,hz,hk,l0,l1⟩:=bk2 (w:=w) hb;clear hb)
  | (go_at_call 187;refine(YV _ _ _ _ false _ HA.out).mono ?_;rintro z w1 ⟨rfl,hb⟩;obtain⟨hc,hf,hC,hF,hz,hk,l0,l1⟩:=bk2 (w:=w) hb;clear hb)
  | (go_at_call 192;refine(Hz _).mono ?_;rintro z w1 ⟨rfl,hb⟩;obtain⟨hc,hf,hC,hF,hz,hk,l0,l1⟩:=bk2 (w:=w) hb;clear hb))
 refine n (v:= y #[a b 1,a b 0,a b 4,a b 3,m ⟨#[]⟩,a b 0,a b 0,i false,i false,a b 0,a b 0,i false,i false,j none 0 0]) ?_ rfl ⟨rfl,by go_grown⟩;simp (maxDischargeDepth:=9) [A,results160,go_sem, *]
theorem QK(o ck cn:Int)(cs:ByteArray)(ac ar:Int)(af ag:Bool)(bc br:Int)(bf bg:Bool)(d e:Int)(p q:Nat)(w:C)(hp:p<w.heap.size)(hq:q<w.heap.size)(cp:w.cell? ⟨p,0,none⟩=some (a b d))(cq:w.cell? ⟨q,0,none⟩=some (a b e))(hac: -1000<=ac/\ac<=1000)(har: -1000<=ar/\ar<=1000)(hbc: -1000<=bc/\bc<=1000)(hbr: -1000<=br/\br<=1000)(hd: -1000<=d/\d<=1000)(he: -1000<=e/\e<=1000)
  (hA:Ql ac (opI ar d e) bc (opI br d e)=true) (h0:KA=none->kc=0) (hi:IntRow w KA l) (hn:l.length<=1048576):
  D prog 160 #[y #[a b 3,a b o,a b ck,a b cn,m cs,a b ac,a b ar,i af,i ag,a b bc,a b br,i bf,i bg,j KA l.length kc],.func (.func 123) #[] #[.pointer (some ⟨p,0,none⟩),.pointer (some ⟨q,0,none⟩)]] w fun z w'=> ∃KB kb,z= u (y #[a b 3,a b o,a b ck,a b cn,m cs,a b ac,a b (opI ar d e),i af,i ag,a b bc,a b (opI br d e),i bf,i bg,j KB l.length kb])/\w'.ownsRow w.heap.size 2 1 (j KB l.length kb) l.length (l.map (s .i64))/\E w.heap.size w w':=by
 have HA:Hid (Ql ac (opI ar d e) bc (opI br d e)=true):=hA;clear hA;have HI:Hid (IntRow w KA l):=hi;have HN:Hid (l.length<=1048576):=hn;have HK:Hid (KA=none->kc=0):=h0;clear hi hn h0;go_enter func160,ntmps160
 go_wp2_with (first
  | (go_at_call 123;refine(Qo _ _ _ _ _ _ _ _ d e p q _ (ltB (by go_grown) hp) (ltB (by go_grown) hq) (Uw (by go_grown) hp cp) (Uw (by go_grown) hq cq) hac har hbc hbr hd he).mono ?_;rintro z w1 ⟨rfl,hb⟩;obtain⟨hc,hf,hC,hF,hz,hk,l0,l1⟩:=bk2 (w:=w) hb;clear hb)
  | (go_at_call 188;refine(Xm _ _ _ _ _ _ _ _ _ _ _ _ _).mono ?_;rintro z w1 ⟨rfl,hb⟩;obtain⟨hc,hf,hC,hF,hz,hk,l0,l1⟩:=bk2 (w:=w) hb;clear hb)
  | (go_at_call 187;refine(YV _ _ _ _ true _ HA.out).mono ?_;rintro z w1 ⟨rfl,hb⟩;obtain⟨hc,hf,hC,hF,hz,hk,l0,l1⟩:=bk2 (w:=w) hb;clear hb)
  | (at_builtin;refine Vb _ rfl _ _ rfl (j none 0 0) rfl (w.heap.size+2) ?kb ?kn rfl HK.out ?ki HN.out ?_))
 case kb=>go_size
 case kn=>exact⟨rfl,H ⟨rfl,rfl⟩⟩
 case ki=>exact HI.out.below (by go_grown)
 intro KB kb w9 hown hgrow;have HO:Hid (w9.ownsRow (w.heap.size+2) 2 1 (j KB l.length kb) l.length (l.map (s .i64))):=hown;have hb:=(I _ _).grown hgrow (F _) (fun k hk=>by cases hk);obtain⟨hc9,hf9,hC9,hF9,hz9,hk9,m0,m1⟩:=bk2 (w:=w) hb;clear hgrow hb hown;go_wp2_with fail
 refine n (v:= y #[a b 3,a b o,a b ck,a b cn,m cs,a b ac,a b (opI ar d e),i af,i ag,a b bc,a b (opI br d e),i bf,i bg,j KB l.length kb]) ?_ rfl ⟨_,_,rfl,?_,by go_grown⟩
 ·simp (maxDischargeDepth:=9) [A,results160,go_sem, *]
 ·refine QU (B:=w.heap.size+2) ?_ (by omega);repeat (refine t ?_ (by simp) _)
  exact HO.out
theorem Vu(o ck cn:Int)(cs:ByteArray)(ac ar:Int)(af ag:Bool)(bc br:Int)(bf bg:Bool)(d e:Int)(p q:Nat)(w:C)(hp:p<w.heap.size)(hq:q<w.heap.size)(cp:w.cell? ⟨p,0,none⟩=some (a b d))(cq:w.cell? ⟨q,0,none⟩=some (a b e))(hac: -1000<=ac/\ac<=1000)(har: -1000<=ar/\ar<=1000)(hbc: -1000<=bc/\bc<=1000)(hbr: -1000<=br/\br<=1000)(hd: -1000<=d/\d<=1000)(he: -1000<=e/\e<=1000)
  (hA:Ql ac (opI ar d e) bc (opI br d e)=false) (h0:KA=none->kc=0) (hi:IntRow w KA l) (hn:l.length<=1048576):
  D prog 160 #[y #[a b 3,a b o,a b ck,a b cn,m cs,a b ac,a b ar,i af,i ag,a b bc,a b br,i bf,i bg,j KA l.length kc],.func (.func 123) #[] #[.pointer (some ⟨p,0,none⟩),.pointer (some ⟨q,0,none⟩)]] w fun z w'=>z= u (y #[a b 1,a b 0,a b 4,a b 3,m ⟨#[]⟩,a b 0,a b 0,i false,i false,a b 0,a b 0,i false,i false,j none 0 0])/\E w.heap.size w w':=by
 have HA:Hid (Ql ac (opI ar d e) bc (opI br d e)=false):=hA;clear hA;have HI:Hid (IntRow w KA l):=hi;have HN:Hid (l.length<=1048576):=hn;have HK:Hid (KA=none->kc=0):=h0;clear hi hn h0;go_enter func160,ntmps160
 go_wp2_with (first
  | (go_at_call 123;refine(Qo _ _ _ _ _ _ _ _ d e p q _ (ltB (by go_grown) hp) (ltB (by go_grown) hq) (Uw (by go_grown) hp cp) (Uw (by go_grown) hq cq) hac har hbc hbr hd he).mono ?_;rintro z w1 ⟨rfl,hb⟩;obtain⟨hc,hf,hC,hF,hz,hk,l0,l1⟩:=bk2 (w:=w) hb;clear hb)
  | (go_at_call 188;refine(Xm _ _ _ _ _ _ _ _ _ _ _ _ _).mono ?_;rintro z w1 ⟨rfl,hb⟩;obtain⟨hc,hf,hC,hF,hz,hk,l0,l1⟩:=bk2 (w:=w) hb;clear hb)
  | (go_at_call 187;refine(YV _ _ _ _ false _ HA.out).mono ?_;rintro z w1 ⟨rfl,hb⟩;obtain⟨hc,hf,hC,hF,hz,hk,l0,l1⟩:=bk2 (w:=w) hb;clear hb)
  | (go_at_call 192;refine(Hz _).mono ?_;rintro z w1 ⟨rfl,hb⟩;obtain⟨hc,hf,hC,hF,hz,hk,l0,l1⟩:=bk2 (w:=w) hb;clear hb))
 refine n (v:= y #[a b 1,a b 0,a b 4,a b 3,m ⟨#[]⟩,a b 0,a b 0,i false,i false,a b 0,a b 0,i false,i false,j none 0 0]) ?_ rfl ⟨rfl,by go_grown⟩;simp (maxDischargeDepth:=9) [A,results160,go_sem, *]
theorem ZR(o ck cn:Int)(cs:ByteArray)(ac ar:Int)(af ag:Bool)(bc br:Int)(bf bg:Bool)(d e:Int)(p q:Nat)(w:C)(hp:p<w.heap.size)(hq:q<w.heap.size)(cp:w.cell? ⟨p,0,none⟩=some (a b d))(cq:w.cell? ⟨q,0,none⟩=some (a b e))(hac: -1000<=ac/\ac<=1000)(har: -1000<=ar/\ar<=1000)(hd: -1000<=d/\d<=1000)(he: -1000<=e/\e<=1000)
  (hA:Ql ac (clI ar d e d) ac (clI ar d e (d-1))=true) (h0:KA=none->kc=0) (hi:IntRow w KA l) (hn:l.length<=1048576):
  D prog 160 #[y #[a b 2,a b o,a b ck,a b cn,m cs,a b ac,a b ar,i af,i ag,a b bc,a b br,i bf,i bg,j KA l.length kc],.func (.func 124) #[] #[.pointer (some ⟨p,0,none⟩),.pointer (some ⟨q,0,none⟩)]] w fun z w'=> ∃KB kb,z= u (y #[a b 2,a b o,a b ck,a b cn,m cs,a b ac,a b (clI ar d e d),i af,i ag,a b bc,a b br,i bf,i bg,j KB l.length kb])/\w'.ownsRow w.heap.size 2 1 (j KB l.length kb) l.length (l.map (s .i64))/\E w.heap.size w w':=by
 have HA:Hid (Ql ac (clI ar d e d) ac (clI ar d e (d-1))=true):=hA;clear hA;have HI:Hid (IntRow w KA l):=hi;have HN:Hid (l.length<=1048576):=hn;have HK:Hid (KA=none->kc=0):=h0;clear hi hn h0;go_enter func160,ntmps160
 go_wp2_with (first
  | (go_at_call 124;refine(Qt _ _ _ _ _ _ _ _ d e p q _ (ltB (by go_grown) hp) (ltB (by go_grown) hq) (Uw (by go_grown) hp cp) (Uw (by go_grown) hq cq) hac har hac har hd he).mono ?_;rintro z wA ⟨rfl,hb⟩;obtain⟨hc,hf,hC,hF,hz,hk,l0,l1⟩:=bk2 (w:=w) hb;clear hb)
  | (go_at_call 187;refine(YV _ _ _ _ true _ HA.out).mono ?_;rintro z wB ⟨rfl,hb⟩;obtain⟨h1,hfB,h2,hFB,hzB,hkB,lB0,lB1⟩:=bk2 (w:=w) hb;have x0:wB.cell? ⟨w.heap.size,0,none⟩=some (a b 2):=(by simp (maxDischargeDepth:=9) [go_sem, *]);have x1:wB.cell? ⟨w.heap.size,1,none⟩=some (a b o):=(by simp (maxDischargeDepth:=9) [go_sem, *]);have x2:wB.cell? ⟨w.heap.size,2,none⟩=some (a b ck):=(by simp (maxDischargeDepth:=9) [go_sem, *]);have x3:wB.cell? ⟨w.heap.size,3,none⟩=some (a b cn):=(by simp (maxDischargeDepth:=9) [go_sem, *]);have x4:wB.cell? ⟨w.heap.size,4,none⟩=some (m cs):=(by simp (maxDischargeDepth:=9) [go_sem, *]);have x5:wB.cell? ⟨w.heap.size,5,none⟩=some (a b ac):=(by simp (maxDischargeDepth:=9) [go_sem, *]);have x6:wB.cell? ⟨w.heap.size,6,none⟩=some (a b ar):=(by simp (maxDischargeDepth:=9) [go_sem, *]);have x7:wB.cell? ⟨w.heap.size,7,none⟩=some (i af):=(by simp (maxDischargeDepth:=9) [go_sem, *]);have x8:wB.cell? ⟨w.heap.size,8,none⟩=some (i ag):=(by simp (maxDischargeDepth:=9) [go_sem, *]);have x9:wB.cell? ⟨w.heap.size,9,none⟩=some (a b bc):=(by simp (maxDischargeDepth:=9) [go_sem, *]);have x10:wB.cell? ⟨w.heap.size,10,none⟩=some (a b br):=(by simp (maxDischargeDepth:=9) [go_sem, *]);have x11:wB.cell? ⟨w.heap.size,11,none⟩=some (i bf):=(by simp (maxDischargeDepth:=9) [go_sem, *]);have x12:wB.cell? ⟨w.heap.size,12,none⟩=some (i bg):=(by simp (maxDischargeDepth:=9) [go_sem, *]);have x13:wB.cell? ⟨w.heap.size,13,none⟩=some (j KA l.length kc):=(by simp (maxDischargeDepth:=9) [go_sem, *]);have z0:wB.cell? ⟨w.heap.size+1,0,none⟩=some (a b 0):=(by simp (maxDischargeDepth:=9) [go_sem, *]);have z1:wB.cell? ⟨w.heap.size+1,1,none⟩=some (a b 0):=(by simp (maxDischargeDepth:=9) [go_sem, *]);have z2:wB.cell? ⟨w.heap.size+1,2,none⟩=some (a b 0):=(by simp (maxDischargeDepth:=9) [go_sem, *]);have z3:wB.cell? ⟨w.heap.size+1,3,none⟩=some (a b 0):=(by simp (maxDischargeDepth:=9) [go_sem, *]);have z4:wB.cell? ⟨w.heap.size+1,4,none⟩=some (m ⟨#[]⟩):=(by simp (maxDischargeDepth:=9) [go_sem, *]);have z5:wB.cell? ⟨w.heap.size+1,5,none⟩=some (a b 0):=(by simp (maxDischargeDepth:=9) [go_sem, *]);have z6:wB.cell? ⟨w.heap.size+1,6,none⟩=some (a b 0):=(by simp (maxDischargeDepth:=9) [go_sem, *]);have z7:wB.cell? ⟨w.heap.size+1,7,none⟩=some (i false):=(by simp (maxDischargeDepth:=9) [go_sem, *]);have z8:wB.cell? ⟨w.heap.size+1,8,none⟩=some (i false):=(by simp (maxDischargeDepth:=9) [go_sem, *]);have z9:wB.cell? ⟨w.heap.size+1,9,none⟩=some (a b 0):=(by simp (maxDischargeDepth:=9) [go_sem, *]);have z10:wB.cell? ⟨w.heap.size+1,10,none⟩=some (a b 0):=(by simp (maxDischargeDepth:=9) [go_sem, *]);have z11:wB.cell? ⟨w.heap.size+1,11,none⟩=some (i false):=(by simp (maxDischargeDepth:=9) [go_sem, *]);have z12:wB.cell? ⟨w.heap.size+1,12,none⟩=some (i false):=(by simp (maxDischargeDepth:=9) [go_sem, *]);have z13:wB.cell? ⟨w.heap.size+1,13,none⟩=some (j none 0 0):=(by simp (maxDischargeDepth:=9) [go_sem, *]);have t0:wB.cell? ⟨wA.heap.size,0,none⟩=some (a b ac):=(by simp (maxDischargeDepth:=9) [go_sem, *]);have t1:wB.cell? ⟨wA.heap.size,1,none⟩=some (a b (clI ar d e d)):=(by simp (maxDischargeDepth:=9) [go_sem, *]);have t2:wB.cell? ⟨wA.heap.size,2,none⟩=some (i af):=(by simp (maxDischargeDepth:=9) [go_sem, *]);have t3:wB.cell? ⟨wA.heap.size,3,none⟩=some (i ag):=(by simp (maxDischargeDepth:=9) [go_sem, *]);clear hb h1 h2)
  | (at_builtin;refine Vb _ rfl _ _ rfl (j none 0 0) rfl (w.heap.size+2) ?kb ?kn rfl HK.out ?ki HN.out ?_))
 case kb=>go_size
 case kn=>exact⟨rfl,H ⟨rfl,rfl⟩⟩
 case ki=>exact HI.out.below (by go_grown)
 intro KB kb w9 hown hgrow;have HO:Hid (w9.ownsRow (w.heap.size+2) 2 1 (j KB l.length kb) l.length (l.map (s .i64))):=hown;have hb:=(I _ _).grown hgrow (F _) (fun k hk=>by cases hk);obtain⟨hc9,hf9,hC9,hF9,hz9,hk9,m0,m1⟩:=bk2 (w:=w) hb;clear hgrow hb hown;go_wp2_with fail
 refine n (v:= y #[a b 2,a b o,a b ck,a b cn,m cs,a b ac,a b (clI ar d e d),i af,i ag,a b bc,a b br,i bf,i bg,j KB l.length kb]) ?_ rfl ⟨_,_,rfl,?_,by go_grown⟩
 ·simp (maxDischargeDepth:=9) [A,results160,go_sem, *]
 ·refine QU (B:=w.heap.size+2) ?_ (by omega);repeat (refine t ?_ (by simp) _)
  exact HO.out
theorem GJ(o ck cn:Int)(cs:ByteArray)(ac ar:Int)(af ag:Bool)(bc br:Int)(bf bg:Bool)(d e:Int)(p q:Nat)(w:C)(hp:p<w.heap.size)(hq:q<w.heap.size)(cp:w.cell? ⟨p,0,none⟩=some (a b d))(cq:w.cell? ⟨q,0,none⟩=some (a b e))(hac: -1000<=ac/\ac<=1000)(har: -1000<=ar/\ar<=1000)(hd: -1000<=d/\d<=1000)(he: -1000<=e/\e<=1000)
  (hA:Ql ac (clI ar d e d) ac (clI ar d e (d-1))=false) (h0:KA=none->kc=0) (hi:IntRow w KA l) (hn:l.length<=1048576):
  D prog 160 #[y #[a b 2,a b o,a b ck,a b cn,m cs,a b ac,a b ar,i af,i ag,a b bc,a b br,i bf,i bg,j KA l.length kc],.func (.func 124) #[] #[.pointer (some ⟨p,0,none⟩),.pointer (some ⟨q,0,none⟩)]] w fun z w'=>z= u (y #[a b 1,a b 0,a b 4,a b 3,m ⟨#[]⟩,a b 0,a b 0,i false,i false,a b 0,a b 0,i false,i false,j none 0 0])/\E w.heap.size w w':=by
 have HA:Hid (Ql ac (clI ar d e d) ac (clI ar d e (d-1))=false):=hA;clear hA;have HI:Hid (IntRow w KA l):=hi;have HN:Hid (l.length<=1048576):=hn;have HK:Hid (KA=none->kc=0):=h0;clear hi hn h0;go_enter func160,ntmps160
 go_wp2_with (first
  | (go_at_call 124;refine(Qt _ _ _ _ _ _ _ _ d e p q _ (ltB (by go_grown) hp) (ltB (by go_grown) hq) (Uw (by go_grown) hp cp) (Uw (by go_grown) hq cq) hac har hac har hd he).mono ?_;rintro z w1 ⟨rfl,hb⟩;obtain⟨hc,hf,hC,hF,hz,hk,l0,l1⟩:=bk2 (w:=w) hb;clear hb)
  | (go_at_call 187;refine(YV _ _ _ _ false _ HA.out).mono ?_;rintro z w1 ⟨rfl,hb⟩;obtain⟨hc,hf,hC,hF,hz,hk,l0,l1⟩:=bk2 (w:=w) hb;clear hb)
  | (go_at_call 192;refine(Hz _).mono ?_;rintro z w1 ⟨rfl,hb⟩;obtain⟨hc,hf,hC,hF,hz,hk,l0,l1⟩:=bk2 (w:=w) hb;clear hb))
 refine n (v:= y #[a b 1,a b 0,a b 4,a b 3,m ⟨#[]⟩,a b 0,a b 0,i false,i false,a b 0,a b 0,i false,i false,j none 0 0]) ?_ rfl ⟨rfl,by go_grown⟩;simp (maxDischargeDepth:=9) [A,results160,go_sem, *]
theorem Jr(o ck cn:Int)(cs:ByteArray)(ac ar:Int)(af ag:Bool)(bc br:Int)(bf bg:Bool)(d e:Int)(p q:Nat)(w:C)(hp:p<w.heap.size)(hq:q<w.heap.size)(cp:w.cell? ⟨p,0,none⟩=some (a b d))(cq:w.cell? ⟨q,0,none⟩=some (a b e))(hac: -1000<=ac/\ac<=1000)(har: -1000<=ar/\ar<=1000)(hbc: -1000<=bc/\bc<=1000)(hbr: -1000<=br/\br<=1000)(hd: -1000<=d/\d<=1000)(he: -1000<=e/\e<=1000)
  (hA:Ql ac (clI ar d e d) bc (clI br d e (d-1))=true) (h0:KA=none->kc=0) (hi:IntRow w KA l) (hn:l.length<=1048576):
  D prog 160 #[y #[a b 3,a b o,a b ck,a b cn,m cs,a b ac,a b ar,i af,i ag,a b bc,a b br,i bf,i bg,j KA l.length kc],.func (.func 124) #[] #[.pointer (some ⟨p,0,none⟩),.pointer (some ⟨q,0,none⟩)]] w fun z w'=> ∃KB kb,z= u (y #[a b 3,a b o,a b ck,a b cn,m cs,a b ac,a b (clI ar d e d),i af,i ag,a b bc,a b (clI br d e (d-1)),i bf,i bg,j KB l.length kb])/\w'.ownsRow w.heap.size 2 1 (j KB l.length kb) l.length (l.map (s .i64))/\E w.heap.size w w':=by
 have HA:Hid (Ql ac (clI ar d e d) bc (clI br d e (d-1))=true):=hA;clear hA;have HI:Hid (IntRow w KA l):=hi;have HN:Hid (l.length<=1048576):=hn;have HK:Hid (KA=none->kc=0):=h0;clear hi hn h0;go_enter func160,ntmps160
 go_wp2_with (first
  | (go_at_call 124;refine(Qt _ _ _ _ _ _ _ _ d e p q _ (ltB (by go_grown) hp) (ltB (by go_grown) hq) (Uw (by go_grown) hp cp) (Uw (by go_grown) hq cq) hac har hbc hbr hd he).mono ?_;rintro z w1 ⟨rfl,hb⟩;obtain⟨hc,hf,hC,hF,hz,hk,l0,l1⟩:=bk2 (w:=w) hb;clear hb)
  | (go_at_call 188;refine(Xm _ _ _ _ _ _ _ _ _ _ _ _ _).mono ?_;rintro z w1 ⟨rfl,hb⟩;obtain⟨hc,hf,hC,hF,hz,hk,l0,l1⟩:=bk2 (w:=w) hb;clear hb)
  | (go_at_call 187;refine(YV _ _ _ _ true _ HA.out).mono ?_;rintro z w1 ⟨rfl,hb⟩;obtain⟨hc,hf,hC,hF,hz,hk,l0,l1⟩:=bk2 (w:=w) hb;clear hb)
  | (at_builtin;refine Vb _ rfl _ _ rfl (j none 0 0) rfl (w.heap.size+2) ?kb ?kn rfl HK.out ?ki HN.out ?_))
 case kb=>go_size
 case kn=>exact⟨rfl,H ⟨rfl,rfl⟩⟩
 case ki=>exact HI.out.below (by go_grown)
 intro KB kb w9 hown hgrow;have HO:Hid (w9.ownsRow (w.heap.size+2) 2 1 (j KB l.length kb) l.length (l.map (s .i64))):=hown;have hb:=(I _ _).grown hgrow (F _) (fun k hk=>by cases hk);obtain⟨hc9,hf9,hC9,hF9,hz9,hk9,m0,m1⟩:=bk2 (w:=w) hb;clear hgrow hb hown;go_wp2_with fail
 refine n (v:= y #[a b 3,a b o,a b ck,a b cn,m cs,a b ac,a b (clI ar d e d),i af,i ag,a b bc,a b (clI br d e (d-1)),i bf,i bg,j KB l.length kb]) ?_ rfl ⟨_,_,rfl,?_,by go_grown⟩
 ·simp (maxDischargeDepth:=9) [A,results160,go_sem, *]
 ·refine QU (B:=w.heap.size+2) ?_ (by omega);repeat (refine t ?_ (by simp) _)
  exact HO.out
theorem Mw(o ck cn:Int)(cs:ByteArray)(ac ar:Int)(af ag:Bool)(bc br:Int)(bf bg:Bool)(d e:Int)(p q:Nat)(w:C)(hp:p<w.heap.size)(hq:q<w.heap.size)(cp:w.cell? ⟨p,0,none⟩=some (a b d))(cq:w.cell? ⟨q,0,none⟩=some (a b e))(hac: -1000<=ac/\ac<=1000)(har: -1000<=ar/\ar<=1000)(hbc: -1000<=bc/\bc<=1000)(hbr: -1000<=br/\br<=1000)(hd: -1000<=d/\d<=1000)(he: -1000<=e/\e<=1000)
  (hA:Ql ac (clI ar d e d) bc (clI br d e (d-1))=false) (h0:KA=none->kc=0) (hi:IntRow w KA l) (hn:l.length<=1048576):
  D prog 160 #[y #[a b 3,a b o,a b ck,a b cn,m cs,a b ac,a b ar,i af,i ag,a b bc,a b br,i bf,i bg,j KA l.length kc],.func (.func 124) #[] #[.pointer (some ⟨p,0,none⟩),.pointer (some ⟨q,0,none⟩)]] w fun z w'=>z= u (y #[a b 1,a b 0,a b 4,a b 3,m ⟨#[]⟩,a b 0,a b 0,i false,i false,a b 0,a b 0,i false,i false,j none 0 0])/\E w.heap.size w w':=by
 have HA:Hid (Ql ac (clI ar d e d) bc (clI br d e (d-1))=false):=hA;clear hA;have HI:Hid (IntRow w KA l):=hi;have HN:Hid (l.length<=1048576):=hn;have HK:Hid (KA=none->kc=0):=h0;clear hi hn h0;go_enter func160,ntmps160
 go_wp2_with (first
  | (go_at_call 124;refine(Qt _ _ _ _ _ _ _ _ d e p q _ (ltB (by go_grown) hp) (ltB (by go_grown) hq) (Uw (by go_grown) hp cp) (Uw (by go_grown) hq cq) hac har hbc hbr hd he).mono ?_;rintro z w1 ⟨rfl,hb⟩;obtain⟨hc,hf,hC,hF,hz,hk,l0,l1⟩:=bk2 (w:=w) hb;clear hb)
  | (go_at_call 188;refine(Xm _ _ _ _ _ _ _ _ _ _ _ _ _).mono ?_;rintro z w1 ⟨rfl,hb⟩;obtain⟨hc,hf,hC,hF,hz,hk,l0,l1⟩:=bk2 (w:=w) hb;clear hb)
  | (go_at_call 187;refine(YV _ _ _ _ false _ HA.out).mono ?_;rintro z w1 ⟨rfl,hb⟩;obtain⟨hc,hf,hC,hF,hz,hk,l0,l1⟩:=bk2 (w:=w) hb;clear hb)
  | (go_at_call 192;refine(Hz _).mono ?_;rintro z w1 ⟨rfl,hb⟩;obtain⟨hc,hf,hC,hF,hz,hk,l0,l1⟩:=bk2 (w:=w) hb;clear hb))
 refine n (v:= y #[a b 1,a b 0,a b 4,a b 3,m ⟨#[]⟩,a b 0,a b 0,i false,i false,a b 0,a b 0,i false,i false,j none 0 0]) ?_ rfl ⟨rfl,by go_grown⟩;simp (maxDischargeDepth:=9) [A,results160,go_sem, *]
def QY:FN:=⟨1,0,4,3,⟨#[]⟩,0,0,false,false,0,0,false,false,[]⟩
abbrev Xy:=Int->Int->Bool->Bool->Int × Int
def QB(f g:Xy)(x:FN):FN:=
 if x.k=2 then(if Ql (f x.ac x.ar x.af x.ag).1 (f x.ac x.ar x.af x.ag).2 (g x.ac x.ar x.af x.ag).1 (g x.ac x.ar x.af x.ag).2=true then{x with ac:=(f x.ac x.ar x.af x.ag).1,ar:=(f x.ac x.ar x.af x.ag).2}else QY)
 else if x.k=3 then(if Ql (f x.ac x.ar x.af x.ag).1 (f x.ac x.ar x.af x.ag).2 (g x.bc x.br x.bf x.bg).1 (g x.bc x.br x.bf x.bg).2=true then{x with ac:=(f x.ac x.ar x.af x.ag).1,ar:=(f x.ac x.ar x.af x.ag).2,bc:=(g x.bc x.br x.bf x.bg).1,br:=(g x.bc x.br x.bf x.bg).2}else QY)
 else x
def Qov(x:FN)(KA:Option G)(kc:Nat):Value:= y #[a b x.k,a b x.o,a b x.ck,a b x.cn,m x.cs,a b x.ac,a b x.ar,i x.af,i x.ag,a b x.bc,a b x.br,i x.bf,i x.bg,j KA x.kids.length kc]
def DU(x:FN):Prop:=(x.k=2\/x.k=3->(-1000<=x.ac/\x.ac<=1000)/\(-1000<=x.ar/\x.ar<=1000))/\(x.k=3->(-1000<=x.bc/\x.bc<=1000)/\(-1000<=x.br/\x.br<=1000))
theorem Je(w:C)(B:Nat):w.ownsRow B 2 1 (j none 0 0) 0 []:=⟨rfl,H ⟨rfl,rfl⟩⟩
def Qi(d e:Int):Xy:=fun c r f g=>(mvI f c d,mvI g r e)
def Qh(d e:Int):Xy:=fun c r f g=>(mvI f c d,mvI g r e)
theorem Jn(x:FN)(d e:Int)(p q:Nat)(w:C)(hp:p<w.heap.size)(hq:q<w.heap.size)(cp:w.cell? ⟨p,0,none⟩=some (a b d))(cq:w.cell? ⟨q,0,none⟩=some (a b e))(hs:DU x)(hd: -1000<=d/\d<=1000)(he: -1000<=e/\e<=1000)
  (h0:KA=none->kc=0) (hi:IntRow w KA x.kids) (hn:x.kids.length<=1048576):
  D prog 160 #[Qov x KA kc,.func (.func 126) #[] #[.pointer (some ⟨p,0,none⟩),.pointer (some ⟨q,0,none⟩)]] w fun z w'=>
   ∃KB kb,z= u (Qov (QB (Qi d e) (Qh d e) x) KB kb)/\w'.ownsRow w.heap.size 2 1 (j KB (QB (Qi d e) (Qh d e) x).kids.length kb) (QB (Qi d e) (Qh d e) x).kids.length ((QB (Qi d e) (Qh d e) x).kids.map (s .i64))/\E w.heap.size w w':=by
 obtain⟨k,o,ck,cn,cs,ac,ar,af,ag,bc,br,bf,bg,kids⟩:=x;by_cases h2:k=2
 ·subst h2;obtain⟨ha,hr⟩:=hs.1 (H rfl);unfold QB;rw[pS rfl];by_cases hA:Ql (Qi d e ac ar af ag).1 (Qi d e ac ar af ag).2 (Qh d e ac ar af ag).1 (Qh d e ac ar af ag).2=true
  ·rw[pS hA];exact XC o ck cn cs ac ar af ag bc br bf bg d e p q w hp hq cp cq ha hr hd he hA h0 hi hn
  ·rw[nG hA];exact(XO o ck cn cs ac ar af ag bc br bf bg d e p q w hp hq cp cq ha hr hd he (eq_false_of_ne_true hA) h0 hi hn).mono fun _ _ h=>⟨none,0,h.1,Je _ _,h.2⟩
 by_cases h3:k=3
 ·subst h3;obtain⟨ha,hr⟩:=hs.1 (Or.inr rfl);obtain⟨hb,h1⟩:=hs.2 rfl;unfold QB;rw[nG h2,pS rfl];by_cases hA:Ql (Qi d e ac ar af ag).1 (Qi d e ac ar af ag).2 (Qh d e bc br bf bg).1 (Qh d e bc br bf bg).2=true
  ·rw[pS hA];exact XD o ck cn cs ac ar af ag bc br bf bg d e p q w hp hq cp cq ha hr hb h1 hd he hA h0 hi hn
  ·rw[nG hA];exact(XP o ck cn cs ac ar af ag bc br bf bg d e p q w hp hq cp cq ha hr hb h1 hd he (eq_false_of_ne_true hA) h0 hi hn).mono fun _ _ h=>⟨none,0,h.1,Je _ _,h.2⟩
 ·unfold QB;rw[nG h2,nG h3];exact GK k o ck cn cs ac ar af ag bc br bf bg _ w h2 h3 h0 hi hn
def Zw(d e:Int):Xy:=fun c r _ _=>(c,opI r d e)
def Zv(d e:Int):Xy:=fun c r _ _=>(c,opI r d e)
theorem MM(x:FN)(d e:Int)(p q:Nat)(w:C)(hp:p<w.heap.size)(hq:q<w.heap.size)(cp:w.cell? ⟨p,0,none⟩=some (a b d))(cq:w.cell? ⟨q,0,none⟩=some (a b e))(hs:DU x)(hd: -1000<=d/\d<=1000)(he: -1000<=e/\e<=1000)
  (h0:KA=none->kc=0) (hi:IntRow w KA x.kids) (hn:x.kids.length<=1048576):
  D prog 160 #[Qov x KA kc,.func (.func 123) #[] #[.pointer (some ⟨p,0,none⟩),.pointer (some ⟨q,0,none⟩)]] w fun z w'=>
   ∃KB kb,z= u (Qov (QB (Zw d e) (Zv d e) x) KB kb)/\w'.ownsRow w.heap.size 2 1 (j KB (QB (Zw d e) (Zv d e) x).kids.length kb) (QB (Zw d e) (Zv d e) x).kids.length ((QB (Zw d e) (Zv d e) x).kids.map (s .i64))/\E w.heap.size w w':=by
 obtain⟨k,o,ck,cn,cs,ac,ar,af,ag,bc,br,bf,bg,kids⟩:=x;by_cases h2:k=2
 ·subst h2;obtain⟨ha,hr⟩:=hs.1 (H rfl);unfold QB;rw[pS rfl];by_cases hA:Ql (Zw d e ac ar af ag).1 (Zw d e ac ar af ag).2 (Zv d e ac ar af ag).1 (Zv d e ac ar af ag).2=true
  ·rw[pS hA];exact Qy o ck cn cs ac ar af ag bc br bf bg d e p q w hp hq cp cq ha hr hd he hA h0 hi hn
  ·rw[nG hA];exact(JL o ck cn cs ac ar af ag bc br bf bg d e p q w hp hq cp cq ha hr hd he (eq_false_of_ne_true hA) h0 hi hn).mono fun _ _ h=>⟨none,0,h.1,Je _ _,h.2⟩
 by_cases h3:k=3
 ·subst h3;obtain⟨ha,hr⟩:=hs.1 (Or.inr rfl);obtain⟨hb,h1⟩:=hs.2 rfl;unfold QB;rw[nG h2,pS rfl];by_cases hA:Ql (Zw d e ac ar af ag).1 (Zw d e ac ar af ag).2 (Zv d e bc br bf bg).1 (Zv d e bc br bf bg).2=true
  ·rw[pS hA];exact QK o ck cn cs ac ar af ag bc br bf bg d e p q w hp hq cp cq ha hr hb h1 hd he hA h0 hi hn
  ·rw[nG hA];exact(Vu o ck cn cs ac ar af ag bc br bf bg d e p q w hp hq cp cq ha hr hb h1 hd he (eq_false_of_ne_true hA) h0 hi hn).mono fun _ _ h=>⟨none,0,h.1,Je _ _,h.2⟩
 ·unfold QB;rw[nG h2,nG h3];exact GK k o ck cn cs ac ar af ag bc br bf bg _ w h2 h3 h0 hi hn
def Zi(d e:Int):Xy:=fun c r _ _=>(c,clI r d e d)
def Zh(d e:Int):Xy:=fun c r _ _=>(c,clI r d e (d-1))
theorem ND(x:FN)(d e:Int)(p q:Nat)(w:C)(hp:p<w.heap.size)(hq:q<w.heap.size)(cp:w.cell? ⟨p,0,none⟩=some (a b d))(cq:w.cell? ⟨q,0,none⟩=some (a b e))(hs:DU x)(hd: -1000<=d/\d<=1000)(he: -1000<=e/\e<=1000)
  (h0:KA=none->kc=0) (hi:IntRow w KA x.kids) (hn:x.kids.length<=1048576):
  D prog 160 #[Qov x KA kc,.func (.func 124) #[] #[.pointer (some ⟨p,0,none⟩),.pointer (some ⟨q,0,none⟩)]] w fun z w'=>
   ∃KB kb,z= u (Qov (QB (Zi d e) (Zh d e) x) KB kb)/\w'.ownsRow w.heap.size 2 1 (j KB (QB (Zi d e) (Zh d e) x).kids.length kb) (QB (Zi d e) (Zh d e) x).kids.length ((QB (Zi d e) (Zh d e) x).kids.map (s .i64))/\E w.heap.size w w':=by
 obtain⟨k,o,ck,cn,cs,ac,ar,af,ag,bc,br,bf,bg,kids⟩:=x;by_cases h2:k=2
 ·subst h2;obtain⟨ha,hr⟩:=hs.1 (H rfl);unfold QB;rw[pS rfl];by_cases hA:Ql (Zi d e ac ar af ag).1 (Zi d e ac ar af ag).2 (Zh d e ac ar af ag).1 (Zh d e ac ar af ag).2=true
  ·rw[pS hA];exact ZR o ck cn cs ac ar af ag bc br bf bg d e p q w hp hq cp cq ha hr hd he hA h0 hi hn
  ·rw[nG hA];exact(GJ o ck cn cs ac ar af ag bc br bf bg d e p q w hp hq cp cq ha hr hd he (eq_false_of_ne_true hA) h0 hi hn).mono fun _ _ h=>⟨none,0,h.1,Je _ _,h.2⟩
 by_cases h3:k=3
 ·subst h3;obtain⟨ha,hr⟩:=hs.1 (Or.inr rfl);obtain⟨hb,h1⟩:=hs.2 rfl;unfold QB;rw[nG h2,pS rfl];by_cases hA:Ql (Zi d e ac ar af ag).1 (Zi d e ac ar af ag).2 (Zh d e bc br bf bg).1 (Zh d e bc br bf bg).2=true
  ·rw[pS hA];exact Jr o ck cn cs ac ar af ag bc br bf bg d e p q w hp hq cp cq ha hr hb h1 hd he hA h0 hi hn
  ·rw[nG hA];exact(Mw o ck cn cs ac ar af ag bc br bf bg d e p q w hp hq cp cq ha hr hb h1 hd he (eq_false_of_ne_true hA) h0 hi hn).mono fun _ _ h=>⟨none,0,h.1,Je _ _,h.2⟩
 ·unfold QB;rw[nG h2,nG h3];exact GK k o ck cn cs ac ar af ag bc br bf bg _ w h2 h3 h0 hi hn
end Go.Proofs.YtomadadmakdkgaaGreatDoor
