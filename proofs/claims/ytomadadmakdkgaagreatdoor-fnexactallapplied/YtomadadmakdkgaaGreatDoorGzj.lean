import Derived.Test.YtomadadmakdkgaaGreatDoorGaa
import Derived.Test.YtomadadmakdkgaaGreatDoorGad
import Derived.Deep.RegionHeld3
import Derived.Deep.RegionWith
import Derived.Deep.DeepCutAuto
import Derived.Deep.AppendLies
import Derived.Deep.QuietTactic
import Derived.BigQuiet
import Derived.Laws.BytesString
open Go.Proofs.Tryz
open Go.Value renaming int → d, slice → F, string → H, agg → I
open Go.IntKind renaming i64 → l
open Go renaming rounds_succ → p, World → C, Value → D, wp_loop_rounds → E
open UInt8 renaming ofNat → u
open Go.Obj renaming cells → z
open Go.Ending renaming returned → G
set_option linter.unusedSimpArgs false
set_option linter.unusedVariables false
set_option maxHeartbeats 2000000
set_option maxRecDepth 100000
namespace Go.Proofs.YtomadadmakdkgaaGreatDoor
open Go.RowKit
variable {k:Nat}
def or2(x y:Int):Int:=if x=0 then y else x
theorem Qhk(x y:Int)(b:Nat)(w:C)(c0:w.cell? ⟨b,0,none⟩=some (d l x))(c1:w.cell? ⟨b,1,none⟩=some (d l y)):
  Calls prog 111 #[F (some ⟨b,0,none⟩) 2 2] w fun e w'=>e= G (d l (or2 x y))/\w'=w:=by
 by_cases hx:x=0
 ·subst hx;by_cases hy:y=0
  ·subst hy;go_enter func111,ntmps111;go_wp2
   refine E 3 ?_;rw[p];go_wp2
   rw[p];go_wp2
   rw[p];go_wp2
   go_ret;exact⟨rfl,rfl⟩
  ·have hq:(y !=0)=true:=by simpa using hy
   go_enter func111,ntmps111;go_wp2
   refine E 3 ?_;rw[p];go_wp2
   rw[p];go_wp2
   go_ret;exact⟨rfl,rfl⟩
 ·have hq:(x !=0)=true:=by simpa using hx
  go_enter func111,ntmps111;go_wp2
  refine E 3 ?_;rw[p];go_wp2
  go_ret;exact⟨Zn (by simp[or2,hx]),rfl⟩
def Qe1(c r c' r':Int):Int:=or2 (sgn r r') (sgn c c')
theorem GE(c r c' r':Int):(0<=Qe1 c r c' r')↔YL c r c' r'=false:=by
 unfold Qe1 or2 YL;have:=Qce r;by_cases h:r=r'
 ·subst h;rw[pS (Qce r)];unfold sgn;by_cases h1:c<c'
  ·simp[h1]
  ·by_cases h2:c'<c
   ·simp[h1,h2]
   ·simp[h1,h2]
 ·rw[nG (Qtm h).2];unfold sgn;by_cases h1:r<r'
  ·simp[h1]
  ·have h2:r'<r:=by omega
   simp[h1,h2,h]
theorem JC(c r c' r':Int)(w:C):Calls prog 68 #[I #[d l c,d l r],I #[d l c',d l r']] w fun e w'=>
  e= G (d l (Qe1 c r c' r'))/\Below w.heap.size w w':=by
 go_enter func68,ntmps68;go_wp2_with fail
 go_region_held3 (fun w'=>(∀bq oq,bq<w.heap.size+2->w'.cell? ⟨bq,oq,none⟩=((w.alloc (z #[d l c,d l r] 26)).alloc (z #[d l c',d l r'] 26)).cell? ⟨bq,oq,none⟩)/\w.heap.size+2<=w'.heap.size/\Below (w.heap.size+2) ((w.alloc (z #[d l c,d l r] 26)).alloc (z #[d l c',d l r'] 26)) w')
  (exact QE (by go_size) (by go_grown))
  (first
  | (go_at_call 112;refine(Qhl _ _ _).mono ?_;rintro e w1 ⟨rfl,rfl⟩)
  | (go_at_call 111;refine(Qhk (sgn r r') (sgn c c') _ _ ?_ ?_).mono ?_;(focus (go_simp;done));(focus (go_simp;done));rintro e w1 ⟨rfl,rfl⟩))
 all_goals go_wp2_with fail
 all_goals
  go_ret;exact⟨rfl,Yz (n:=2) (X:=((w.alloc (z #[d l c,d l r] 26)).alloc (z #[d l c',d l r'] 26))) (by go_grown) (by go_grown)⟩
def QH{α:Type}(f:α->List D)(L:List α):List D:=L.flatMap f
theorem BS{α:Type}(f:α->List D)(L:List α)(x:α):QH f (L++ [x])=QH f L++f x:=by simp[QH]
theorem JX{α:Type}{f:α->List D}(hk: ∀x,(f x).length=k): ∀L:List α,(QH f L).length=L.length*k
 | []=>by simp[QH]
 | x::L=>by
  have h:=JX hk L;simp only[QH,List.flatMap_cons,List.length_append,List.length_cons]at h ⊢;rw[h,hk,Nat.add_mul];omega
theorem Ob{α:Type}{f:α->List D}(hk: ∀x,(f x).length=k)(j:Nat)(hj:j<k): ∀(L:List α) (i:Nat),(QH f L)[i*k+j]? =(L[i]?).bind (fun x=>(f x)[j]?)
 | [],i=>by simp[QH]
 | x::L,0=>by
  simp only[QH,List.flatMap_cons,Nat.zero_mul,Nat.zero_add,List.getElem?_cons_zero,Option.bind_some];rw[List.getElem?_append_left (by rw[hk];exact hj)]
 | x::L,i+1=>by
  have h:=Ob hk j hj L i;simp only[QH,List.flatMap_cons,List.getElem?_cons_succ]at h ⊢;rw[List.getElem?_append_right (by rw[hk,Nat.add_mul];omega),hk,<-h];congr 1
  rw[Nat.add_mul];omega
def RowAt{α:Type}(k:Nat)(f:α->List D)(W:C)(A:Option Addr)(L:List α):Prop:=
 L.length<=maxLen/\ ∀i x,L[i]? =some x-> ∃b o,A=some ⟨b,o,none⟩/\b<W.heap.size/\ ∀j v,(f x)[j]? =some v->W.cell? ⟨b,o+i*k+j,none⟩=some v
theorem RowAt.of_own{α:Type}{f:α->List D}(hk: ∀x,(f x).length=k){W:C}{B n:Nat}{e:TypeId}{A:Option Addr}{cap:Nat}{L:List α}(h:W.ownsRow B e k (F A n cap) n (QH f L))(hn:L.length=n):RowAt k f W A L:=by
 subst hn;obtain⟨A',cap',e,hn,hc⟩:=Qr h;cases e
 refine⟨hn,fun i x hx=> ?_⟩;have hi:i<L.length:=(List.getElem?_eq_some_iff.1 hx).1;by_cases h0:k=0
 ·subst h0;have:L.length*0=0:=by omega
  rcases h.2 with⟨e1,e2⟩ | ⟨g,cap2,cur,e1,hb,hg,_⟩
  ·rw[e2]at hi;omega
  ·cases e1
   exact⟨g,0,rfl,(Array.getElem?_eq_some_iff.1 hg).1,fun j v hv=>by have:=(List.getElem?_eq_some_iff.1 hv).1;have:=hk x;omega⟩
 have hm:i*k+0<L.length*k:=by
  have:(i+1)*k<=L.length*k:=Nat.mul_le_mul_right _ hi;rw[Nat.add_mul]at this;omega
 obtain⟨g,rfl,_,hl,_,_⟩:=hc _ hm;refine⟨g,0,rfl,hl,fun j v hv=> ?_⟩;have hj:j<k:=by rw[<-hk x];exact(List.getElem?_eq_some_iff.1 hv).1
 have hm:i*k+j<L.length*k:=by
  have:(i+1)*k<=L.length*k:=Nat.mul_le_mul_right _ hi;rw[Nat.add_mul]at this;omega
 obtain⟨g1,e1,_,_,c1,_⟩:=hc _ hm;cases e1
 rw[Nat.zero_add,c1,Ob hk j hj,hx];exact hv
theorem Qxs{α:Type}{f:α->List D}(hk: ∀x,(f x).length=k){L:List α}{n:Nat}{ys:List D}(hl:ys.length=n*k)(hL:L.length=n)(hy: ∀j,j<n*k->ys[j]? =(QH f L)[j]?):ys=QH f L:=
 Qq5 (n:=n*k) hl (by rw[JX hk,hL]) hy
theorem Qxg(W:C)(b:Nat)(v:Int)(hv:W.cell? ⟨b,0,none⟩=some (.int .u8 v)):
  (convert 22 9 (F (some ⟨b,0,none⟩) 1 1)).run prog W= .ok (H ⟨#[u v.toNat]⟩) W:=by
 rw[run_convert_bytes_string W 22 9 5 (some ⟨b,0,none⟩) 1 1 underlying22 underlying5 underlying9]
 have hl:=run_loadCells_list (P:=prog) W ⟨b,0,none⟩ [.int .u8 v] (fun j x hj=>by
  match j,hj with
  | 0,hj=>simp at hj;simpa[Addr.add,<-hj]using hv)
 rw[run_bytesToString W ⟨b,0,none⟩ 1 1 [v] (by simpa using hl)];rfl
theorem Qxf(W:C)(v:Int):(convert 22 9 (F (some ⟨W.heap.size,0,none⟩) 1 1)).run prog (W.alloc (z #[.int .u8 v] 5))=
  .ok (H ⟨#[u v.toNat]⟩) (W.alloc (z #[.int .u8 v] 5)):=Qxg _ _ v (by simp)
def NQ(m:Nat)(s:ByteArray):ByteArray:=if h:m=0 then s else NQ (m/10) ((⟨#[48+u (m%10)]⟩:ByteArray)++s)
 termination_by m
 decreasing_by omega
def mtx(k:Int):ByteArray:=(⟨#[109]⟩:ByteArray)++NQ k.toNat ⟨#[]⟩
theorem By(s:ByteArray):NQ 0 s=s:=by rw[NQ];rfl
theorem Bz{m:Nat}(h:m≠0)(s:ByteArray):NQ m s=NQ (m/10) ((⟨#[48+u (m%10)]⟩:ByteArray)++s):=by
 rw[NQ,dif_neg h]
theorem Qka(k:Int)(w:C)(h0:0<k)(h1:k<=1099511627776000):Calls prog 49 #[d l k] w fun e w'=>e= G (H (mtx k))/\Below w.heap.size w w':=by
 have hz: ¬k<=0:=by omega
 go_enter func49,ntmps49;go_wp2_with fail
 go_loopw [0,3] (fun q o wr=> ∃(m:Nat) (s:ByteArray),q= d l m/\o= H s/\(s.size:Int)+m<=k/\NQ m s=NQ k.toNat ⟨#[]⟩/\Below w.heap.size w wr) (fun q _ _=>(intOf q).toNat)
 case atStart=>exact⟨k.toNat,⟨#[]⟩,by congr 1;omega,rfl,by show(0:Int)+_<=_;omega,rfl,Below.refl _ _⟩
 case round=>
  obtain⟨m,s,rfl,rfl,hsm,h4,h3⟩:=hrel;have HG:Hid (NQ m s=NQ k.toNat ⟨#[]⟩):=h4;clear h4;have hcv:= @Qxf;by_cases hm:(m:Int)<=0
  ·have h5: ¬9223372036854775807<1+s.size:=by omega
   have h2:m=0:=by omega
   have HF:Hid ((⟨#[109]⟩:ByteArray)++s=mtx k):=by
    show _=_;rw[mtx,<-HG.out,h2,By]
   clear h2;go_wp2_with fail
   go_ret;exact⟨by rw[<-HF.out];rfl,h3⟩
  ·have hp:0<(m:Int):=by omega
   have h5: ¬9223372036854775807<1+s.size:=by omega
   have h2:m≠0:=by omega
   have HS:=HG.out;rw[Bz h2]at HS;have HT:Hid (NQ (m/10) ((⟨#[48+u (m%10)]⟩:ByteArray)++s)=NQ k.toNat ⟨#[]⟩):=HS;clear HS HG h2;go_wp2_with fail
   all_goals
    go_roundw
    case rel=>exact⟨m/10,_,by congr 1,rfl,by rw[ByteArray.size_append];show((1+s.size:Nat):Int)+((m/10:Nat):Int)<=k;omega,HT.out,by have hbs:=h3.size;go_grown⟩
    case measure=>simp[intOf];omega
def mkL{α:Type}(mk:Int->α)(k:Nat)(k0:Int)(n:Nat):List α:=(List.range n).map fun(i:Nat)=>mk (k0+(i:Int)*(k:Int))
theorem Qxr{α:Type}(mk:Int->α)(k:Nat)(k0:Int)(n:Nat):(mkL mk k k0 n).length=n:=by simp[mkL]
theorem Qyc{α:Type}(mk:Int->α)(k:Nat)(k0:Int)(n t:Nat)(h:t<n):(mkL mk k k0 n)[t]? =some (mk (k0+(t:Int)*k)):=by simp[mkL,h]
theorem Zt{W:C}{B g:Nat}{e:TypeId}{size:Nat}(hB:B<=W.heap.size)(hg:g=W.heap.size):(W.alloc (z #[] e)).ownsRow B e size (F (some ⟨g,0,none⟩) 0 0) 0 []:=by
 subst hg;exact World.ownsRow_made W #[] 0 hB (Nat.zero_le _) (by simp)
theorem Qsj{a b:C}(row:Option Nat)(hb:Below a.heap.size a b):a.grownBy b row:=⟨hb.os,hb.tape,hb.output,hb.size,fun q hq _=>hb.block q hq⟩
end Go.Proofs.YtomadadmakdkgaaGreatDoor
