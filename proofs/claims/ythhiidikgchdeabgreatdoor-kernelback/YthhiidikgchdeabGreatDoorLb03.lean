/- Texts laid together. -/
import Derived.WalkKit
import Derived.WalkSpells
import Derived.Deep.QuietTactic
import Derived.BigQuiet
import Derived.Lib.TrailingZeros
import Derived.Test.YthhiidikgchdeabGreatDoorChecked
import Derived.Handy
import Derived.Laws.CopyOwn
import Derived.BigRegion
import Derived.Deep.LoopGhost
import Derived.Deep.RegionLaw
import Derived.WalkSmall
import Derived.OpenShut
import Derived.Laws.MathBits
import Derived.Lib.BitFns
import Derived.Lib.Walk
import Derived.Lib.Small
import Derived.Shelf.Spec.TrailingZeros
import Derived.Deep.RegionHeld3
import Derived.Deep.MidRow
import Derived.Laws.ResultCell
import Derived.Deep.Cut
import Derived.Laws.IdiomStrings
import Derived.OrdersHeld
import Derived.Deep.RegionWith
import Derived.Laws.OwnMore
import Derived.Deep.AppendLies
import Derived.ChangeMaps4
import Derived.Deep.DeepCutAuto
namespace Go.Proofs.YthhiidikgchdeabGreatDoor
open Go.RowKit
def sz (s:Bool)(n:Nat):Int:=if s then-(n:Int) else n
theorem Y5 (s:Bool)(n k:Nat):sz s n*(k:Int)=sz s (n*k):=by
 unfold sz
 cases s<;>simp[Int.neg_mul]
theorem Y6 (s t:Bool)(x y:Nat):sz s x+sz t y=if s=t then sz s (x+y) else if x<y then sz t (y-x) else sz s (x-y):=by
 unfold sz
 cases s<;>cases t<;>simp<;>(try split)<;>omega
def sgn (z:Int):Int:=if z=0 then 0 else if z<0 then-1 else 1
theorem aW {B b:Nat}{w c:World}(h:Below B w c)(a:B≤b)(d e f g i j:Value):Below B w ((((((c.setCell ⟨b,0,none⟩ d).setCell ⟨b,1,none⟩ e).setCell ⟨b,2,none⟩ f).setCell ⟨b,3,none⟩ g).setCell ⟨b,4,none⟩ i).setCell ⟨b,5,none⟩ j):=
 ((((((h.setCell (p:=⟨b,0,none⟩) a d).setCell (p:=⟨b,1,none⟩) a e).setCell (p:=⟨b,2,none⟩) a f).setCell (p:=⟨b,3,none⟩) a g).setCell (p:=⟨b,4,none⟩) a i).setCell (p:=⟨b,5,none⟩) a j)
theorem Dd {B b:Nat}{w c:World}(h:Below B w c)(a:B≤b)(d e f:Value):Below B w (((c.setCell ⟨b,3,none⟩ d).setCell ⟨b,4,none⟩ e).setCell ⟨b,5,none⟩ f):=
 (((h.setCell (p:=⟨b,3,none⟩) a d).setCell (p:=⟨b,4,none⟩) a e).setCell (p:=⟨b,5,none⟩) a f)
def ab (x:Rat):Rat:=if x<0 then-x else x
theorem ab_nonneg (x:Rat):0≤ab x:=by unfold ab;grind
theorem ab_add (x y:Rat):ab (x+y)≤ab x+ab y:=by unfold ab;grind
theorem ab_neg (x:Rat):ab (-x)=ab x:=by unfold ab;grind
theorem ab_mul (x y:Rat):ab (x*y)=ab x*ab y:=by
 have c: ∀a b:Rat,0≤a→0≤b→0≤a*b:=fun a b=>Rat.mul_nonneg
 unfold ab
 by_cases d:x<0<;>by_cases e:y<0
 ·have:=c (-x) (-y) (by grind) (by grind)
  rw[if_pos d,if_pos e]
  grind
 ·have:=c (-x) y (by grind) (by grind)
  rw[if_pos d,if_neg e]
  grind
 ·have:=c x (-y) (by grind) (by grind)
  rw[if_neg d,if_pos e]
  grind
 ·have:=c x y (by grind) (by grind)
  rw[if_neg d,if_neg e]
  grind
theorem mul_le_mul' {a b c d:Rat}(i:a≤b)(j:c≤d)(e:0≤c)(f:0≤b):a*c≤b*d:=by
 have g:=Rat.mul_nonneg (show 0≤b-a by grind) e
 have h:=Rat.mul_nonneg f (show 0≤d-c by grind)
 grind
def rs (f:Nat→Rat):Nat→Rat
 |0=>0
 |n+1=>rs f n+f n
structure CxN where
 re:Rat
 im:Rat
@[ext] theorem CxN.ext' {a b:CxN} (h:a.re=b.re) (g:a.im=b.im):a=b:=by cases a;cases b;simp_all
def CxN.add (a b:CxN):CxN:=⟨a.re+b.re,a.im+b.im⟩
def CxN.mul (a b:CxN):CxN:=⟨a.re*b.re-a.im*b.im,a.re*b.im+a.im*b.re⟩
def CxN.sc (c:Rat)(a:CxN):CxN:=⟨c*a.re,c*a.im⟩
def CxN.one:CxN:=⟨1,0⟩
def CxN.zero:CxN:=⟨0,0⟩
theorem CxN.mul_comm (a b:CxN):mul a b=mul b a:=by apply ext'<;>simp only[mul]<;>grind
theorem CxN.mul_assoc (a b c:CxN):mul (mul a b) c=mul a (mul b c):=by apply ext'<;>simp only[mul]<;>grind
theorem CxN.mul_add (a b c:CxN):mul a (add b c)=add (mul a b) (mul a c):=by apply ext'<;>simp only[mul,add]<;>grind
theorem CxN.sc_mul (c:Rat)(a b:CxN):mul (sc c a) b=sc c (mul a b):=by apply ext'<;>simp only[mul,sc]<;>grind
def CxN.sm (f:Nat→CxN):Nat→CxN
 |0=>zero
 |n+1=>add (sm f n) (f n)
theorem CxN.sm_add (f g:Nat→CxN): ∀n,sm (fun i=>add (f i) (g i)) n=add (sm f n) (sm g n)
 |0=>by simp only[sm,zero,add];grind
 |n+1=>by
  simp only[sm,sm_add f g n];apply ext'<;>simp only[add]<;>grind
theorem CxN.sm_mul (c:CxN)(f:Nat→CxN): ∀n,sm (fun i=>mul c (f i)) n=mul c (sm f n)
 |0=>by apply ext'<;>simp only[sm,zero,mul]<;>grind
 |n+1=>by simp only[sm,sm_mul c f n,mul_add]
theorem CxN.sm_congr {f g:Nat→CxN}: ∀{n},(∀i,i<n→f i=g i)→sm f n=sm g n
 |0,_=>rfl
 |n+1,h=>by simp only[sm,sm_congr (n:=n) (fun i a=>h i (by omega)),h n (by omega)]
theorem CxN.sm_shift (f:Nat→CxN): ∀n,sm f (n+1)=add (f 0) (sm (fun i=>f (i+1)) n)
 |0=>by apply ext'<;>simp only[sm,add,zero]<;>grind
 |n+1=>by
  have:=sm_shift f n;rw[sm,this];simp only[sm];apply ext'<;>simp only[add]<;>grind
def CxN.pz (z:CxN):Nat→CxN
 |0=>one
 |k+1=>sc (1/((k+1:Nat):Rat)) (mul (pz z k) z)
theorem CxN.nat_ne (k:Nat):((k+1:Nat):Rat)≠0:=by
 intro c;have:((k+1:Nat):Rat)=((0:Nat):Rat):=by rw[c];rfl
 exact absurd (Rat.natCast_inj.1 this) (by omega)
theorem CxN.pz_succ (z:CxN)(k:Nat):sc ((k+1:Nat):Rat) (pz z (k+1))=mul (pz z k) z:=by
 have h:=nat_ne k;apply ext'<;>simp only[pz,sc]<;>grind
theorem CxN.sc_inj {c:Rat}(h:c≠0){a b:CxN}(e:sc c a=sc c b):a=b:=by
 have d:=congrArg CxN.re e;have f:=congrArg CxN.im e;simp only[sc] at d f;apply ext'<;>grind
def CxN.cm (x y:CxN)(m:Nat):CxN:=sm (fun i=>mul (pz x i) (pz y (m-i))) (m+1)
theorem CxN.cm_rec (x y:CxN)(m:Nat):sc ((m+1:Nat):Rat) (cm x y (m+1))=mul (add x y) (cm x y m):=by
 have b:sc ((m+1:Nat):Rat) (cm x y (m+1))=sm (fun i=>add (sc (i:Nat) (mul (pz x i) (pz y (m+1-i)))) (sc ((m+1-i:Nat):Nat) (mul (pz x i) (pz y (m+1-i))))) (m+2):=by
  unfold cm;have:sc ((m+1:Nat):Rat) (sm (fun i=>mul (pz x i) (pz y (m+1-i))) (m+1+1))=sm (fun i=>mul (sc ((m+1:Nat):Rat) one) (mul (pz x i) (pz y (m+1-i)))) (m+2):=by
   rw[sm_mul];apply ext'<;>simp only[mul,sc,one]<;>grind
  rw[this];refine sm_congr fun i a=> ?_
  have e:((m+1:Nat):Rat)=(i:Nat)+((m+1-i:Nat):Rat):=by
   rw[←Rat.natCast_add]
   congr 1
   omega
  rw[e];apply ext'<;>simp only[mul,sc,one,add]<;>grind
 rw[b,sm_add,sm_shift];have c:sm (fun i=>sc ((i+1:Nat):Nat) (mul (pz x (i+1)) (pz y (m+1-(i+1))))) (m+1)=mul x (cm x y m):=by
  unfold cm;rw[←sm_mul];refine sm_congr fun i a=> ?_
  rw[←sc_mul,pz_succ,show m+1-(i+1)=m-i by omega,mul_comm (pz x i) x,mul_assoc]
 have d:sm (fun i=>sc ((m+1-i:Nat):Nat) (mul (pz x i) (pz y (m+1-i)))) (m+1)=mul y (cm x y m):=by
  unfold cm;rw[←sm_mul];refine sm_congr fun i a=> ?_
  rw[show m+1-i=m-i+1 by omega,mul_comm (pz x i),←sc_mul,pz_succ,mul_comm (pz y (m-i)) y,mul_assoc,mul_comm (pz y (m-i))]
 have f:sm (fun i=>sc ((m+1-i:Nat):Nat) (mul (pz x i) (pz y (m+1-i)))) (m+2)=mul y (cm x y m):=by
  rw[sm,d];apply ext'<;>simp only[mul,sc,add]<;>simp<;>grind
 rw[c,f];apply ext'<;>simp only[mul,sc,add]<;>simp<;>grind
theorem CxN.cm_eq (x y:CxN): ∀m,cm x y m=pz (add x y) m
 |0=>by
  show add zero (mul one one)=one
  apply ext'<;>simp only[add,mul,zero,one]<;>grind
 |m+1=>by
  refine sc_inj (nat_ne m) ?_;rw[cm_rec,cm_eq x y m,pz_succ,mul_comm]
theorem CxN.tri (x y:CxN): ∀n,sm (pz (add x y)) n=sm (fun i=>mul (pz x i) (sm (pz y) (n-i))) n
 |0=>rfl
 |n+1=>by
  rw[sm,tri x y n,←cm_eq];unfold cm;have h:sm (fun i=>mul (pz x i) (sm (pz y) (n+1-i))) (n+1)=add (sm (fun i=>mul (pz x i) (sm (pz y) (n-i))) n) (sm (fun i=>mul (pz x i) (pz y (n-i))) (n+1)):=by
   rw[sm,sm,show n+1-n=0+1 by omega,show n-n=0 by omega]
   have:sm (fun i=>mul (pz x i) (sm (pz y) (n+1-i))) n=sm (fun i=>add (mul (pz x i) (sm (pz y) (n-i))) (mul (pz x i) (pz y (n-i)))) n:=by
    refine sm_congr fun i a=> ?_
    rw[show n+1-i=n-i+1 by omega,sm,mul_add]
   rw[this,sm_add];simp only[sm];apply ext'<;>simp only[mul,add,zero]<;>grind
  rw[h]
def CxN.nm (z:CxN):Rat:=ab z.re+ab z.im
theorem CxN.nm_nonneg (z:CxN):0≤nm z:=by
 have:=ab_nonneg z.re;have:=ab_nonneg z.im;unfold nm
 grind
theorem CxN.nm_add (a b:CxN):nm (add a b)≤nm a+nm b:=by
 have:=ab_add a.re b.re;have:=ab_add a.im b.im;unfold nm add
 grind
theorem CxN.nm_sc (c:Rat)(a:CxN):nm (sc c a)=ab c*nm a:=by
 unfold nm sc;simp only[ab_mul]
 grind
theorem CxN.nm_mul (a b:CxN):nm (mul a b)≤nm a*nm b:=by
 have c:=ab_add (a.re*b.re) (-(a.im*b.im));have d:=ab_add (a.re*b.im) (a.im*b.re);rw[ab_neg,ab_mul,ab_mul] at c;rw[ab_mul,ab_mul] at d;unfold nm mul;have e:a.re*b.re-a.im*b.im=a.re*b.re+ -(a.im*b.im):=by grind
 rw[e]
 grind
theorem CxN.nm_sm {f:Nat→CxN}{g:Nat→Rat}: ∀{n},(∀i,i<n→nm (f i)≤g i)→nm (sm f n)≤rs g n
 |0,_=>by
  simp only[sm,rs,zero,nm,ab]
  grind
 |n+1,h=>by
  have a:=nm_sm (n:=n) (fun i d=>h i (by omega))
  have b:=h n (by omega);have c:=nm_add (sm f n) (f n);simp only[sm,rs]
  grind
def prE (b:Rat):Nat→Rat
 |0=>1
 |k+1=>1/((k+1:Nat):Rat)*(prE b k*b)
theorem inv_nn {c:Rat}(h:0<c):0≤1/c:=by
 have e:1/c*c=1:=by grind
 generalize 1/c=d at*
 by_cases g:0≤d
 ·exact g
 ·have:=Rat.mul_nonneg (show 0≤ -d by grind) (show 0≤c by grind)
  grind
theorem nat_pos (k:Nat):(0:Rat)< ((k+1:Nat):Rat):=by
 have:((0:Nat):Rat)< ((k+1:Nat):Rat):=Rat.natCast_lt_natCast.2 (by omega)
 simpa using this
theorem inv_nonneg (k:Nat):0≤1/((k+1:Nat):Rat):=inv_nn (nat_pos k)
theorem pr_nonneg {b:Rat}(h:0≤b): ∀k,0≤prE b k
 |0=>by simp only[prE];grind
 |k+1=>Rat.mul_nonneg (inv_nonneg k) (Rat.mul_nonneg (pr_nonneg h k) h)
theorem nm_pz (z:CxN): ∀k,CxN.nm (CxN.pz z k)≤prE (CxN.nm z) k
 |0=>by simp only[CxN.pz,prE,CxN.one,CxN.nm,ab];grind
 |k+1=>by
  simp only[CxN.pz,prE];rw[CxN.nm_sc];have a:=inv_nonneg k;have e:ab (1/((k+1:Nat):Rat))=1/((k+1:Nat):Rat):=by unfold ab;grind
  rw[e];refine Rat.mul_le_mul_of_nonneg_left ?_ a;refine Rat.le_trans (CxN.nm_mul _ _) ?_;exact Rat.mul_le_mul_of_nonneg_right (nm_pz z k) (CxN.nm_nonneg z)
theorem pz_real (b:Rat): ∀k,CxN.pz ⟨b,0⟩ k=⟨prE b k,0⟩
 |0=>rfl
 |k+1=>by
  simp only[CxN.pz,prE,pz_real b k];apply CxN.ext'<;>simp only[CxN.mul,CxN.sc]<;>grind
theorem sm_real (f:Nat→Rat): ∀n,CxN.sm (fun i=>⟨f i,0⟩) n=⟨rs f n,0⟩
 |0=>rfl
 |n+1=>by
  simp only[CxN.sm,rs,sm_real f n];apply CxN.ext'<;>simp only[CxN.add]<;>grind
theorem rs_le {f g:Nat→Rat}: ∀{n},(∀i,i<n→f i≤g i)→rs f n≤rs g n
 |0,_=>Rat.le_refl
 |n+1,h=>by
  have a:=rs_le (n:=n) (fun i c=>h i (by omega))
  have b:=h n (by omega);simp only[rs]
  grind
theorem rs_mono {f:Nat→Rat}(h: ∀i,0≤f i){m n:Nat}(a:m≤n):rs f m≤rs f n:=by
 induction a with
 |refl=>exact Rat.le_refl
 |step _ ih=>
  have:=h ‹_›;simp only[rs]
  grind
theorem rs_mul (c:Rat)(f:Nat→Rat): ∀n,rs (fun i=>f i*c) n=rs f n*c
 |0=>by simp only[rs];grind
 |n+1=>by simp only[rs,rs_mul c f n];grind
theorem rs_sub (f g:Nat→Rat): ∀n,rs (fun i=>f i-g i) n=rs f n-rs g n
 |0=>by simp only[rs];grind
 |n+1=>by simp only[rs,rs_sub f g n];grind
def er (b:Rat)(n:Nat):Rat:=rs (prE b) n
def ez (z:CxN)(n:Nat):CxN:=CxN.sm (CxN.pz z) n
theorem ez_real (b:Rat)(n:Nat):ez ⟨b,0⟩ n=⟨er b n,0⟩:=by
 unfold ez er;rw[CxN.sm_congr (g:=fun i=>⟨prE b i,0⟩) (fun i _=>pz_real b i),sm_real]
theorem tri_real (a b:Rat)(n:Nat):er (a+b) n=rs (fun i=>prE a i*er b (n-i)) n:=by
 have h:=CxN.tri ⟨a,0⟩ ⟨b,0⟩ n;have e:CxN.add ⟨a,0⟩ ⟨b,0⟩=⟨a+b,0⟩:=by apply CxN.ext'<;>simp only[CxN.add]<;>grind
 rw[e] at h;have c:=ez_real (a+b) n;unfold ez at c;rw[c] at h;have f:CxN.sm (fun i=>CxN.mul (CxN.pz ⟨a,0⟩ i) (CxN.sm (CxN.pz ⟨b,0⟩) (n-i))) n=CxN.sm (fun i=>⟨prE a i*er b (n-i),0⟩) n:=by
  refine CxN.sm_congr fun i _=> ?_
  have d:=ez_real b (n-i);unfold ez at d;rw[pz_real,d];apply CxN.ext'<;>simp only[CxN.mul]<;>grind
 rw[f,sm_real] at h;exact congrArg CxN.re h
theorem er_mono {b:Rat}(h:0≤b){m n:Nat}(a:m≤n):er b m≤er b n:=rs_mono (pr_nonneg h) a
theorem er_nonneg {b:Rat}(h:0≤b)(n:Nat):0≤er b n:=er_mono h (Nat.zero_le n)
theorem er_prod {a b:Rat}(d:0≤a)(e:0≤b)(n:Nat):er a n*er b n≤er (a+b) (2*n):=by
 rw[tri_real];have c:rs (fun i=>prE a i*er b n) n≤rs (fun i=>prE a i*er b (2*n-i)) n:=rs_le fun i g=>Rat.mul_le_mul_of_nonneg_left (er_mono e (by omega)) (pr_nonneg d i)
 have f:rs (fun i=>prE a i*er b (2*n-i)) n≤rs (fun i=>prE a i*er b (2*n-i)) (2*n):=rs_mono (fun i=>Rat.mul_nonneg (pr_nonneg d i) (er_nonneg e _)) (by omega)
 rw[rs_mul] at c;exact Rat.le_trans c f
theorem sm_diff (z:CxN){m n:Nat}(h:m≤n):CxN.nm (CxN.add (ez z n) (CxN.sc (-1) (ez z m)))≤er (CxN.nm z) n-er (CxN.nm z) m:=by
 induction h with
 |refl=>
  have:CxN.add (ez z m) (CxN.sc (-1) (ez z m))=CxN.zero:=by apply CxN.ext'<;>simp only[CxN.add,CxN.sc,CxN.zero]<;>grind
  rw[this];simp only[CxN.zero,CxN.nm,ab]
  grind
 | @step n _ ih=>
  have e:CxN.add (ez z (n+1)) (CxN.sc (-1) (ez z m))=CxN.add (CxN.add (ez z n) (CxN.sc (-1) (ez z m))) (CxN.pz z n):=by
   unfold ez;rw[CxN.sm];apply CxN.ext'<;>simp only[CxN.add,CxN.sc]<;>grind
  show CxN.nm (CxN.add (ez z (n+1)) (CxN.sc (-1) (ez z m)))≤er (CxN.nm z) (n+1)-er (CxN.nm z) m
  rw[e];have a:=CxN.nm_add (CxN.add (ez z n) (CxN.sc (-1) (ez z m))) (CxN.pz z n);have b:=nm_pz z n;have c:er (CxN.nm z) (n+1)=er (CxN.nm z) n+prE (CxN.nm z) n:=rfl
  grind
theorem ez_prod (x y:CxN)(n:Nat):CxN.nm (CxN.add (CxN.mul (ez x n) (ez y n)) (CxN.sc (-1) (ez (CxN.add x y) n)))≤er (CxN.nm x+CxN.nm y) (2*n)-er (CxN.nm x+CxN.nm y) n:=by
 have a:=CxN.nm_nonneg x;have g:=CxN.nm_nonneg y;have e:CxN.add (CxN.mul (ez x n) (ez y n)) (CxN.sc (-1) (ez (CxN.add x y) n))=CxN.sm (fun i=>CxN.mul (CxN.pz x i) (CxN.add (ez y n) (CxN.sc (-1) (ez y (n-i))))) n:=by
  have b:ez (CxN.add x y) n=CxN.sm (fun i=>CxN.mul (CxN.pz x i) (ez y (n-i))) n:=CxN.tri x y n
  have c:CxN.mul (ez x n) (ez y n)=CxN.sm (fun i=>CxN.mul (CxN.pz x i) (ez y n)) n:=by
   unfold ez;rw[CxN.mul_comm,←CxN.sm_mul];exact CxN.sm_congr fun i _=>CxN.mul_comm _ _
  have d:CxN.sc (-1) (ez (CxN.add x y) n)=CxN.sm (fun i=>CxN.mul (CxN.sc (-1) CxN.one) (CxN.mul (CxN.pz x i) (ez y (n-i)))) n:=by
   rw[CxN.sm_mul,←b];apply CxN.ext'<;>simp only[CxN.mul,CxN.sc,CxN.one]<;>grind
  rw[c,d,←CxN.sm_add];refine CxN.sm_congr fun i _=> ?_
  apply CxN.ext'<;>simp only[CxN.mul,CxN.sc,CxN.one,CxN.add]<;>grind
 rw[e];have f:CxN.nm (CxN.sm (fun i=>CxN.mul (CxN.pz x i) (CxN.add (ez y n) (CxN.sc (-1) (ez y (n-i))))) n)≤rs (fun i=>prE (CxN.nm x) i*er (CxN.nm y) n-prE (CxN.nm x) i*er (CxN.nm y) (n-i)) n:=CxN.nm_sm fun i _=>by
  have h:=CxN.nm_mul (CxN.pz x i) (CxN.add (ez y n) (CxN.sc (-1) (ez y (n-i))));have j:=mul_le_mul' (nm_pz x i) (sm_diff y (show n-i≤n by omega)) (CxN.nm_nonneg _) (pr_nonneg a i)
  grind
 rw[rs_sub,rs_mul,←tri_real] at f;have k:=er_prod a g n;unfold er at*
 grind
def hf:Nat→Rat
 |0=>1
 |n+1=>hf n*(1/2)
theorem hf_pos: ∀n,0<hf n
 |0=>by simp only[hf];grind
 |n+1=>by
  have:=hf_pos n;simp only[hf]
  grind
theorem hf_add (m:Nat): ∀n,hf (m+n)=hf m*hf n
 |0=>by simp only[hf];grind
 |n+1=>by
  have:=hf_add m n
  show hf (m+n)*(1/2)=hf m*(hf n*(1/2))
  grind
theorem hf_double (m:Nat):hf (2*m)=hf m*hf m:=by rw[show 2*m=m+m by omega,hf_add]
theorem hf_one: ∀n,hf n≤1
 |0=>Rat.le_refl
 |n+1=>by
  have a:=hf_one n;have b:=hf_pos n;simp only[hf]
  grind
theorem hf_nat: ∀n:Nat,hf n*((n+1:Nat):Rat)≤1
 |0=>by simp only[hf];simp
 |n+1=>by
  have c:=hf_nat n;have d:=hf_pos n;have a:((n+1+1:Nat):Rat)=((n+1:Nat):Rat)+1:=by simp
  have b:(1:Rat)≤((n+1:Nat):Rat):=by
   have:((1:Nat):Rat)≤((n+1:Nat):Rat):=Rat.natCast_le_natCast.2 (by omega)
   simpa using this
  have e:=Rat.mul_le_mul_of_nonneg_left b (show 0≤hf n by grind)
  simp only[hf];rw[a]
  grind
theorem pr_half {B:Rat}(f:0≤B){k:Nat}(g:2*B≤((k+1:Nat):Rat)):2*prE B (k+1)≤prE B k:=by
 have b:=pr_nonneg f k;have h:=nat_pos k;have d:=inv_nonneg k;have e:1/((k+1:Nat):Rat)*((k+1:Nat):Rat)=1:=by grind
 simp only[prE];generalize 1/((k+1:Nat):Rat)=i at*;generalize((k+1:Nat):Rat)=c at*;have a:=Rat.mul_le_mul_of_nonneg_left g d;rw[e] at a;have j:=Rat.mul_le_mul_of_nonneg_left a b
 grind
theorem er_tail {B:Rat}(c:0≤B){K:Nat}(d:2*B≤(K:Rat)){n m:Nat}(h:K≤n)(a:n≤m):er B m+2*prE B m≤er B n+2*prE B n:=by
 induction a with
 |refl=>exact Rat.le_refl
 | @step m a ih=>
  have g:n≤m:=a;have b:((K:Nat):Rat)≤((m+1:Nat):Rat):=Rat.natCast_le_natCast.2 (by omega);have e:=pr_half c (k:=m) (Rat.le_trans d b);have f:er B (m+1)=er B m+prE B m:=rfl
  show er B (m+1)+2*prE B (m+1)≤_
  grind
theorem pr_le {a b:Rat}(c:0≤a)(d:a≤b): ∀i,prE a i≤prE b i
 |0=>Rat.le_refl
 |i+1=>by
  simp only[prE];refine Rat.mul_le_mul_of_nonneg_left ?_ (inv_nonneg i);exact mul_le_mul' (pr_le c d i) d c (pr_nonneg (Rat.le_trans c d) i)
theorem er_le {a b:Rat}(c:0≤a)(d:a≤b)(n:Nat):er a n≤er b n:=rs_le fun i _=>pr_le c d i
theorem er_diff {a b:Rat}(c:0≤a)(d:a≤b){n m:Nat}(h:n≤m):er a m-er a n≤er b m-er b n:=by
 induction h with
 |refl=>grind
 | @step m _ ih=>
  have e:=pr_le c d m;have f:er a (m+1)=er a m+prE a m:=rfl;have g:er b (m+1)=er b m+prE b m:=rfl
  show er a (m+1)-er a n≤er b (m+1)-er b n
  grind
def CxN.pwE (z:CxN):Nat→CxN
 |0=>one
 |k+1=>mul (pwE z k) z
def CxN.sb (a b:CxN):CxN:=add a (sc (-1) b)
theorem CxN.nm_sb (a b:CxN):nm (sb a b)≤nm a+nm b:=by
 have h:=nm_add a (sc (-1) b);rw[nm_sc] at h;have:ab (-1)=1:=by unfold ab;grind
 rw[this] at h;unfold sb
 grind
theorem CxN.nm_pw {z:CxN}(h:nm z≤1/4): ∀k,nm (pwE z k)≤hf (2*k)
 |0=>by simp only[pwE,one,nm,ab,hf];grind
 |k+1=>by
  have a:=nm_pw h k;have b:=nm_mul (pwE z k) z;have c:=mul_le_mul' a h (nm_nonneg z) (show 0≤hf (2*k) by have:=hf_pos (2*k);grind)
  have d:hf (2*(k+1))=hf (2*k)*(1/2)*(1/2):=rfl;simp only[pwE]
  grind
def CxN.pe (u h:CxN):Nat→CxN
 |0=>zero
 |m+1=>add (mul (add u h) (pe u h m)) (sc ((m+1:Nat):Rat) (mul (pwE u m) (mul h h)))
theorem CxN.pw_grow (u h:CxN): ∀m,pwE (add u h) (m+1)=add (add (pwE u (m+1)) (sc ((m+1:Nat):Rat) (mul (pwE u m) h))) (pe u h m)
 |0=>by
  apply ext'<;>simp only[pwE,pe,one,zero,mul,add,sc]<;>simp<;>grind
 |m+1=>by
  have a:=pw_grow u h m;rw[pwE,a];have e:((m+1+1:Nat):Rat)=((m+1:Nat):Rat)+1:=by simp
  rw[e];simp only[pe,pwE];apply ext'<;>simp only[mul,add,sc]<;>grind
theorem CxN.nm_pe {u h:CxN}(b:nm u≤1/4)(c:nm (add u h)≤1/4): ∀m,nm (pe u h m)≤4*(nm h*nm h)*hf m
 |0=>by
  have:=nm_nonneg h;have:=Rat.mul_nonneg this this;simp only[pe,zero,hf];have:nm ⟨0,0⟩=0:=by unfold nm ab;grind
  rw[this]
  grind
 |m+1=>by
  have o:=nm_pe b c m;have d:=nm_nonneg h;have nn:=Rat.mul_nonneg d d;have a:=nm_add (mul (add u h) (pe u h m)) (sc ((m+1:Nat):Rat) (mul (pwE u m) (mul h h)));have r:=nm_mul (add u h) (pe u h m);have s:=mul_le_mul' c o (nm_nonneg _) (show(0:Rat)≤1/4 by grind)
  rw[nm_sc] at a;have g:ab ((m+1:Nat):Rat)=((m+1:Nat):Rat):=by have:=nat_pos m;unfold ab;grind
  have i:=nm_mul (pwE u m) (mul h h);have j:=nm_mul h h;have k:=mul_le_mul' (nm_pw b m) j (nm_nonneg _) (show 0≤hf (2*m) by have:=hf_pos (2*m);grind)
  have l:=Rat.mul_le_mul_of_nonneg_left (Rat.le_trans i k) (show 0≤((m+1:Nat):Rat) by have:=nat_pos m;grind)
  have n:hf (2*m)=hf m*hf m:=hf_double m;have e:=hf_nat m;have p:=hf_pos m;have q:=Rat.mul_le_mul_of_nonneg_left e (show 0≤hf m*(nm h*nm h) by exact Rat.mul_nonneg (by grind) nn)
  have f:hf (m+1)=hf m*(1/2):=rfl;simp only[pe];rw[g] at a;rw[n] at l;rw[f]
  grind
def CxN.at' (z:CxN)(n:Nat):CxN:=sm (fun j=>sc (1/((2*j+1:Nat):Rat)) (pwE z (2*j+1))) n
def CxN.ge (z:CxN)(n:Nat):CxN:=sm (fun j=>pwE z (2*j)) n
theorem CxN.odd_ne (j:Nat):((2*j+1:Nat):Rat)≠0:=nat_ne (2*j)
theorem CxN.at_grow (u h:CxN)(n:Nat):at' (add u h) n=add (add (at' u n) (mul (ge u n) h)) (sm (fun j=>sc (1/((2*j+1:Nat):Rat)) (pe u h (2*j))) n):=by
 have a:at' (add u h) n=sm (fun j=>add (add (sc (1/((2*j+1:Nat):Rat)) (pwE u (2*j+1))) (mul h (pwE u (2*j)))) (sc (1/((2*j+1:Nat):Rat)) (pe u h (2*j)))) n:=by
  refine sm_congr fun j _=> ?_
  rw[pw_grow];have:=odd_ne j;have e:1/((2*j+1:Nat):Rat)*((2*j+1:Nat):Rat)=1:=by grind
  generalize 1/((2*j+1:Nat):Rat)=i at*;generalize((2*j+1:Nat):Rat)=c at*;apply ext'<;>simp only[mul,add,sc]<;>grind
 rw[a,sm_add,sm_add,sm_mul];unfold at' ge;rw[mul_comm h]
theorem CxN.ge_tele (u:CxN): ∀n,mul (ge u n) (sb one (mul u u))=sb one (pwE u (2*n))
 |0=>by apply ext'<;>simp only[ge,sm,sb,one,zero,mul,add,sc,pwE]<;>grind
 |n+1=>by
  have a:=ge_tele u n;have e:ge u (n+1)=add (ge u n) (pwE u (2*n)):=rfl;have b:pwE u (2*(n+1))=mul (mul (pwE u (2*n)) u) u:=rfl;rw[e,b];have c:=congrArg CxN.re a;have d:=congrArg CxN.im a;simp only[sb,one,mul,add,sc] at c d;apply ext'<;>simp only[sb,one,mul,add,sc]<;>grind
theorem er_two {b:Rat}(e:0≤b)(j:b≤1){n:Nat}(i:2≤n):er b n≤1+b+b*b:=by
 have h:=er_tail e (K:=2) (by have:((2:Nat):Rat)=2:=rfl;rw[this];grind) (Nat.le_refl 2) i;have g:=pr_nonneg e n;have d:prE b 0=1:=rfl;have a:prE b 1=1/((0+1:Nat):Rat)*(prE b 0*b):=rfl;have c:prE b 2=1/((1+1:Nat):Rat)*(prE b 1*b):=rfl;have f:er b 2=0+prE b 0+prE b 1:=rfl;simp at a c;rw[a,d] at c;rw[f,a,c,d] at h
 grind
theorem CxN.ez_two (z:CxN)(c:nm z≤1){n:Nat}(b:2≤n):nm (sb (ez z n) (add one z))≤nm z*nm z:=by
 have h:=sm_diff z b;have e:ez z 2=add one z:=by
  have a:pz z 1=sc (1/((0+1:Nat):Rat)) (mul one z):=rfl
  show add (add zero one) (pz z 1)=_
  rw[a];apply ext'<;>simp only[add,sc,mul,one,zero]<;>simp<;>grind
 rw[e] at h;have g:=er_two (nm_nonneg z) c b;have d:er (nm z) 2=1+nm z:=by
  have a:prE (nm z) 1=1/((0+1:Nat):Rat)*(1*nm z):=rfl
  show 0+1+prE (nm z) 1=_
  rw[a];simp
  grind
 unfold sb
 grind
theorem CxN.nm_sm_le {f:Nat→CxN}{c:Rat}(a:0≤c)(h: ∀j,nm (f j)≤c*hf (2*j))(n:Nat):nm (sm f n)≤c*2:=by
 have d:=nm_sm (f:=f) (g:=fun j=>c*hf (2*j)) (n:=n) (fun j _=>h j)
 have b: ∀n,rs (fun j=>c*hf (2*j)) n≤c*(2-2*hf (2*n)):=by
  intro n
  induction n with
  |zero=>simp only[rs,hf];grind
  |succ n ih=>
   have e:hf (2*(n+1))=hf (2*n)*(1/2)*(1/2):=rfl;have p:=hf_pos (2*n);have:=Rat.mul_nonneg a (show 0≤hf (2*n) by grind)
   simp only[rs];rw[e]
   grind
 have i:=b n;have p:=hf_pos (2*n);have:=Rat.mul_nonneg a (show 0≤hf (2*n) by grind)
 grind
def CxN.rm (u h:CxN)(n:Nat):CxN:=sm (fun j=>sc (1/((2*j+1:Nat):Rat)) (pe u h (2*j))) n
theorem CxN.inv_one (j:Nat):ab (1/((j+1:Nat):Rat))≤1:=by
 have d:=nat_pos j;have a:(1:Rat)≤((j+1:Nat):Rat):=by
  have:((1:Nat):Rat)≤((j+1:Nat):Rat):=Rat.natCast_le_natCast.2 (by omega)
  simpa using this
 have b:=inv_nonneg j;have e:1/((j+1:Nat):Rat)*((j+1:Nat):Rat)=1:=by have:=nat_ne j;grind
 generalize 1/((j+1:Nat):Rat)=i at*;generalize((j+1:Nat):Rat)=c at*;have:=Rat.mul_le_mul_of_nonneg_left a b;unfold ab
 grind
theorem CxN.nm_rm {u h:CxN}(e:nm u≤1/4)(g:nm (add u h)≤1/4)(n:Nat):nm (rm u h n)≤8*(nm h*nm h):=by
 have a:=nm_nonneg h;have nn:=Rat.mul_nonneg a a;have:=nm_sm_le (f:=fun j=>sc (1/((2*j+1:Nat):Rat)) (pe u h (2*j))) (c:=4*(nm h*nm h)) (by grind) (fun j=>by
  show nm (sc _ _)≤_
  rw[nm_sc];have b:=inv_one (2*j);have d:=nm_pe e g (2*j);have i:=mul_le_mul' b d (nm_nonneg _) (show(0:Rat)≤1 by grind)
  grind) n
 unfold rm
 grind
theorem CxN.nm_ge {u:CxN}(b:nm u≤1/4)(n:Nat):nm (ge u n)≤2:=by
 have:=nm_sm_le (f:=fun j=>pwE u (2*j)) (c:=1) (by grind) (fun j=>by
  have h:=nm_pw b (2*j);have d:hf (2*(2*j))=hf (2*j)*hf (2*j):=hf_double _;have e:=hf_pos (2*j);have a:=hf_one (2*j);have g:=Rat.mul_le_mul_of_nonneg_left a (show 0≤hf (2*j) by grind)
  show nm (pwE u (2*j))≤_
  grind) n
 unfold ge
 grind
theorem CxN.at_step {u h:CxN}(a:nm u≤1/4)(k:nm (add u h)≤1/4)(n:Nat):
  nm (sb (mul (sb (at' (add u h) n) (at' u n)) (sb one (mul u u))) h)≤nm h*hf n+16*(nm h*nm h)∧nm (sb (at' (add u h) n) (at' u n))≤2*nm h+8*(nm h*nm h):=by
 have b:=nm_nonneg h;have nn:=Rat.mul_nonneg b b;have i:sb (at' (add u h) n) (at' u n)=add (mul (ge u n) h) (rm u h n):=by
  rw[at_grow];apply ext'<;>simp only[sb,add,sc,rm]<;>grind
 rw[i];have l:=nm_rm a k n;have j:sb (mul (add (mul (ge u n) h) (rm u h n)) (sb one (mul u u))) h=add (mul (sc (-1) h) (pwE u (2*n))) (mul (rm u h n) (sb one (mul u u))):=by
  have t:=ge_tele u n;have m:=congrArg CxN.re t;have o:=congrArg CxN.im t;simp only[sb,one,mul,add,sc] at m o;apply ext'<;>simp only[sb,one,mul,add,sc]<;>grind
 constructor
 ·rw[j]
  have e:=nm_add (mul (sc (-1) h) (pwE u (2*n))) (mul (rm u h n) (sb one (mul u u)));have c:=nm_mul (sc (-1) h) (pwE u (2*n));rw[nm_sc] at c;have d:ab (-1)=1:=by unfold ab;grind
  rw[d] at c;have p:=nm_pw a (2*n);have q:hf (2*(2*n))=hf (2*n)*hf (2*n):=hf_double _;have r:hf (2*n)=hf n*hf n:=hf_double _;have s:=hf_pos n;have f:=hf_one n;have v:=hf_pos (2*n);have g:=hf_one (2*n);have w:=Rat.mul_le_mul_of_nonneg_left f (show 0≤hf n by grind)
  have x:=Rat.mul_le_mul_of_nonneg_left g (show 0≤hf (2*n) by grind)
  have y:=Rat.mul_le_mul_of_nonneg_left (show nm (pwE u (2*n))≤hf n by grind) b
  have z:=nm_mul (rm u h n) (sb one (mul u u));have A:=nm_sb one (mul u u);have B:=nm_mul u u;have C:=mul_le_mul' a a (nm_nonneg u) (show(0:Rat)≤1/4 by grind)
  have D:nm one=1:=by unfold nm one ab;grind
  have E:=mul_le_mul' l (show nm (sb one (mul u u))≤2 by grind) (nm_nonneg _) (show 0≤8*(nm h*nm h) by grind)
  grind
 ·have e:=nm_add (mul (ge u n) h) (rm u h n)
  have c:=nm_mul (ge u n) h;have d:=Rat.mul_le_mul_of_nonneg_right (nm_ge a n) b
  grind
theorem CxN.nm_ez (z:CxN)(n:Nat):nm (ez z n)≤er (nm z) n:=nm_sm fun i _=>nm_pz z i
theorem CxN.nm_at {u:CxN}(e:nm u≤1/4)(n:Nat):nm (at' u n)≤1/2:=by
 have:=nm_sm_le (f:=fun j=>sc (1/((2*j+1:Nat):Rat)) (pwE u (2*j+1))) (c:=1/4) (by grind) (fun j=>by
  show nm (sc _ _)≤_
  rw[nm_sc];have a:=inv_one (2*j);have b:=nm_pw e (2*j+1);have g:=mul_le_mul' a b (nm_nonneg _) (show(0:Rat)≤1 by grind)
  have h:hf (2*(2*j+1))=hf (2*(2*j))*(1/2)*(1/2):=rfl;have i:hf (2*(2*j))=hf (2*j)*hf (2*j):=hf_double _;have k:=hf_pos (2*j);have d:=hf_one (2*j);have l:=Rat.mul_le_mul_of_nonneg_left d (show 0≤hf (2*j) by grind)
  grind) n
 unfold at'
 grind
theorem CxN.step_id (G a b d u h:CxN):
  sb (mul (mul (sb (mul G (add (add one (sc 2 d)) b)) a) (sb one (add u h))) (add one u)) (mul (mul G (sb one u)) (add one (add u h)))=
   add (sc (-1) (mul a (mul (sb one (add u h)) (add one u)))) (mul G (add (add (sc 2 (sb (mul d (sb one (mul u u))) h)) (sc (-2) (mul d (mul h (add one u))))) (mul b (mul (sb one (add u h)) (add one u))))):=by
 apply ext'<;>simp only[sb,one,mul,add,sc]<;>grind
def CxN.tau (n:Nat):Rat:=er 4 (2*n)-er 4 n
theorem CxN.tau_nonneg (n:Nat):0≤tau n:=by
 have:=er_mono (b:=4) (by grind) (show n≤2*n by omega)
 unfold tau
 grind
theorem CxN.nm_one:nm one=1:=by unfold nm one ab;grind
theorem CxN.nm_sc' {c:Rat}(b:0≤c)(a:CxN):nm (sc c a)=c*nm a:=by
 rw[nm_sc];have:ab c=c:=by unfold ab;grind
 rw[this]
theorem CxN.ex_step {u h:CxN}(w:nm u≤1/4)(P:nm (add u h)≤1/4)(O:nm h≤1/32){n:Nat}(v:2≤n):
  nm (sb (mul (mul (ez (sc 2 (at' (add u h) n)) n) (sb one (add u h))) (add one u)) (mul (mul (ez (sc 2 (at' u n)) n) (sb one u)) (add one (add u h))))≤6*(nm h*hf n)+400*(nm h*nm h)+2*tau n:=by
 have i:=nm_nonneg h;have nn:=Rat.mul_nonneg i i;have a1:=Rat.mul_le_mul_of_nonneg_left O i;obtain⟨y,s2⟩:=at_step w P n;have t:nm (sb (at' (add u h) n) (at' u n))≤3*nm h:=by grind
 have N:=nm_at w n;have p:sc 2 (at' (add u h) n)=add (sc 2 (at' u n)) (sc 2 (sb (at' (add u h) n) (at' u n))):=by
  apply ext'<;>simp only[sb,add,sc]<;>grind
 rw[p];generalize sb (at' (add u h) n) (at' u n)=d at y t;generalize at' u n=a at N;have M:nm (sc 2 a)≤1:=by rw[nm_sc' (by grind)];grind
 have s:nm (sc 2 d)≤6*nm h:=by rw[nm_sc' (by grind)];grind
 have p1:=ez_prod (sc 2 a) (sc 2 d) n;have p2:=er_diff (a:=nm (sc 2 a)+nm (sc 2 d)) (b:=4) (by have:=nm_nonneg (sc 2 a);have:=nm_nonneg (sc 2 d);grind) (by grind) (show n≤2*n by omega)
 have q1:=ez_two (sc 2 d) (by grind) v;have q2:=mul_le_mul' s s (nm_nonneg _) (show 0≤6*nm h by grind)
 have r:=nm_ez (sc 2 a) n;have K:=er_le (nm_nonneg (sc 2 a)) M n;have L:=er_two (b:=1) (by grind) (by grind) v;obtain⟨E,k⟩: ∃E,ez (sc 2 d) n=E:=⟨_,rfl⟩;obtain⟨F,hF⟩: ∃F,ez (add (sc 2 a) (sc 2 d)) n=F:=⟨_,rfl⟩;obtain⟨G,j⟩: ∃G,ez (sc 2 a) n=G:=⟨_,rfl⟩;rw[k,hF,j] at p1;rw[k] at q1;rw[j] at r;rw[hF,j];have eF:F=sb (mul G (add (add one (sc 2 d)) (sb E (add one (sc 2 d))))) (add (mul G E) (sc (-1) F)):=by
  apply ext'<;>simp only[sb,one,mul,add,sc]<;>grind
 rw[eF];have x:nm (add (mul G E) (sc (-1) F))≤tau n:=by unfold tau;grind
 generalize add (mul G E) (sc (-1) F)=o at x;generalize sb E (add one (sc 2 d))=c at q1;rw[step_id];have Q:nm (sb one (add u h))≤5/4:=by have:=nm_sb one (add u h);rw[nm_one] at this;grind
 have z:nm (add one u)≤5/4:=by have:=nm_add one u;rw[nm_one] at this;grind
 have v3:=nm_mul (sb one (add u h)) (add one u);have v4:=mul_le_mul' Q z (nm_nonneg _) (show(0:Rat)≤5/4 by grind)
 have l:nm (mul (sb one (add u h)) (add one u))≤2:=by grind
 have R:=nm_mul o (mul (sb one (add u h)) (add one u));have S:=mul_le_mul' x l (nm_nonneg _) (tau_nonneg n);have A:=nm_mul c (mul (sb one (add u h)) (add one u));have B:=mul_le_mul' (show nm c≤36*(nm h*nm h) by grind) l (nm_nonneg _) (show 0≤36*(nm h*nm h) by grind)
 have C:=nm_mul d (mul h (add one u));have T:=nm_mul h (add one u);have U:=Rat.mul_le_mul_of_nonneg_left z i;have D:=mul_le_mul' t (show nm (mul h (add one u))≤5/4*nm h by grind) (nm_nonneg _) (show 0≤3*nm h by grind)
 generalize mul (sb one (add u h)) (add one u)=e at R S A B l⊢;have W:=Rat.le_trans C D;generalize mul d (mul h (add one u))=f at W⊢;generalize sb (mul d (sb one (mul u u))) h=g at y⊢;have H:=nm_add (sc (-1) (mul o e)) (mul G (add (add (sc 2 g) (sc (-2) f)) (mul c e)));have I:=nm_mul G (add (add (sc 2 g) (sc (-2) f)) (mul c e));have X:=nm_add (add (sc 2 g) (sc (-2) f)) (mul c e);have m:=nm_add (sc 2 g) (sc (-2) f);rw[nm_sc' (show(0:Rat)≤2 by grind),nm_sc] at m
 rw[nm_sc] at H;have Y:ab (-2)=2:=by unfold ab;grind
 have Z:ab (-1)=1:=by unfold ab;grind
 rw[Y] at m;rw[Z] at H;have hp:=hf_pos n;have a0:=Rat.mul_nonneg i (show 0≤hf n by grind)
 have z1:nm (add (add (sc 2 g) (sc (-2) f)) (mul c e))≤2*(nm h*hf n)+100*(nm h*nm h)+12*(nm h*nm h):=by grind
 have J:=mul_le_mul' (show nm G≤3 by grind) z1 (nm_nonneg _) (show(0:Rat)≤3 by grind)
 generalize nm (mul G (add (add (sc 2 g) (sc (-2) f)) (mul c e)))=q at*;generalize nm (add (add (sc 2 g) (sc (-2) f)) (mul c e))=q' at*;have z3:=Rat.le_trans I J;clear I J X m A B C T U D p1 p2 q1 q2 r K L k hF j eF p;have t0:=tau_nonneg n
 grind
end Go.Proofs.YthhiidikgchdeabGreatDoor
