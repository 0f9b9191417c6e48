/-
  Texts laid together: Co3, Co19, Co21, Ce10, Co17, Co4, Tx5.
-/
import Derived.Test.YtpgijbdgljkeeaaGreatDoorUx35
import Derived.Test.YtpgijbdgljkeeaaGreatDoorUx36
import Derived.Test.YtpgijbdgljkeeaaGreatDoorUx37
import Derived.Test.YtpgijbdgljkeeaaGreatDoorUx38
set_option maxRecDepth 100000
set_option maxHeartbeats 1600000
namespace Go.Proofs.YtpgijbdgljkeeaaGreatDoor
open _root_.Go.Proofs.Tryz
open Go.RowKit
theorem uU (w:World):yC 111 #[yi 1] w (tC w 1 0):=
 kC 1 _ _ _ _ _ _ _ 1 _ _ _ w rfl (jk 1) jG (fun W=>by kernel_rfl)
theorem uV (w:World):yC 111 #[yi 2] w (tC w 2 0):=
 kC 2 _ _ _ _ _ _ _ 1 _ _ _ w rfl (jk 2) jG (fun W=>by kernel_rfl)
theorem uW (w:World):yC 111 #[yi 3] w (tC w 3 0):=
 kC 3 _ _ _ _ _ _ _ 1 _ _ _ w rfl (jk 3) jG (fun W=>by kernel_rfl)
theorem uX (w:World):yC 111 #[yi 4] w (tC w 4 0):=
 kC 4 _ _ _ _ _ _ _ 2 _ _ _ w rfl (jk 4) jG (fun W=>by kernel_rfl)
theorem uY (w:World):yC 111 #[yi 5] w (tC w 5 0):=
 kC 5 _ _ _ _ _ _ _ 2 _ _ _ w rfl (jk 5) jG (fun W=>by kernel_rfl)
theorem uZ (w:World):yC 111 #[yi 6] w (tC w 6 0):=
 kC 6 _ _ _ _ _ _ _ 3 _ _ _ w rfl (jk 6) jG (fun W=>by kernel_rfl)
theorem vf (w:World):yC 111 #[yi 7] w (tC w 7 0):=
 kC 7 _ _ _ _ _ _ _ 3 _ _ _ w rfl (jk 7) jG (fun W=>by kernel_rfl)
theorem vh (w:World):yC 111 #[yi 8] w (tC w 8 0):=
 kC 8 _ _ _ _ _ _ _ 3 _ _ _ w rfl (jk 8) jG (fun W=>by kernel_rfl)
theorem Aq (k:Nat)(hk:1≤k∧k≤8)(ng:Bool)(e f:Nat)(w:World)(he:e<65536)(hf:f<18446744073709551616):
  yC 150 #[.agg (tS k).toArray,yfV ng e f] w (yR w (.string (cF (kU k ng e f)))):=by
 obtain⟨h1,h2,h3,h4,h5,-⟩:=fZ hk;have hl:=Mx k ng e f;have HF:=fun w1=>tm k hk w1
 have HE:=fun args W=>Db k args W
 have HT:=fun zs (hz:zs.length=szN k) g cap w1 h=>IV k g cap zs w1 h (by omega) (by rw[hz];exact h5)
 cases ng
 ·have HT': ∀g cap w1,ik w1 g (iS (1+exN k) (frN k) f (iS 1 (exN k) e (List.replicate (szN k) 0)))→yC (C9 k) #[.slice (some ⟨g,0,none⟩) (szN k) cap] w1 fun z w'=>z= .returned (.tuple #[])∧ik w' g (kU k false e f)∧w1.grownBy w' (some g):=fun g cap w1 h=>by
   have hz:(iS (1+exN k) (frN k) f (iS 1 (exN k) e (List.replicate (szN k) 0))).length=szN k:=by rw[il,il,List.length_replicate]
   have:=HT _ hz g cap w1 h;rw[hz] at this;exact this
  rcases bO hk with rfl|rfl|rfl|rfl|rfl|rfl|rfl|rfl
  all_goals exact Km _ _ _ _ _ _ _ _ _ _ e f _ w h1 h2 h3 he hf hl HT' HF HE
 ·have HT': ∀g cap w1,ik w1 g (iS (1+exN k) (frN k) f (iS 1 (exN k) e (iS 0 1 1 (List.replicate (szN k) 0))))→yC (C9 k) #[.slice (some ⟨g,0,none⟩) (szN k) cap] w1 fun z w'=>z= .returned (.tuple #[])∧ik w' g (kU k true e f)∧w1.grownBy w' (some g):=fun g cap w1 h=>by
   have hz:(iS (1+exN k) (frN k) f (iS 1 (exN k) e (iS 0 1 1 (List.replicate (szN k) 0)))).length=szN k:=by rw[il,il,il,List.length_replicate]
   have:=HT _ hz g cap w1 h;rw[hz] at this;exact this
  rcases bO hk with rfl|rfl|rfl|rfl|rfl|rfl|rfl|rfl
  all_goals exact Mw _ _ _ _ _ _ _ _ _ _ e f _ w h1 h2 h3 he hf hl HT' HF HE
theorem wE (k c:Nat)(hk:1≤k∧k≤8)(hc:c=1∨c=3∨c=4∨c=5)(ng:Bool)(ao:Option Addr)(dn dc:Nat)(p:Int)(w:World):
  yC 114 #[.agg (tS k).toArray,yvV c ng (.slice ao dn dc) p] w (yR w (.tuple #[.string (Fv k c dn ng p),yi (qX k c dn ng p)])):=by
 have HS:=fun w1=>MP k c hk hc w1
 have HG:=fun w1=>Qa k c hk hc w1
 have HW:=fun w1=>Aq k hk (pI k c||ng) (pg k c) (lS k c) w1 (Fw c hk) (Fx c hk)
 have key: ∀er,qX k c dn ng p=er→Fv k c dn ng p=if er=0 then cF (kU k (pI k c||ng) (pg k c) (lS k c)) else⟨#[]⟩:=fun er h=>by unfold Fv;rw[h]
 by_cases hok:iR k c=false
 ·have hE:qX k c dn ng p=5:=by unfold qX;rw[if_pos hok]
  rw[key 5 hE,hE,if_neg (by omega)];rw[hok] at HS;generalize pI k c=sg0 at*;generalize pg k c=se at*;generalize lS k c=sf at*;clear HG HW key hE hok
  rcases bO hk with rfl|rfl|rfl|rfl|rfl|rfl|rfl|rfl
  all_goals exact P8 _ _ _ _ _ _ _ _ _ _ p ng ao dn dc sg0 se sf w HS
 ·have hok':iR k c=true:=by simpa using hok
  rw[hok'] at HS
  by_cases h1:0<dn
  ·have hE:qX k c dn ng p=4:=by unfold qX;rw[if_neg hok,if_pos (.inl h1)]
   rw[key 4 hE,hE,if_neg (by omega)];generalize pI k c=sg0 at*;generalize pg k c=se at*;generalize lS k c=sf at*;clear HG HW key hE hok hok'
   rcases bO hk with rfl|rfl|rfl|rfl|rfl|rfl|rfl|rfl
   all_goals exact Kt _ _ _ _ _ _ _ _ _ _ p ng ao dn dc sg0 se sf w HS h1
  ·have hd:dn=0:=by omega
   by_cases h2:p=0
   ·by_cases h3:ng=true∧Bk k c=false
    ·have hE:qX k c dn ng p=4:=by unfold qX;rw[if_neg hok,if_pos (.inr (.inr h3))]
     rw[key 4 hE,hE,if_neg (by omega)];rw[h3.2] at HG;have hng:=h3.1;generalize pI k c=sg0 at*;generalize pg k c=se at*;generalize lS k c=sf at*;clear HW key hE hok hok' h3
     rcases bO hk with rfl|rfl|rfl|rfl|rfl|rfl|rfl|rfl
     all_goals exact P9 _ _ _ _ _ _ _ _ _ _ p ng ao dn dc sg0 se sf w HS HG hd h2 hng
    ·have hE:qX k c dn ng p=0:=by
      unfold qX;rw[if_neg hok,if_neg];rintro(h|h|h)
      ·exact h1 h
      ·exact h h2
      ·exact h3 h
     rw[key 0 hE,hE,if_pos rfl];have hsg:ng=true→Bk k c=true:=fun h=>by
      cases hs:Bk k c
      ·exact absurd ⟨h,hs⟩ h3
      ·rfl
     generalize cF (kU k (pI k c||ng) (pg k c) (lS k c))=st at*
     generalize pI k c=sg0 at*;generalize pg k c=se at*;generalize lS k c=sf at*;clear key hE hok hok' h3
     cases ng
     ·rcases bO hk with rfl|rfl|rfl|rfl|rfl|rfl|rfl|rfl
      all_goals exact Ui _ _ _ _ _ _ _ _ _ _ p false ao dn dc sg0 se sf w HS st HW hd h2 rfl
     ·rw[hsg rfl] at HG
      rcases bO hk with rfl|rfl|rfl|rfl|rfl|rfl|rfl|rfl
      all_goals exact Uj _ _ _ _ _ _ _ _ _ _ p true ao dn dc sg0 se sf w HS HG st HW hd h2 rfl
   ·have hE:qX k c dn ng p=4:=by unfold qX;rw[if_neg hok,if_pos (.inr (.inl h2))]
    rw[key 4 hE,hE,if_neg (by omega)];generalize pI k c=sg0 at*;generalize pg k c=se at*;generalize lS k c=sf at*;clear HG HW key hE hok hok'
    rcases bO hk with rfl|rfl|rfl|rfl|rfl|rfl|rfl|rfl
    all_goals exact MI _ _ _ _ _ _ _ _ _ _ p ng ao dn dc sg0 se sf w HS hd h2
theorem xE (k:Nat)(hk:1≤k∧k≤8)(s:Bool)(ao:Option Addr)(ca:Nat)(xs:List Nat)(E:Int)(w:World)(hr:Rd w .u32 (.slice ao xs.length ca) xs)(sa:Dg.Small 4294967296 xs)(hd:aS xs E=0)(h0:Dg.vl 4294967296 xs≠0)
  (hh:dA (rdN k) (dgN k) (lsI k) (gsI k) (decide (k≤3)) (Dg.vl 4294967296 xs) E=true):
  yC 147 #[.agg (tS k).toArray,ydV s (.slice ao xs.length ca) E] w (yR w (.tuple #[.string (cF (kU k (plT k s (Dg.vl 4294967296 xs) E).s (heE (rdN k) (lsI k) (gW k) (plT k s (Dg.vl 4294967296 xs) E)) (plT k s (Dg.vl 4294967296 xs) E).d)),yi 0])):=by
 have HL:=fun w1=>xX k hk w1
 have HW:=fun ng e f w1 (he:e<65536) (hf:f<18446744073709551616)=>Aq k hk ng e f w1 he hf
 have hl:=Re hk;unfold plT
 rcases bO hk with rfl|rfl|rfl|rfl|rfl|rfl|rfl|rfl
 all_goals exact ZC _ _ _ _ _ _ _ _ _ _ s ao ca xs E w (fun ng e f=>cF (kU _ ng e f)) hr sa hd h0 (by decide) (by decide) (by decide) (by decide) (by decide) (by decide) hl hh HL HW
theorem Gz (k:Nat)(hk:1≤k∧k≤8)(ng:Bool)(e f:Nat)(w:World)(hf:f<18446744073709551616)(he:e<65536):yC 64 #[.agg (tS k).toArray,yfV ng e f] w (iT w ((dh k ng e f:Nat):Int) (kt k ng e f) (ge k ng e f) (gw k ng e f)):=by
 have HC:=fun w1=>Gf k hk ng e f w1 hf
 have HP:=fun w1=>QL k hk ng e f w1 hf he
 have hd:=fun h=>jX (k:=k) (ng:=ng) (e:=e) (f:=f) h
 have hl:=vS hk e hf;have hp:=ab9 hk he;unfold kt ge gw;generalize iI k e f=d at*;generalize ii k e=p at*
 rcases DV k ng e f with hc|hc|hc|hc|hc
 all_goals (rw[hc] at HC⊢)
 ·rw[if_pos (by omega),if_neg (by omega),if_neg (by omega)]
  rcases bO hk with rfl|rfl|rfl|rfl|rfl|rfl|rfl|rfl
  all_goals exact aab _ _ _ _ _ _ _ _ _ ng e f w HC
 ·rw[if_pos (by omega),if_pos rfl,if_pos rfl]
  have h0:=hd hc
  rcases bO hk with rfl|rfl|rfl|rfl|rfl|rfl|rfl|rfl
  all_goals exact We _ _ _ _ _ _ _ _ _ ng e f d p w (by decide) (by decide) h0 hl hp.1 hp.2 HC HP
 ·rw[if_pos (by omega),if_neg (by omega),if_neg (by omega)]
  rcases bO hk with rfl|rfl|rfl|rfl|rfl|rfl|rfl|rfl
  all_goals exact aac _ _ _ _ _ _ _ _ _ ng e f w HC
 ·rw[if_neg (by omega),if_neg (by omega),if_neg (by omega)]
  rcases bO hk with rfl|rfl|rfl|rfl|rfl|rfl|rfl|rfl
  all_goals exact aad _ _ _ _ _ _ _ _ _ ng e f w HC
 ·rw[if_neg (by omega),if_neg (by omega),if_neg (by omega)]
  rcases bO hk with rfl|rfl|rfl|rfl|rfl|rfl|rfl|rfl
  all_goals exact aae _ _ _ _ _ _ _ _ _ ng e f w HC
theorem pU (k:Nat)(hk:1≤k∧k≤8)(w:World):yC 111 #[yi k] w (tC w k 0):=by
 rcases bO hk with rfl|rfl|rfl|rfl|rfl|rfl|rfl|rfl
 ·exact uU w
 ·exact uV w
 ·exact uW w
 ·exact uX w
 ·exact uY w
 ·exact uZ w
 ·exact vf w
 ·exact vh w
theorem SN (w:World):yC 92 #[yi 1] w (yR w (.tuple #[ygV 2 24 (-149) 104 true,yi 0])):=by
 have HL:Hid (yJ 111 #[yi 1] (.tuple #[.agg #[yi 2,yi 24,yi (-149),yi 104,.bool true,yi 4,yi 8,yi 1,.func (.func 186) #[] #[]],yi 0])):=fun w1=>uU w1
 have hsf:=cD;have hsn:=gn;have l0:=ah w (ygL 0 0 0 0 false) 40;have b0:=af w (.cells (ygA 0 0 0 0 false) 40)
 go_enter func92,ntmps92
 go_wp2_with fail
 refine(HL.out _).mono ?_;rintro z w2 ⟨rfl,b2⟩;have l3:=(l0.l b2).l (af w2 (.cells #[yi 2,yi 24,yi (-149),yi 104,.bool true,yi 4,yi 8,yi 1,.func (.func 186) #[] #[]] 124));have cR:au ((((((w2.alloc (.cells #[yi 2,yi 24,yi (-149),yi 104,.bool true,yi 4,yi 8,yi 1,.func (.func 186) #[] #[]] 124)).setCell ⟨w.heap.size,0,none⟩ (yi 2)).setCell ⟨w.heap.size,1,none⟩ (yi 24)).setCell ⟨w.heap.size,2,none⟩ (yi (-149))).setCell ⟨w.heap.size,3,none⟩ (yi 104)).setCell ⟨w.heap.size,4,none⟩ (.bool true)) w.heap.size 40 (ygL 2 24 (-149) 104 true):=(((((l3.set 0 (yi 2)).set 1 (yi 24)).set 2 (yi (-149))).set 3 (yi 104)).set 4 (.bool true));have bR:=(((((ag (w2.alloc (.cells #[yi 2,yi 24,yi (-149),yi 104,.bool true,yi 4,yi 8,yi 1,.func (.func 186) #[] #[]] 124)) w.heap.size 0 (yi 2)).trans (ag _ w.heap.size 1 (yi 24))).trans (ag _ w.heap.size 2 (yi (-149)))).trans (ag _ w.heap.size 3 (yi 104))).trans (ag _ w.heap.size 4 (.bool true))).below (aa (aa b0 b2) (af w2 (.cells #[yi 2,yi 24,yi (-149),yi 104,.bool true,yi 4,yi 8,yi 1,.func (.func 186) #[] #[]] 124))) (Nat.le_refl _);have hl:=run_loadVar_mid (P:=Tryz.prog) _ w.heap.size 0 40 (ygL 2 24 (-149) 104 true) _ cR.range underlying40 rfl (by kernel_rfl);have HH:Hid (_∧_):=⟨hl,bR⟩;have x0:=l3.c 0 rfl;have f0:=l3.f 0;have x1:=l3.c 1 rfl;have f1:=l3.f 1;have x2:=l3.c 2 rfl;have f2:=l3.f 2;have x3:=l3.c 3 rfl;have f3:=l3.f 3;have x4:=l3.c 4 rfl;have f4:=l3.f 4;have hne:w2.heap.size≠w.heap.size:=Nat.ne_of_gt (l0.l b2).lt;clear hl bR cR l0 l3 b0 b2 HL
 go_wp2
 obtain⟨hl,bR⟩:=HH.out;exact bodyPost_ret (aj results92 rfl rfl hl) rfl ⟨rfl,bR⟩
theorem SO (w:World):yC 92 #[yi 2] w (yR w (.tuple #[ygV 2 53 (-1074) 971 true,yi 0])):=by
 have HL:Hid (yJ 111 #[yi 2] (.tuple #[.agg #[yi 2,yi 53,yi (-1074),yi 971,.bool true,yi 8,yi 11,yi 1,.func (.func 186) #[] #[]],yi 0])):=fun w1=>uV w1
 have hsf:=cD;have hsn:=gn;have l0:=ah w (ygL 0 0 0 0 false) 40;have b0:=af w (.cells (ygA 0 0 0 0 false) 40)
 go_enter func92,ntmps92
 go_wp2_with fail
 refine(HL.out _).mono ?_;rintro z w2 ⟨rfl,b2⟩;have l3:=(l0.l b2).l (af w2 (.cells #[yi 2,yi 53,yi (-1074),yi 971,.bool true,yi 8,yi 11,yi 1,.func (.func 186) #[] #[]] 124));have cR:au ((((((w2.alloc (.cells #[yi 2,yi 53,yi (-1074),yi 971,.bool true,yi 8,yi 11,yi 1,.func (.func 186) #[] #[]] 124)).setCell ⟨w.heap.size,0,none⟩ (yi 2)).setCell ⟨w.heap.size,1,none⟩ (yi 53)).setCell ⟨w.heap.size,2,none⟩ (yi (-1074))).setCell ⟨w.heap.size,3,none⟩ (yi 971)).setCell ⟨w.heap.size,4,none⟩ (.bool true)) w.heap.size 40 (ygL 2 53 (-1074) 971 true):=(((((l3.set 0 (yi 2)).set 1 (yi 53)).set 2 (yi (-1074))).set 3 (yi 971)).set 4 (.bool true));have bR:=(((((ag (w2.alloc (.cells #[yi 2,yi 53,yi (-1074),yi 971,.bool true,yi 8,yi 11,yi 1,.func (.func 186) #[] #[]] 124)) w.heap.size 0 (yi 2)).trans (ag _ w.heap.size 1 (yi 53))).trans (ag _ w.heap.size 2 (yi (-1074)))).trans (ag _ w.heap.size 3 (yi 971))).trans (ag _ w.heap.size 4 (.bool true))).below (aa (aa b0 b2) (af w2 (.cells #[yi 2,yi 53,yi (-1074),yi 971,.bool true,yi 8,yi 11,yi 1,.func (.func 186) #[] #[]] 124))) (Nat.le_refl _);have hl:=run_loadVar_mid (P:=Tryz.prog) _ w.heap.size 0 40 (ygL 2 53 (-1074) 971 true) _ cR.range underlying40 rfl (by kernel_rfl);have HH:Hid (_∧_):=⟨hl,bR⟩;have x0:=l3.c 0 rfl;have f0:=l3.f 0;have x1:=l3.c 1 rfl;have f1:=l3.f 1;have x2:=l3.c 2 rfl;have f2:=l3.f 2;have x3:=l3.c 3 rfl;have f3:=l3.f 3;have x4:=l3.c 4 rfl;have f4:=l3.f 4;have hne:w2.heap.size≠w.heap.size:=Nat.ne_of_gt (l0.l b2).lt;clear hl bR cR l0 l3 b0 b2 HL
 go_wp2
 obtain⟨hl,bR⟩:=HH.out;exact bodyPost_ret (aj results92 rfl rfl hl) rfl ⟨rfl,bR⟩
theorem SP (w:World):yC 92 #[yi 3] w (yR w (.tuple #[ygV 2 64 (-16445) 16320 true,yi 0])):=by
 have HL:Hid (yJ 111 #[yi 3] (.tuple #[.agg #[yi 2,yi 64,yi (-16445),yi 16320,.bool true,yi 10,yi 15,yi 1,.func (.func 187) #[] #[]],yi 0])):=fun w1=>uW w1
 have hsf:=cD;have hsn:=gn;have l0:=ah w (ygL 0 0 0 0 false) 40;have b0:=af w (.cells (ygA 0 0 0 0 false) 40)
 go_enter func92,ntmps92
 go_wp2_with fail
 refine(HL.out _).mono ?_;rintro z w2 ⟨rfl,b2⟩;have l3:=(l0.l b2).l (af w2 (.cells #[yi 2,yi 64,yi (-16445),yi 16320,.bool true,yi 10,yi 15,yi 1,.func (.func 187) #[] #[]] 124));have cR:au ((((((w2.alloc (.cells #[yi 2,yi 64,yi (-16445),yi 16320,.bool true,yi 10,yi 15,yi 1,.func (.func 187) #[] #[]] 124)).setCell ⟨w.heap.size,0,none⟩ (yi 2)).setCell ⟨w.heap.size,1,none⟩ (yi 64)).setCell ⟨w.heap.size,2,none⟩ (yi (-16445))).setCell ⟨w.heap.size,3,none⟩ (yi 16320)).setCell ⟨w.heap.size,4,none⟩ (.bool true)) w.heap.size 40 (ygL 2 64 (-16445) 16320 true):=(((((l3.set 0 (yi 2)).set 1 (yi 64)).set 2 (yi (-16445))).set 3 (yi 16320)).set 4 (.bool true));have bR:=(((((ag (w2.alloc (.cells #[yi 2,yi 64,yi (-16445),yi 16320,.bool true,yi 10,yi 15,yi 1,.func (.func 187) #[] #[]] 124)) w.heap.size 0 (yi 2)).trans (ag _ w.heap.size 1 (yi 64))).trans (ag _ w.heap.size 2 (yi (-16445)))).trans (ag _ w.heap.size 3 (yi 16320))).trans (ag _ w.heap.size 4 (.bool true))).below (aa (aa b0 b2) (af w2 (.cells #[yi 2,yi 64,yi (-16445),yi 16320,.bool true,yi 10,yi 15,yi 1,.func (.func 187) #[] #[]] 124))) (Nat.le_refl _);have hl:=run_loadVar_mid (P:=Tryz.prog) _ w.heap.size 0 40 (ygL 2 64 (-16445) 16320 true) _ cR.range underlying40 rfl (by kernel_rfl);have HH:Hid (_∧_):=⟨hl,bR⟩;have x0:=l3.c 0 rfl;have f0:=l3.f 0;have x1:=l3.c 1 rfl;have f1:=l3.f 1;have x2:=l3.c 2 rfl;have f2:=l3.f 2;have x3:=l3.c 3 rfl;have f3:=l3.f 3;have x4:=l3.c 4 rfl;have f4:=l3.f 4;have hne:w2.heap.size≠w.heap.size:=Nat.ne_of_gt (l0.l b2).lt;clear hl bR cR l0 l3 b0 b2 HL
 go_wp2
 obtain⟨hl,bR⟩:=HH.out;exact bodyPost_ret (aj results92 rfl rfl hl) rfl ⟨rfl,bR⟩
theorem SQ (w:World):yC 92 #[yi 4] w (yR w (.tuple #[ygV 16 6 (-70) 57 false,yi 0])):=by
 have HL:Hid (yJ 111 #[yi 4] (.tuple #[.agg #[yi 16,yi 6,yi (-70),yi 57,.bool false,yi 4,yi 7,yi 2,.func (.func 186) #[] #[]],yi 0])):=fun w1=>uX w1
 have hsf:=cD;have hsn:=gn;have l0:=ah w (ygL 0 0 0 0 false) 40;have b0:=af w (.cells (ygA 0 0 0 0 false) 40)
 go_enter func92,ntmps92
 go_wp2_with fail
 refine(HL.out _).mono ?_;rintro z w2 ⟨rfl,b2⟩;have l3:=(l0.l b2).l (af w2 (.cells #[yi 16,yi 6,yi (-70),yi 57,.bool false,yi 4,yi 7,yi 2,.func (.func 186) #[] #[]] 124));have cR:au ((((((w2.alloc (.cells #[yi 16,yi 6,yi (-70),yi 57,.bool false,yi 4,yi 7,yi 2,.func (.func 186) #[] #[]] 124)).setCell ⟨w.heap.size,0,none⟩ (yi 16)).setCell ⟨w.heap.size,1,none⟩ (yi 6)).setCell ⟨w.heap.size,2,none⟩ (yi (-70))).setCell ⟨w.heap.size,3,none⟩ (yi 57)).setCell ⟨w.heap.size,4,none⟩ (.bool false)) w.heap.size 40 (ygL 16 6 (-70) 57 false):=(((((l3.set 0 (yi 16)).set 1 (yi 6)).set 2 (yi (-70))).set 3 (yi 57)).set 4 (.bool false));have bR:=(((((ag (w2.alloc (.cells #[yi 16,yi 6,yi (-70),yi 57,.bool false,yi 4,yi 7,yi 2,.func (.func 186) #[] #[]] 124)) w.heap.size 0 (yi 16)).trans (ag _ w.heap.size 1 (yi 6))).trans (ag _ w.heap.size 2 (yi (-70)))).trans (ag _ w.heap.size 3 (yi 57))).trans (ag _ w.heap.size 4 (.bool false))).below (aa (aa b0 b2) (af w2 (.cells #[yi 16,yi 6,yi (-70),yi 57,.bool false,yi 4,yi 7,yi 2,.func (.func 186) #[] #[]] 124))) (Nat.le_refl _);have hl:=run_loadVar_mid (P:=Tryz.prog) _ w.heap.size 0 40 (ygL 16 6 (-70) 57 false) _ cR.range underlying40 rfl (by kernel_rfl);have HH:Hid (_∧_):=⟨hl,bR⟩;have x0:=l3.c 0 rfl;have f0:=l3.f 0;have x1:=l3.c 1 rfl;have f1:=l3.f 1;have x2:=l3.c 2 rfl;have f2:=l3.f 2;have x3:=l3.c 3 rfl;have f3:=l3.f 3;have x4:=l3.c 4 rfl;have f4:=l3.f 4;have hne:w2.heap.size≠w.heap.size:=Nat.ne_of_gt (l0.l b2).lt;clear hl bR cR l0 l3 b0 b2 HL
 go_wp2
 obtain⟨hl,bR⟩:=HH.out;exact bodyPost_ret (aj results92 rfl rfl hl) rfl ⟨rfl,bR⟩
theorem SR (w:World):yC 92 #[yi 5] w (yR w (.tuple #[ygV 16 14 (-78) 49 false,yi 0])):=by
 have HL:Hid (yJ 111 #[yi 5] (.tuple #[.agg #[yi 16,yi 14,yi (-78),yi 49,.bool false,yi 8,yi 7,yi 2,.func (.func 186) #[] #[]],yi 0])):=fun w1=>uY w1
 have hsf:=cD;have hsn:=gn;have l0:=ah w (ygL 0 0 0 0 false) 40;have b0:=af w (.cells (ygA 0 0 0 0 false) 40)
 go_enter func92,ntmps92
 go_wp2_with fail
 refine(HL.out _).mono ?_;rintro z w2 ⟨rfl,b2⟩;have l3:=(l0.l b2).l (af w2 (.cells #[yi 16,yi 14,yi (-78),yi 49,.bool false,yi 8,yi 7,yi 2,.func (.func 186) #[] #[]] 124));have cR:au ((((((w2.alloc (.cells #[yi 16,yi 14,yi (-78),yi 49,.bool false,yi 8,yi 7,yi 2,.func (.func 186) #[] #[]] 124)).setCell ⟨w.heap.size,0,none⟩ (yi 16)).setCell ⟨w.heap.size,1,none⟩ (yi 14)).setCell ⟨w.heap.size,2,none⟩ (yi (-78))).setCell ⟨w.heap.size,3,none⟩ (yi 49)).setCell ⟨w.heap.size,4,none⟩ (.bool false)) w.heap.size 40 (ygL 16 14 (-78) 49 false):=(((((l3.set 0 (yi 16)).set 1 (yi 14)).set 2 (yi (-78))).set 3 (yi 49)).set 4 (.bool false));have bR:=(((((ag (w2.alloc (.cells #[yi 16,yi 14,yi (-78),yi 49,.bool false,yi 8,yi 7,yi 2,.func (.func 186) #[] #[]] 124)) w.heap.size 0 (yi 16)).trans (ag _ w.heap.size 1 (yi 14))).trans (ag _ w.heap.size 2 (yi (-78)))).trans (ag _ w.heap.size 3 (yi 49))).trans (ag _ w.heap.size 4 (.bool false))).below (aa (aa b0 b2) (af w2 (.cells #[yi 16,yi 14,yi (-78),yi 49,.bool false,yi 8,yi 7,yi 2,.func (.func 186) #[] #[]] 124))) (Nat.le_refl _);have hl:=run_loadVar_mid (P:=Tryz.prog) _ w.heap.size 0 40 (ygL 16 14 (-78) 49 false) _ cR.range underlying40 rfl (by kernel_rfl);have HH:Hid (_∧_):=⟨hl,bR⟩;have x0:=l3.c 0 rfl;have f0:=l3.f 0;have x1:=l3.c 1 rfl;have f1:=l3.f 1;have x2:=l3.c 2 rfl;have f2:=l3.f 2;have x3:=l3.c 3 rfl;have f3:=l3.f 3;have x4:=l3.c 4 rfl;have f4:=l3.f 4;have hne:w2.heap.size≠w.heap.size:=Nat.ne_of_gt (l0.l b2).lt;clear hl bR cR l0 l3 b0 b2 HL
 go_wp2
 obtain⟨hl,bR⟩:=HH.out;exact bodyPost_ret (aj results92 rfl rfl hl) rfl ⟨rfl,bR⟩
theorem SS (w:World):yC 92 #[yi 6] w (yR w (.tuple #[ygV 2 24 (-151) 103 false,yi 0])):=by
 have HL:Hid (yJ 111 #[yi 6] (.tuple #[.agg #[yi 2,yi 24,yi (-151),yi 103,.bool false,yi 4,yi 8,yi 3,.func (.func 188) #[] #[]],yi 0])):=fun w1=>uZ w1
 have hsf:=cD;have hsn:=gn;have l0:=ah w (ygL 0 0 0 0 false) 40;have b0:=af w (.cells (ygA 0 0 0 0 false) 40)
 go_enter func92,ntmps92
 go_wp2_with fail
 refine(HL.out _).mono ?_;rintro z w2 ⟨rfl,b2⟩;have l3:=(l0.l b2).l (af w2 (.cells #[yi 2,yi 24,yi (-151),yi 103,.bool false,yi 4,yi 8,yi 3,.func (.func 188) #[] #[]] 124));have cR:au ((((((w2.alloc (.cells #[yi 2,yi 24,yi (-151),yi 103,.bool false,yi 4,yi 8,yi 3,.func (.func 188) #[] #[]] 124)).setCell ⟨w.heap.size,0,none⟩ (yi 2)).setCell ⟨w.heap.size,1,none⟩ (yi 24)).setCell ⟨w.heap.size,2,none⟩ (yi (-151))).setCell ⟨w.heap.size,3,none⟩ (yi 103)).setCell ⟨w.heap.size,4,none⟩ (.bool false)) w.heap.size 40 (ygL 2 24 (-151) 103 false):=(((((l3.set 0 (yi 2)).set 1 (yi 24)).set 2 (yi (-151))).set 3 (yi 103)).set 4 (.bool false));have bR:=(((((ag (w2.alloc (.cells #[yi 2,yi 24,yi (-151),yi 103,.bool false,yi 4,yi 8,yi 3,.func (.func 188) #[] #[]] 124)) w.heap.size 0 (yi 2)).trans (ag _ w.heap.size 1 (yi 24))).trans (ag _ w.heap.size 2 (yi (-151)))).trans (ag _ w.heap.size 3 (yi 103))).trans (ag _ w.heap.size 4 (.bool false))).below (aa (aa b0 b2) (af w2 (.cells #[yi 2,yi 24,yi (-151),yi 103,.bool false,yi 4,yi 8,yi 3,.func (.func 188) #[] #[]] 124))) (Nat.le_refl _);have hl:=run_loadVar_mid (P:=Tryz.prog) _ w.heap.size 0 40 (ygL 2 24 (-151) 103 false) _ cR.range underlying40 rfl (by kernel_rfl);have HH:Hid (_∧_):=⟨hl,bR⟩;have x0:=l3.c 0 rfl;have f0:=l3.f 0;have x1:=l3.c 1 rfl;have f1:=l3.f 1;have x2:=l3.c 2 rfl;have f2:=l3.f 2;have x3:=l3.c 3 rfl;have f3:=l3.f 3;have x4:=l3.c 4 rfl;have f4:=l3.f 4;have hne:w2.heap.size≠w.heap.size:=Nat.ne_of_gt (l0.l b2).lt;clear hl bR cR l0 l3 b0 b2 HL
 go_wp2
 obtain⟨hl,bR⟩:=HH.out;exact bodyPost_ret (aj results92 rfl rfl hl) rfl ⟨rfl,bR⟩
theorem ST (w:World):yC 92 #[yi 7] w (yR w (.tuple #[ygV 2 56 (-183) 71 false,yi 0])):=by
 have HL:Hid (yJ 111 #[yi 7] (.tuple #[.agg #[yi 2,yi 56,yi (-183),yi 71,.bool false,yi 8,yi 8,yi 3,.func (.func 188) #[] #[]],yi 0])):=fun w1=>vf w1
 have hsf:=cD;have hsn:=gn;have l0:=ah w (ygL 0 0 0 0 false) 40;have b0:=af w (.cells (ygA 0 0 0 0 false) 40)
 go_enter func92,ntmps92
 go_wp2_with fail
 refine(HL.out _).mono ?_;rintro z w2 ⟨rfl,b2⟩;have l3:=(l0.l b2).l (af w2 (.cells #[yi 2,yi 56,yi (-183),yi 71,.bool false,yi 8,yi 8,yi 3,.func (.func 188) #[] #[]] 124));have cR:au ((((((w2.alloc (.cells #[yi 2,yi 56,yi (-183),yi 71,.bool false,yi 8,yi 8,yi 3,.func (.func 188) #[] #[]] 124)).setCell ⟨w.heap.size,0,none⟩ (yi 2)).setCell ⟨w.heap.size,1,none⟩ (yi 56)).setCell ⟨w.heap.size,2,none⟩ (yi (-183))).setCell ⟨w.heap.size,3,none⟩ (yi 71)).setCell ⟨w.heap.size,4,none⟩ (.bool false)) w.heap.size 40 (ygL 2 56 (-183) 71 false):=(((((l3.set 0 (yi 2)).set 1 (yi 56)).set 2 (yi (-183))).set 3 (yi 71)).set 4 (.bool false));have bR:=(((((ag (w2.alloc (.cells #[yi 2,yi 56,yi (-183),yi 71,.bool false,yi 8,yi 8,yi 3,.func (.func 188) #[] #[]] 124)) w.heap.size 0 (yi 2)).trans (ag _ w.heap.size 1 (yi 56))).trans (ag _ w.heap.size 2 (yi (-183)))).trans (ag _ w.heap.size 3 (yi 71))).trans (ag _ w.heap.size 4 (.bool false))).below (aa (aa b0 b2) (af w2 (.cells #[yi 2,yi 56,yi (-183),yi 71,.bool false,yi 8,yi 8,yi 3,.func (.func 188) #[] #[]] 124))) (Nat.le_refl _);have hl:=run_loadVar_mid (P:=Tryz.prog) _ w.heap.size 0 40 (ygL 2 56 (-183) 71 false) _ cR.range underlying40 rfl (by kernel_rfl);have HH:Hid (_∧_):=⟨hl,bR⟩;have x0:=l3.c 0 rfl;have f0:=l3.f 0;have x1:=l3.c 1 rfl;have f1:=l3.f 1;have x2:=l3.c 2 rfl;have f2:=l3.f 2;have x3:=l3.c 3 rfl;have f3:=l3.f 3;have x4:=l3.c 4 rfl;have f4:=l3.f 4;have hne:w2.heap.size≠w.heap.size:=Nat.ne_of_gt (l0.l b2).lt;clear hl bR cR l0 l3 b0 b2 HL
 go_wp2
 obtain⟨hl,bR⟩:=HH.out;exact bodyPost_ret (aj results92 rfl rfl hl) rfl ⟨rfl,bR⟩
theorem SU (w:World):yC 92 #[yi 8] w (yR w (.tuple #[ygV 2 53 (-1076) 970 false,yi 0])):=by
 have HL:Hid (yJ 111 #[yi 8] (.tuple #[.agg #[yi 2,yi 53,yi (-1076),yi 970,.bool false,yi 8,yi 11,yi 3,.func (.func 188) #[] #[]],yi 0])):=fun w1=>vh w1
 have hsf:=cD;have hsn:=gn;have l0:=ah w (ygL 0 0 0 0 false) 40;have b0:=af w (.cells (ygA 0 0 0 0 false) 40)
 go_enter func92,ntmps92
 go_wp2_with fail
 refine(HL.out _).mono ?_;rintro z w2 ⟨rfl,b2⟩;have l3:=(l0.l b2).l (af w2 (.cells #[yi 2,yi 53,yi (-1076),yi 970,.bool false,yi 8,yi 11,yi 3,.func (.func 188) #[] #[]] 124));have cR:au ((((((w2.alloc (.cells #[yi 2,yi 53,yi (-1076),yi 970,.bool false,yi 8,yi 11,yi 3,.func (.func 188) #[] #[]] 124)).setCell ⟨w.heap.size,0,none⟩ (yi 2)).setCell ⟨w.heap.size,1,none⟩ (yi 53)).setCell ⟨w.heap.size,2,none⟩ (yi (-1076))).setCell ⟨w.heap.size,3,none⟩ (yi 970)).setCell ⟨w.heap.size,4,none⟩ (.bool false)) w.heap.size 40 (ygL 2 53 (-1076) 970 false):=(((((l3.set 0 (yi 2)).set 1 (yi 53)).set 2 (yi (-1076))).set 3 (yi 970)).set 4 (.bool false));have bR:=(((((ag (w2.alloc (.cells #[yi 2,yi 53,yi (-1076),yi 970,.bool false,yi 8,yi 11,yi 3,.func (.func 188) #[] #[]] 124)) w.heap.size 0 (yi 2)).trans (ag _ w.heap.size 1 (yi 53))).trans (ag _ w.heap.size 2 (yi (-1076)))).trans (ag _ w.heap.size 3 (yi 970))).trans (ag _ w.heap.size 4 (.bool false))).below (aa (aa b0 b2) (af w2 (.cells #[yi 2,yi 53,yi (-1076),yi 970,.bool false,yi 8,yi 11,yi 3,.func (.func 188) #[] #[]] 124))) (Nat.le_refl _);have hl:=run_loadVar_mid (P:=Tryz.prog) _ w.heap.size 0 40 (ygL 2 53 (-1076) 970 false) _ cR.range underlying40 rfl (by kernel_rfl);have HH:Hid (_∧_):=⟨hl,bR⟩;have x0:=l3.c 0 rfl;have f0:=l3.f 0;have x1:=l3.c 1 rfl;have f1:=l3.f 1;have x2:=l3.c 2 rfl;have f2:=l3.f 2;have x3:=l3.c 3 rfl;have f3:=l3.f 3;have x4:=l3.c 4 rfl;have f4:=l3.f 4;have hne:w2.heap.size≠w.heap.size:=Nat.ne_of_gt (l0.l b2).lt;clear hl bR cR l0 l3 b0 b2 HL
 go_wp2
 obtain⟨hl,bR⟩:=HH.out;exact bodyPost_ret (aj results92 rfl rfl hl) rfl ⟨rfl,bR⟩
theorem read_any (t:ByteArray)(w:World)(hT:TxW w):yC 30 #[.string t] w (NmE w (nmV t)):=by
 unfold nmV
 by_cases h4:400<t.size
 ·rw[if_pos h4]
  exact tread_many t w h4
 rw[if_neg h4];have hu:=undash_size t;have hc:=cutS_size 101 (undash t);have hd:=cutS_size 46 (nmC t).1;have hc1:(nmC t).1.size+(nmC t).2.1.size≤400:=by unfold nmC;omega
 have hd1:(nmD t).1.size+(nmD t).2.1.size≤400:=by unfold nmD;omega
 have hcat:((nmD t).1++(nmD t).2.1).size=(nmD t).1.size+(nmD t).2.1.size:=ByteArray.size_append;have HP:=fun w1=>prefix_any t ⟨#[45]⟩ w1
 have HE:=fun w1 (b:yB w w1)=>cut_any (undash t) ⟨#[101]⟩ w1 (by omega) (hT.l b)
 have HQ:=fun w1 (b:yB w w1)=>cut_any (nmC t).1 ⟨#[46]⟩ w1 (by omega) (hT.l b)
 have HD:=fun w1=>tdecimals_any ((nmD t).1++(nmD t).2.1) w1 (by omega)
 have HR:=fun w1=>readPower_any (nmC t).2.1 w1
 have HE': ∀b,(nmC t).2.2=b→yH w 67 #[.string (undash t),.string ⟨#[101]⟩] (.tuple #[.string (nmC t).1,.string (nmC t).2.1,.bool b]):=fun b hb w1 b1=>by
  rw[←hb];exact HE w1 b1
 have HQ': ∀b,(nmD t).2.2=b→yH w 67 #[.string (nmC t).1,.string ⟨#[46]⟩] (.tuple #[.string (nmD t).1,.string (nmD t).2.1,.bool b]):=fun b hb w1 b1=>by
  rw[←hb];exact HQ w1 b1
 clear HE HQ;have hle:t.size≤400:=by omega
 have hrp:=rpV_in (nmC t).2.1
 cases hr:(nmC t).2.2
 ·have hP:nmP t=(0,true):=by unfold nmP;rw[hr];rfl
  have hQ:nmQ t= -((nmD t).2.1.size:Int):=by unfold nmQ;rw[hP];show(0:Int)-_=_;omega
  rw[hP,hQ]
  cases hg:digB ((nmD t).1++(nmD t).2.1)
  ·rw[if_pos (.inr (.inl rfl))]
   rw[hg] at HD;exact tread_dig_n t (undash t) (nmC t).1 (nmC t).2.1 (nmD t).1 (nmD t).2.1 (dash t) (nmD t).2.2 w hle hd1 HP (HE' _ hr) (HQ' _ rfl) HD
  rw[hg] at HD
  cases hpo:(nmD t).2.2
  ·rw[if_neg (fun c=>by rcases c with c|c|c;cases c;cases c;cases c.1),if_neg (by omega)]
   exact tread_okf_n t (undash t) (nmC t).1 (nmC t).2.1 (nmD t).1 (nmD t).2.1 (dash t) w hle hd1 HP (HE' _ hr) (HQ' _ hpo) HD
  by_cases hb0:(nmD t).2.1.size=0
  ·rw[if_pos (.inr (.inr ⟨rfl,hb0⟩))]
   have e:=IX _ hb0;have HQ2:=HQ' _ hpo;rw[e] at HD HQ2;exact tread_pt_n t (undash t) (nmC t).1 (nmC t).2.1 (nmD t).1 (dash t) w hle (by omega) HP (HE' _ hr) HQ2 HD
  ·rw[if_neg (fun c=>by rcases c with c|c|c;cases c;cases c;exact hb0 c.2),if_neg (by omega)]
   exact tread_okt_n t (undash t) (nmC t).1 (nmC t).2.1 (nmD t).1 (nmD t).2.1 (dash t) w hle hd1 (Qw _ hb0) HP (HE' _ hr) (HQ' _ hpo) HD
 ·have hP:nmP t=rpV (nmC t).2.1:=by unfold nmP;rw[hr];rfl
  have hQ:IntKind.i64.wrap ((rpV (nmC t).2.1).1-((nmD t).2.1.size:Int))=nmQ t:=by unfold nmQ;rw[hP];exact IntWalk.i64_in _ ⟨by omega,by omega⟩
  rw[hP]
  cases hk:(rpV (nmC t).2.1).2
  ·rw[if_pos (.inl rfl)]
   rw[hk] at HR;exact tread_bad t (undash t) (nmC t).1 (nmC t).2.1 (nmD t).1 (nmD t).2.1 (dash t) (nmD t).2.2 _ w hle HP (HE' _ hr) HR (HQ' _ rfl)
  rw[hk] at HR
  cases hg:digB ((nmD t).1++(nmD t).2.1)
  ·rw[if_pos (.inr (.inl rfl))]
   rw[hg] at HD;exact tread_dig_e t (undash t) (nmC t).1 (nmC t).2.1 (nmD t).1 (nmD t).2.1 (dash t) (nmD t).2.2 _ w hle hd1 HP (HE' _ hr) HR (HQ' _ rfl) HD
  rw[hg] at HD
  cases hpo:(nmD t).2.2
  ·rw[if_neg (fun c=>by rcases c with c|c|c;cases c;cases c;cases c.1)]
   by_cases h1:nmQ t< -6000
   ·rw[if_pos (.inl h1)]
    exact tread_lof_e _ t (undash t) (nmC t).1 (nmC t).2.1 (nmD t).1 (nmD t).2.1 (dash t) _ w hle hd1 hQ h1 HP (HE' _ hr) HR (HQ' _ hpo) HD
   by_cases h2:6000<nmQ t
   ·rw[if_pos (.inr h2)]
    exact tread_hif_e _ t (undash t) (nmC t).1 (nmC t).2.1 (nmD t).1 (nmD t).2.1 (dash t) _ w hle hd1 hQ h1 h2 HP (HE' _ hr) HR (HQ' _ hpo) HD
   ·rw[if_neg (fun c=>c.elim h1 h2)]
    exact tread_okf_e _ t (undash t) (nmC t).1 (nmC t).2.1 (nmD t).1 (nmD t).2.1 (dash t) _ w hle hd1 hQ h1 h2 HP (HE' _ hr) HR (HQ' _ hpo) HD
  by_cases hb0:(nmD t).2.1.size=0
  ·rw[if_pos (.inr (.inr ⟨rfl,hb0⟩))]
   have e:=IX _ hb0;have HQ2:=HQ' _ hpo;rw[e] at HD HQ2;exact tread_pt_e t (undash t) (nmC t).1 (nmC t).2.1 (nmD t).1 (dash t) _ w hle (by omega) HP (HE' _ hr) HR HQ2 HD
  ·rw[if_neg (fun c=>by rcases c with c|c|c;cases c;cases c;exact hb0 c.2)]
   have he:=Qw _ hb0
   by_cases h1:nmQ t< -6000
   ·rw[if_pos (.inl h1)]
    exact tread_lot_e _ t (undash t) (nmC t).1 (nmC t).2.1 (nmD t).1 (nmD t).2.1 (dash t) _ w hle hd1 he hQ h1 HP (HE' _ hr) HR (HQ' _ hpo) HD
   by_cases h2:6000<nmQ t
   ·rw[if_pos (.inr h2)]
    exact tread_hit_e _ t (undash t) (nmC t).1 (nmC t).2.1 (nmD t).1 (nmD t).2.1 (dash t) _ w hle hd1 he hQ h1 h2 HP (HE' _ hr) HR (HQ' _ hpo) HD
   ·rw[if_neg (fun c=>c.elim h1 h2)]
    exact tread_okt_e _ t (undash t) (nmC t).1 (nmC t).2.1 (nmD t).1 (nmD t).2.1 (dash t) _ w hle hd1 he hQ h1 h2 HP (HE' _ hr) HR (HQ' _ hpo) HD
end Go.Proofs.YtpgijbdgljkeeaaGreatDoor
