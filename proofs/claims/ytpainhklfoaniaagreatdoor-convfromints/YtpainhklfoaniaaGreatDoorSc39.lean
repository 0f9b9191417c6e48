/-
  Texts laid together: Ce8, Ce11, Em1, Cr4.
-/
import Derived.Test.YtpainhklfoaniaaGreatDoorSc24
import Derived.Test.YtpainhklfoaniaaGreatDoorSc34
import Derived.Test.YtpainhklfoaniaaGreatDoorSc38
set_option maxRecDepth 100000
set_option maxHeartbeats 6400000
namespace Go.Proofs.YtpainhklfoaniaaGreatDoor
open _root_.Go.Proofs.Tryz
open Go.RowKit
theorem QD (n:Int)(R D L G fam:Int)(gr:Bool)(sz ex:Nat)(F:Nat)(p:Int)(ng:Bool)(ao:Option Addr)(dn dc:Nat)(w:World)
  (HL:yJ 70 #[yi n] (.tuple #[ylV R D L G gr sz ex fam F,yi 0]))
  (nc:Int) (HN:yH w 71 #[.slice ao dn dc] (yi nc))
  (st:ByteArray) (er:Int) (HO:yH w 72 #[ylV R D L G gr sz ex fam F,yvV 2 ng (.slice ao dn dc) p] (.tuple #[.string st,yi er])) (hn:nc=0):
  yC 37 #[yi n,yvV 2 ng (.slice ao dn dc) p] w (yR w (.tuple #[.string st,yi er])):=by
 subst hn;have HN':Hid _:=HN;clear HN;have HO':Hid _:=HO;clear HO;have hsf:=cD;have hsn:=gn;have m0:=ah w (yvL 2 ng (.slice ao dn dc) p) 77;have b0:=af w (.cells (yvA 2 ng (.slice ao dn dc) p) 77);have HL':Hid _:=HL;clear HL
 go_enter func37,ntmps37
 go_wp2_with fail
 refine(HL'.out _).mono ?_;rintro z w1 ⟨rfl,b1⟩;have bq:=af w1 (.cells (ylA R D L G gr sz ex fam F) 131);have m1:=(m0.l b1).l bq;have q1:=ah w1 (ylL R D L G gr sz ex fam F) 131;have b01:=aa (aa b0 b1) bq;obtain⟨u0,u1,u2,u3⟩:=m1.cs4;obtain⟨s0,s1,s2,s3,s4,s5,s6,s7,s8⟩:=q1.cs9;clear m0 b0 b1 bq HL'
 go_wp2_with fail
 refine(HN'.out _ b01).mono ?_;rintro z w2 ⟨rfl,b2⟩;have m2:=m1.l b2;have q2:=q1.l b2;have b02:=aa b01 b2;obtain⟨v0,v1,v2,v3⟩:=m2.cs4;obtain⟨t0,t1,t2,t3,t4,t5,t6,t7,t8⟩:=q2.cs9
 go_wp2_with fail
 refine(HO'.out _ b02).mono ?_;rintro z w3 ⟨rfl,b3⟩
 go_wp2
 go_ret2
 exact⟨rfl,aa b02 b3⟩
theorem wI {c:Int}{t r:ak}(h:cC c t=(r,0)):r=bare t∧aS (Dg.dg 4294967296 r.n) r.e=0:=by
 unfold cC at h
 by_cases h0:c=0
 ·rw[if_pos h0] at h
  unfold bU at h
  by_cases h1:1200< (Dg.dg 4294967296 (bare t).n).length
  ·rw[if_pos h1] at h
   simp at h
  ·rw[if_neg h1] at h
   by_cases h2:(bare t).e< -20000∨20000< (bare t).e
   ·rw[if_pos h2] at h
    simp at h
   ·rw[if_neg h2] at h
    simp only[Prod.mk.injEq,and_true] at h;subst h;have hn:=Dg.norm_dg 4294967296 (bare t).n (by omega);refine⟨rfl, ?_⟩;unfold aS;rw[if_pos (pJ hn (by omega)),if_neg h2]
 ·rw[if_neg h0] at h
  simp only[Prod.mk.injEq] at h;exact absurd h.2 h0
def enN (k:Nat)(ng:Bool)(xs:List Nat)(p:Int):ak×Int:=
 cC (ix xs p (rdN k) (dgN k) (lsI k) (gsI k)) ⟨ng,Dg.vl 4294967296 xs,(ai (rdN k):Int)*p⟩
def enH (k:Nat)(t:ak):Bool:=um (Dg.dg 4294967296 t.n) t.e (rdN k) (dgN k) (lsI k) (gsI k) (decide (k≤3))
def enE (k:Nat)(ng:Bool)(xs:List Nat)(p:Int):Int:=
 if p< -20000∨20000<p then 3 else if xs.length=0 then 4 else if(enN k ng xs p).2=0∧enH k (enN k ng xs p).1=true then 0 else 4
def enS (k:Nat)(ng:Bool)(xs:List Nat)(p:Int):ByteArray:=
 if enE k ng xs p=0 then cF (kU k (plT k (enN k ng xs p).1.s (enN k ng xs p).1.n (enN k ng xs p).1.e).s (heE (rdN k) (lsI k) (gW k) (plT k (enN k ng xs p).1.s (enN k ng xs p).1.n (enN k ng xs p).1.e)) (plT k (enN k ng xs p).1.s (enN k ng xs p).1.n (enN k ng xs p).1.e).d) else⟨#[]⟩
theorem B5 (k:Nat)(hk:1≤k∧k≤8)(ng:Bool)(ao:Option Addr)(ca:Nat)(xs:List Nat)(p:Int)(w:World)(hr:Rd w .u32 (.slice ao xs.length ca) xs)(sa:Dg.Small 4294967296 xs)(hc:chk xs=0)(hT:Tab w):
  yC 72 #[.agg (tS k).toArray,yvV 2 ng (.slice ao xs.length ca) p] w (yR w (.tuple #[.string (enS k ng xs p),yi (enE k ng xs p)])):=by
 have key: ∀er,enE k ng xs p=er→enS k ng xs p=if er=0 then cF (kU k (plT k (enN k ng xs p).1.s (enN k ng xs p).1.n (enN k ng xs p).1.e).s (heE (rdN k) (lsI k) (gW k) (plT k (enN k ng xs p).1.s (enN k ng xs p).1.n (enN k ng xs p).1.e)) (plT k (enN k ng xs p).1.s (enN k ng xs p).1.n (enN k ng xs p).1.e).d) else⟨#[]⟩:=fun er h=>by unfold enS;rw[h]
 by_cases hp:p< -20000∨20000<p
 ·have hE:enE k ng xs p=3:=if_pos hp
  rw[key 3 hE,hE,if_neg (by omega)]
  rcases hp with hp|hp
  ·rcases bO hk with rfl|rfl|rfl|rfl|rfl|rfl|rfl|rfl
   all_goals exact Q7 _ _ _ _ _ _ _ _ _ 2 p ng ao xs.length ca w hp
  ·rcases bO hk with rfl|rfl|rfl|rfl|rfl|rfl|rfl|rfl
   all_goals exact NN _ _ _ _ _ _ _ _ _ 2 p ng ao xs.length ca w hp
 ·have hp1: -20000≤p:=by omega
  have hp2:p≤20000:=by omega
  by_cases hl:xs.length=0
  ·have hE:enE k ng xs p=4:=by unfold enE;rw[if_neg hp,if_pos hl]
   rw[key 4 hE,hE,if_neg (by omega)]
   rcases bO hk with rfl|rfl|rfl|rfl|rfl|rfl|rfl|rfl
   all_goals exact KO _ _ _ _ _ _ _ _ _ 2 p ng ao xs.length ca w hp1 hp2 hl
  ·have hnx:Dg.vl 4294967296 xs≠0:=fun h=>by
    obtain⟨n1,-⟩:=aF hc;exact Dg.vl_ne_zero 4294967296 (by omega) xs (by intro e;subst e;simp at hl) n1 h
   have HN1:=fun w1 (b:yB w w1)=>kB (rdN k) (dgN k) (lsI k) (gsI k) (decide (k≤3)) ng ao ca xs p false false false w1 (hr.l b) sa (hT.l b)
   have hen:cC (ix xs p (rdN k) (dgN k) (lsI k) (gsI k)) ⟨ng,Dg.vl 4294967296 xs,(ai (rdN k):Int)*p⟩=enN k ng xs p:=rfl;rw[hen] at HN1;have hE:enE k ng xs p=if(enN k ng xs p).2=0∧enH k (enN k ng xs p).1=true then 0 else 4:=by unfold enE;rw[if_neg hp,if_neg hl]
   have hfact:(enN k ng xs p).2=0→(enN k ng xs p).1.n≠0∧aS (Dg.dg 4294967296 (enN k ng xs p).1.n) (enN k ng xs p).1.e=0:=fun h=>by
    have h2:=wI (show cC (ix xs p (rdN k) (dgN k) (lsI k) (gsI k)) ⟨ng,Dg.vl 4294967296 xs,(ai (rdN k):Int)*p⟩=((enN k ng xs p).1,0) from by rw[hen];exact Prod.ext rfl h)
    obtain⟨h3,h4⟩:=h2;refine⟨fun h5=> ?_,h4⟩
    rw[h3] at h5;exact hnx ((fI ⟨ng,Dg.vl 4294967296 xs,(ai (rdN k):Int)*p⟩).1 h5)
   clear hen;generalize enN k ng xs p=r at*;obtain⟨t,er⟩:=r;simp only at hE hfact key HN1⊢;have HN: ∀w1,yB w w1→yC 98 #[.agg (tS k).toArray,yvV 2 ng (.slice ao xs.length ca) p] w1 (gR w1 (t,er)):=fun w1 b=>by
    rcases bO hk with rfl|rfl|rfl|rfl|rfl|rfl|rfl|rfl
    all_goals exact Je _ _ _ _ _ _ _ _ _ 2 p ng ao xs.length ca (t,er) w1 (fun w2 b2=>HN1 w2 (aa b b2))
   by_cases her:er=0
   ·obtain⟨hn0,hdc⟩:=hfact her
    have sm:=Dg.small_dg 4294967296 t.n (by omega);have HH:=fun so sc w1 (b:yB w w1) (h:Rd w1 .u32 (yT so t.n sc) (Dg.dg 4294967296 t.n))=>qR (rdN k) (dgN k) (lsI k) (gsI k) (decide (k≤3)) t.s so sc (Dg.dg 4294967296 t.n) t.e w1 h sm (hT.l b)
    have hgr:bk (rdN k) (dgN k) (lsI k) (gsI k)=0:=by
     rcases bO hk with rfl|rfl|rfl|rfl|rfl|rfl|rfl|rfl<;>decide
    have hon:onC (aS (Dg.dg 4294967296 t.n) t.e) (bk (rdN k) (dgN k) (lsI k) (gsI k))=0:=by unfold onC;rw[if_pos hdc];exact hgr
    rw[hon] at HH
    by_cases hq:enH k t=true
    ·rw[if_pos ⟨her,hq⟩] at hE
     rw[key 0 hE,hE,if_pos rfl];have hq':um (Dg.dg 4294967296 t.n) t.e (rdN k) (dgN k) (lsI k) (gsI k) (decide (k≤3))=true:=hq;have hheld:dA (rdN k) (dgN k) (lsI k) (gsI k) (decide (k≤3)) (Dg.vl 4294967296 (Dg.dg 4294967296 t.n)) t.e=true:=by
      have h:=hq';unfold um at h;rw[if_pos hon] at h;exact h
     have HE:=fun so sc w1 (_b:yB w w1) (h:Rd w1 .u32 (yT so t.n sc) (Dg.dg 4294967296 t.n))=>xE k hk t.s so sc (Dg.dg 4294967296 t.n) t.e w1 h sm hdc (by rw[Dg.vl_dg 4294967296 t.n (by omega)];exact hn0) hheld
     rw[Dg.vl_dg 4294967296 t.n (by omega)] at HE;rw[hq'] at HH;generalize cF (kU k (plT k t.s t.n t.e).s (heE (rdN k) (lsI k) (gW k) (plT k t.s t.n t.e)) (plT k t.s t.n t.e).d)=st at*
     rcases bO hk with rfl|rfl|rfl|rfl|rfl|rfl|rfl|rfl
     all_goals exact NP _ _ _ _ _ _ _ _ _ 2 p ng ao xs.length ca w t er HN true 0 HH st 0 HE hp1 hp2 (by omega) her rfl rfl
    ·have hqf:um (Dg.dg 4294967296 t.n) t.e (rdN k) (dgN k) (lsI k) (gsI k) (decide (k≤3))=false:=by
      have:enH k t=false:=by simpa using hq
      exact this
     rw[if_neg (fun h=>hq h.2)] at hE
     rw[key 4 hE,hE,if_neg (by omega)];rw[hqf] at HH
     rcases bO hk with rfl|rfl|rfl|rfl|rfl|rfl|rfl|rfl
     all_goals exact NO _ _ _ _ _ _ _ _ _ 2 p ng ao xs.length ca w t er HN false 0 HH hp1 hp2 (by omega) her rfl rfl
   ·rw[if_neg (fun h=>her h.1)] at hE
    rw[key 4 hE,hE,if_neg (by omega)]
    rcases bO hk with rfl|rfl|rfl|rfl|rfl|rfl|rfl|rfl
    all_goals exact Q8 _ _ _ _ _ _ _ _ _ 2 p ng ao xs.length ca w t er HN hp1 hp2 (by omega) her
theorem aaj (a many i:Nat)(h:i<many):(bnL a many).getD i false=decide (a/2^ (many-1-i) % 2=1):=by
 simp[bnL,List.getD_eq_getElem?_getD,h]
theorem acq (ex fr e f:Nat)(ng:Bool)(i:Nat)(h:i<1+ex+fr):((ng::bnL e ex)++bnL f fr).getD i false=Eb ex fr ng e f i:=by
 unfold Eb
 by_cases h0:i=0
 ·subst h0
  rfl
 ·rw[if_neg h0]
  obtain⟨j,rfl⟩: ∃j,i=j+1:=⟨i-1,by omega⟩;rw[List.cons_append,List.getD_cons_succ]
  by_cases hx:j+1≤ex
  ·rw[if_pos hx,List.getD_eq_getElem?_getD,List.getElem?_append_left (by rw[wk];omega),←List.getD_eq_getElem?_getD,aaj _ _ _ (by omega),show ex-1-j=ex-(j+1) from by omega]
  ·rw[if_neg hx,List.getD_eq_getElem?_getD,List.getElem?_append_right (by rw[wk];omega),←List.getD_eq_getElem?_getD,wk,aaj _ _ _ (by omega),show fr-1-(j-ex)=ex+fr-(j+1) from by omega]
theorem aak {f p j:Nat}(h:2^p≤f)(hj:j<p):(f-2^p)/2^j % 2=f/2^j % 2:=by
 obtain⟨r,rfl⟩: ∃r,f=r+2^p:=⟨f-2^p,by omega⟩;obtain⟨q,rfl⟩: ∃q,p=j+1+q:=⟨p-j-1,by omega⟩;rw[Nat.add_sub_cancel,show 2^ (j+1+q)=2^j*(2*2^q) from by rw[Nat.pow_add,Nat.pow_succ,Nat.mul_assoc],Nat.add_mul_div_left _ _ (Nat.pow_pos (by omega)),Nat.add_mul_mod_self_left]
theorem Wg {k:Nat}(hk:1≤k∧k≤8)(ng:Bool)(e f:Nat)(h:2^frN k≤f):kU k ng e (f-2^frN k)=kU k ng e f:=by
 obtain⟨h1,h2,h3,h4,-,h7⟩:=fZ hk;rw[xP hk,xP hk]
 congr 1
 refine Ic _ (fun i hi=> ?_)
 unfold Eb
 by_cases h0:i=0
 ·rw[if_pos h0,if_pos h0]
 ·rw[if_neg h0,if_neg h0]
  by_cases hx:i≤exN k
  ·rw[if_pos hx,if_pos hx]
  ·rw[if_neg hx,if_neg hx,aak h (by omega)]
theorem Jv (n:Nat)(x:Int):eZ n x/dX 1 x=shN n x:=by
 unfold eZ dX shN
 by_cases h:x<0
 ·rw[if_pos h,if_pos h,if_pos h,Nat.one_mul]
 ·rw[if_neg h,if_neg h,if_neg h,Nat.div_one]
theorem oj {R D L G:Int}{gr s:Bool}{n:Nat}{e way:Int}(h1:1≤D)(hLG:L≤G)(h0:n≠0)(hh:dA R D L G gr n e=true):
  (cI R D L G gr s n 1 e way).s=s∧(cI R D L G gr s n 1 e way).d=shN n (e-(ai R:Int)*cP R D L gr n e)∧(cI R D L G gr s n 1 e way).p=cP R D L gr n e∧shN n (e-(ai R:Int)*cP R D L gr n e)≠0:=by
 have hM:(1:Nat)≠0:=by omega
 have hb:=(mC (s:=s) (way:=way) h1 hLG h0 hh).2.2;have hs:L≤cP R D L gr n e∧cP R D L gr n e≤G∧(ai R:Int)*cP R D L gr n e≤e+(tz n:Int):=by
  unfold dA at hh
  rcases of_decide_eq_true hh with h|h
  ·exact absurd h h0
  ·exact h
 have hc:dj R D L gr n 1 e=cP R D L gr n e:=by
  unfold dj cP;rw[lU h0]
 obtain⟨p1,-⟩:=nV s n e ((ai R:Int)*cP R D L gr n e) hs.2.2;have hl:gF R D L gr n 1 e=0:=by
  unfold gF shP;rw[hc];exact p1
 have hd:fM R D L gr s n 1 e way=cH R D L gr n 1 e:=by
  unfold fM;rw[if_neg];rintro⟨c,-⟩;exact of_decide_eq_false c hl
 obtain⟨c1,c2⟩:=uh R D L gr n 1 e h1 h0 hM (dj R D L gr n 1 e);have hw:cH R D L gr n 1 e=shN n (e-(ai R:Int)*cP R D L gr n e):=by
  unfold cH shP;rw[hc,Jv]
 have hdn:(cI R D L G gr s n 1 e way).d≠0:=fun hz=>by
  have h2:(bare ⟨(cI R D L G gr s n 1 e way).s,(cI R D L G gr s n 1 e way).d,(ai R:Int)*(cI R D L G gr s n 1 e way).p⟩).n=0:=(fI _).2 hz;rw[hb] at h2;exact h0 ((fI _).1 h2)
 rw[kJ gr s n 1 e way h1 hLG h0 hM,hd,c1,c2,hc] at hdn⊢;simp only at hdn⊢;rw[if_neg hdn];rw[hw] at hdn⊢;exact⟨trivial,rfl,rfl,hdn⟩
theorem RW {R D L G:Int}{gr:Bool}{n:Nat}{e:Int}(h0:n≠0)(hh:dA R D L G gr n e=true):cP R D L gr n e=max L (aT R D (e+(bitLen n:Int)-1)):=by
 have hs:L≤cP R D L gr n e:=by
  unfold dA at hh
  rcases of_decide_eq_true hh with h|h
  ·exact absurd h h0
  ·exact h.1
 have he:(bitLen n:Int)-1+e=e+(bitLen n:Int)-1:=by omega
 unfold cP at hs⊢;rw[he] at hs⊢
 by_cases hc:(decide (aT R D (e+(bitLen n:Int)-1)<L)&&gr)=true
 ·rw[if_pos hc]
  have:=of_decide_eq_true (Bool.and_eq_true_iff.1 hc).1;rw[Int.max_eq_left (by omega)]
 ·rw[if_neg hc] at hs⊢
  rw[Int.max_eq_right hs]
def wdI (R:Int):Int:=if R=16 then 4 else 1
theorem eG (R D L G:Int)(gr:Bool)(w:World):
  yC 31 #[ygV R D L G gr] w (yR w (yi (wdI R))):=by
 have bA:=af w (.cells (ygA R D L G gr) 26);unfold wdI
 by_cases h:R=16
 ·rw[if_pos h]
  subst h
  go_enter func31,ntmps31
  go_wp2
  go_ret
  exact⟨rfl,bA⟩
 ·rw[if_neg h]
  have e:(R==16)=false:=by simp;exact h
  go_enter func31,ntmps31
  go_wp2
  go_ret
  exact⟨rfl,bA⟩
def Hf (w:World)(c:Int)(ng:Bool)(t:ak)(z:Ending)(w':World):Prop:=
 ∃s,z= .returned (yoV c ng t.s s t.e)∧Rd w' .i64 s (Dg.dg 65536 t.n)∧yB w w'∧Far w.heap.size s
def Xi (B:Nat)(w:World)(t:ak)(z:Ending)(w':World):Prop:=
 ∃s,z= .returned (ydV t.s s t.e)∧Rd w' .i64 s (Dg.dg 65536 t.n)∧yB w w'∧Hid (Far B s)
theorem di.hid {B:Nat}{w:World}{t:ak}{e:Ending}{w':World}(hb:B≤w.heap.size)(h:di w t e w'):Xi B w t e w':=by
 obtain⟨s,h1,h2,h3,h4⟩:=h;exact⟨s,h1,h2,h4,(fun a n c h=>Nat.le_trans hb (h3 a n c h):Far B s)⟩
theorem lO (B:Nat):Far B yN:=fun _ _ _ h=>by cases h
structure TG (w:World) (bn bf:Nat) (ng:Bool) (fv:List Value) (v:Value) (m:Nat) (w':World):Prop where
 q:au w' w.heap.size 37 (yoL 0 false false yN 0)
 f:au w' bf 28 fv
 n:w'.cell? ⟨bn,0,none⟩=some (.bool ng)
 b:yB w w'
 r:Rd w' .i64 v (Dg.dg 65536 m)
theorem TG.l {w w1 w2:World}{bn bf:Nat}{ng:Bool}{fv:List Value}{v:Value}{m:Nat}(h:TG w bn bf ng fv v m w1)(b:yB w1 w2):TG w bn bf ng fv v m w2:=
 ⟨h.q.l b,h.f.l b,cell_later b h.n,aa h.b b,h.r.l b⟩
theorem EE (a:ak):(bare a).n=0↔a.n=0:=by
 by_cases h:a.n=0
 ·unfold bare
  rw[if_pos h];exact⟨fun _=>h,fun _=>rfl⟩
 ·unfold bare
  rw[if_neg h];obtain⟨m,hm⟩:=fO h;have:=lI hm;exact⟨fun h2=>by simp only at h2;omega,fun h2=>absurd h2 h⟩
theorem O9 {a t:ak}(e:bare a=t)(h:t.n=0):t.s=false∧t.e=0:=by
 subst e;have h0:=(EE a).1 h;unfold bare;rw[if_pos h0];exact⟨rfl,rfl⟩
theorem sL (sz ex fr:Nat)(R D L G fam wd:Int)(gr ng:Bool)(bn bf:Nat)(m:Nat)(p:Int)(v:Value)(w:World)
  (hr:Rd w .i64 v (Dg.dg 65536 m)) (hm:m<340282366920938463463374607431768211456) (hn:w.cell? ⟨bn,0,none⟩=some (.bool ng)) (hf:au w bf 28 (yhL sz ex fr R D L G gr fam)) (hw1:1≤wd) (hw4:wd≤4) (hp1: -100000≤p) (hp2:p≤100000)
  (HWI:yJ 31 #[ygV R D L G gr] (yi wd)):
  yC 46 #[v,yi p,.pointer (some ⟨bn,0,none⟩),.pointer (some ⟨bf,0,none⟩)] w (Hf w (if m=0 then 1 else 2) ng (bare ⟨ng,m,wd*p⟩)):=by
 have HW:Hid _:=HWI;clear HWI;obtain⟨ao,ca,rfl⟩:=hr.shape;have hln:(Dg.dg 65536 m).length≤8:=Dg.dg_len_le 65536 m 8 (by omega) hm;have b0:=af w (.cells (yoA 0 false false yN 0) 37);have F0:TG w bn bf ng (yhL sz ex fr R D L G gr fam) (yS ao m ca) m (w.alloc (.cells (yoA 0 false false yN 0) 37)).drew:=(⟨ah w _ _,hf.l b0,cell_later b0 hn,b0,hr.l b0⟩:TG w bn bf ng (yhL sz ex fr R D L G gr fam) (yS ao m ca) m (w.alloc (.cells (yoA 0 false false yN 0) 37))).l (Below.refl _ _).drew;have F00:TG w bn bf ng (yhL sz ex fr R D L G gr fam) (yS ao m ca) m (w.alloc (.cells (yoA 0 false false yN 0) 37)):=⟨ah w _ _,hf.l b0,cell_later b0 hn,b0,hr.l b0⟩;have F0a:=(F00.l (af _ (.cells (ydA false yN 0) 35))).l (Below.refl _ _).drew;have d0a:=(ah (w.alloc (.cells (yoA 0 false false yN 0) 37)) (ydL false yN 0) 35).drew;rw[World.size_alloc] at d0a;have na:=F0a.n;obtain⟨xa0,xa1,xa2,xa3,xa4,xa5,xa6,xa7,xa8⟩:=F0a.f.cs9;have hp3: -400000≤wd*p:=by
  rcases(by omega:wd=1∨wd=2∨wd=3∨wd=4) with h|h|h|h<;>subst h<;>omega
 have hp4:wd*p≤400000:=by
  rcases(by omega:wd=1∨wd=2∨wd=3∨wd=4) with h|h|h|h<;>subst h<;>omega
 obtain⟨E,hE⟩: ∃E,wd*p=E:=⟨_,rfl⟩;rw[hE] at hp3 hp4⊢;have hwr:IntKind.i64.wrap (wd*p)=E:=by rw[hE];exact IntWalk.i64_in _ ⟨by omega,by omega⟩
 have HB:Hid (∀w1,yB w w1→yC 33 #[ydV ng (yS ao m ca) E] w1 (Xi w.heap.size w1 (bare ⟨ng,m,E⟩))):=fun w1 b1=>Calls.mono (lA _ ⟨ng,m,E⟩ w1 ⟨_,rfl,hr.l b1⟩ (by show(Dg.dg 65536 m).length≤100000;omega) (by show-1000000≤E;omega) (by show E≤1000000;omega)) fun _ _ h=>h.hid b1.size
 have hbz:(bare ⟨ng,m,E⟩).n=0↔m=0:=EE ⟨ng,m,E⟩;obtain⟨⟨ts,tn',te⟩,hT⟩: ∃t,bare ⟨ng,m,E⟩=t:=⟨_,rfl⟩;have hfl:tn'=0→ts=false∧te=0:=fun h=>O9 hT h
 rw[hT] at HB hbz⊢;simp only at hbz;obtain⟨cl,hcl⟩: ∃x:Int,(if m=0 then 1 else 2)=x:=⟨_,rfl⟩
 rw[hcl];have HCL:Hid (_∧_∧_):=⟨hcl,hbz,hfl⟩;clear hE hT hcl hbz hfl;have n0:=F0.n;have hbn:bn<w.heap.size:=World.block_lt_of_cell? w ⟨bn,0,none⟩ hn;have hbf:bf<w.heap.size:=hf.lt;have hn3:w.heap.size+1≠bn:=by omega
 have hn4:w.heap.size+1≠bf:=by omega
 obtain⟨x0,x1,x2,x3,x4,x5,x6,x7,x8⟩:=F0.f.cs9
 go_enter func46,ntmps46
 go_wp2_with fail
 go_region_held3 (fun wq=>wq.cell? ⟨bn,0,none⟩=some (.bool ng)∧wq.cell? ⟨bf,0,none⟩=some (yi sz)∧wq.cell? ⟨bf,1,none⟩=some (yi ex)∧wq.cell? ⟨bf,2,none⟩=some (yi fr)∧wq.cell? ⟨bf,3,none⟩=some (yi R)∧wq.cell? ⟨bf,4,none⟩=some (yi D)∧wq.cell? ⟨bf,5,none⟩=some (yi L)∧wq.cell? ⟨bf,6,none⟩=some (yi G)∧wq.cell? ⟨bf,7,none⟩=some (.bool gr)∧wq.cell? ⟨bf,8,none⟩=some (yi fam)) (go_keep) (first
  | (go_at_call 31;refine(HW.out _).mono ?_;rintro z w1 ⟨rfl,b1⟩;(first| (have F1:=F0.l b1;have d1b:=ah w1 (ydL false yN 0) 35;have F1b:=F1.l (af _ (.cells (ydA false yN 0) 35)))| (have F1:=F0a.l b1;have d1:=d0a.l b1));have n1:=F1.n;obtain⟨y0,y1,y2,y3,y4,y5,y6,y7,y8⟩:=F1.f.cs9;have hn1:=World.new_ne w1 ⟨bn,0,none⟩ n1;have hn2:=World.new_ne w1 ⟨bf,0,none⟩ y0)
  | (go_at_call 33;(first| (with_reducible (refine(HB.out _ F1.b).mono ?_))| (with_reducible (refine(HB.out _ F1b.b).mono ?_)));rintro z w2 ⟨s2,rfl,r2,b2,f2⟩;obtain⟨so,sc,hs2⟩:=r2.shape;subst hs2;(first| (have F2:=F1.l b2)| (have F2:=F1b.l b2));(first| (have d2:=d1.l b2;obtain⟨e0,e1,e2⟩:=d2.cs3;have g0:=d2.f 0;have g1:=d2.f 1;have g2:=d2.f 2)| (have d2:=d1b.l b2;obtain⟨e0,e1,e2⟩:=d2.cs3;have g0:=d2.f 0;have g1:=d2.f 1;have g2:=d2.f 2)|skip);have n2:=F2.n;obtain⟨z0,z1,z2,z3,z4,z5,z6,z7,z8⟩:=F2.f.cs9))
 ·have b3':=af w2 (.cells (ydA ts (yS so tn' sc) te) 35)
  have d3:=ah w2 (ydL ts (yS so tn' sc) te) 35;have q3:=F2.q.l b3';have n3:=cell_later b3' F2.n;have b3:=aa F2.b b3';have r3:=r2.l b3';have hnq:w2.heap.size≠w.heap.size:=Nat.ne_of_gt F2.q.lt;clear b3';generalize(w2.alloc (.cells (ydA ts (yS so tn' sc) te) 35))=w3 at*;clear F0 F00 F0a d0a F1 F2 r2 x0 xa0 y0 z0 x1 xa1 y1 z1 x2 xa2 y2 z2 x3 xa3 y3 z3 x4 xa4 y4 z4 x5 xa5 y5 z5 x6 xa6 y6 z6 x7 xa7 y7 z7 x8 xa8 y8 z8 n0 na n1 n2 d1b F1b;generalize w2.heap.size=dq at*;obtain⟨cd0,cd1,cd2⟩:=d3.cs3;obtain⟨cq0,cq1,cq2,cq3,cq4⟩:=q3.cs5;have j0:=q3.f 0;have j1:=q3.f 1;have j2:=q3.f 2;have j3:=q3.f 3;have j4:=q3.f 4
  by_cases hz:tn'=0
  ·subst hz
   obtain⟨hc1,hc2,hc3⟩:=HCL.out;have hm0:=hc2.1 rfl;obtain⟨hc4,hc5⟩:=hc3 rfl;rw[if_pos hm0] at hc1;subst hc1 hc4 hc5;have bu:=((((ag w3 w.heap.size 0 (yi 1)).trans (ag _ w.heap.size 1 (.bool ng))).trans (ag _ w.heap.size 2 (.bool false))).trans (ag _ w.heap.size 3 yN)).trans (ag _ w.heap.size 4 (yi 0));have cR:au (((((w3.setCell ⟨w.heap.size,0,none⟩ (yi 1)).setCell ⟨w.heap.size,1,none⟩ (.bool ng)).setCell ⟨w.heap.size,2,none⟩ (.bool false)).setCell ⟨w.heap.size,3,none⟩ yN).setCell ⟨w.heap.size,4,none⟩ (yi 0)) w.heap.size 37 (yoL 1 ng false yN 0):=(((((q3.set 0 (yi 1)).set 1 (.bool ng)).set 2 (.bool false)).set 3 yN).set 4 (yi 0));have bR:=bu.below b3 (Nat.le_refl _);have rR:=aN (((((w3.setCell ⟨w.heap.size,0,none⟩ (yi 1)).setCell ⟨w.heap.size,1,none⟩ (.bool ng)).setCell ⟨w.heap.size,2,none⟩ (.bool false)).setCell ⟨w.heap.size,3,none⟩ yN).setCell ⟨w.heap.size,4,none⟩ (yi 0)) .i64;have hl:=run_loadVar_mid (P:=Tryz.prog) _ w.heap.size 0 37 (yoL 1 ng false yN 0) _ cR.range underlying37 rfl (by kernel_rfl);have HH:Hid (_∧_∧_):=⟨hl,rR,bR⟩;clear hl rR bR cR bu q3 b3 r3
   go_wp2
   obtain⟨hl,rR,bR⟩:=HH.out;exact bodyPost_ret (br results46 rfl hl) rfl ⟨_,rfl,rR,bR,lO _⟩
  ·have hz0:(((Dg.dg 65536 tn').length:Int)==0)=false:=by simp[Dg.dg_nil_iff 65536 tn' (by omega)];exact hz
   obtain⟨hc1,hc2,-⟩:=HCL.out;have hm0:m≠0:=fun h=>hz (hc2.2 h)
   rw[if_neg hm0] at hc1;subst hc1;have bu:=((((ag w3 w.heap.size 0 (yi 2)).trans (ag _ w.heap.size 1 (.bool ng))).trans (ag _ w.heap.size 2 (.bool ts))).trans (ag _ w.heap.size 3 (yS so tn' sc))).trans (ag _ w.heap.size 4 (yi te));have cR:au (((((w3.setCell ⟨w.heap.size,0,none⟩ (yi 2)).setCell ⟨w.heap.size,1,none⟩ (.bool ng)).setCell ⟨w.heap.size,2,none⟩ (.bool ts)).setCell ⟨w.heap.size,3,none⟩ (yS so tn' sc)).setCell ⟨w.heap.size,4,none⟩ (yi te)) w.heap.size 37 (yoL 2 ng ts (yS so tn' sc) te):=(((((q3.set 0 (yi 2)).set 1 (.bool ng)).set 2 (.bool ts)).set 3 (yS so tn' sc)).set 4 (yi te));have bR:=bu.below b3 (Nat.le_refl _);have ov:=cq r3 (Dg.norm_dg _ _ (by omega)) q3 (fun x hx n hn=>by simp at hx;rcases hx with rfl|rfl|rfl|rfl|rfl<;>simp;all_goals omega)
   have rR:=bu.rd r3 ov;have hl:=run_loadVar_mid (P:=Tryz.prog) _ w.heap.size 0 37 (yoL 2 ng ts (yS so tn' sc) te) _ cR.range underlying37 rfl (by kernel_rfl);have HH:Hid (_∧_∧_):=⟨hl,rR,bR⟩;clear hl rR bR cR bu q3 b3 r3
   go_wp2
   obtain⟨hl,rR,bR⟩:=HH.out;exact bodyPost_ret (br results46 rfl hl) rfl ⟨_,rfl,rR,bR,f2.out⟩
 ·have hnq:w1.heap.size≠w.heap.size:=Nat.ne_of_gt F1.q.lt
  have hdb:w.heap.size≤w1.heap.size:=Nat.le_of_lt F1.q.lt;have bu3:=((ag w2 w1.heap.size 0 (.bool ts)).trans (ag _ w1.heap.size 1 (yS so tn' sc))).trans (ag _ w1.heap.size 2 (yi te));have d3:au (((w2.setCell ⟨w1.heap.size,0,none⟩ (.bool ts)).setCell ⟨w1.heap.size,1,none⟩ (yS so tn' sc)).setCell ⟨w1.heap.size,2,none⟩ (yi te)) w1.heap.size 35 (ydL ts (yS so tn' sc) te):=(((d2.set 0 (.bool ts)).set 1 (yS so tn' sc)).set 2 (yi te));have q3:=((F2.q.off hnq 0 (.bool ts)).off hnq 1 (yS so tn' sc)).off hnq 2 (yi te);have n3:=(bu3.c (a:=⟨bn,0,none⟩) (by show bn≠w1.heap.size;omega)).trans F2.n
  have b3:=bu3.below F2.b hdb;have r3:=bu3.rd r2 (cq r2 (Dg.norm_dg _ _ (by omega)) d2 (fun x hx n hn=>by simp at hx;rcases hx with rfl|rfl|rfl<;>simp;all_goals omega))
  clear bu3;generalize(((w2.setCell ⟨w1.heap.size,0,none⟩ (.bool ts)).setCell ⟨w1.heap.size,1,none⟩ (yS so tn' sc)).setCell ⟨w1.heap.size,2,none⟩ (yi te))=w3 at*;clear F0 F00 F0a d0a F1 F2 r2 x0 xa0 y0 z0 x1 xa1 y1 z1 x2 xa2 y2 z2 x3 xa3 y3 z3 x4 xa4 y4 z4 x5 xa5 y5 z5 x6 xa6 y6 z6 x7 xa7 y7 z7 x8 xa8 y8 z8 n0 na n1 n2 d2 e0 e1 e2 g0 g1 g2 d1b F1b;generalize w1.heap.size=dq at*;obtain⟨cd0,cd1,cd2⟩:=d3.cs3;obtain⟨cq0,cq1,cq2,cq3,cq4⟩:=q3.cs5;have j0:=q3.f 0;have j1:=q3.f 1;have j2:=q3.f 2;have j3:=q3.f 3;have j4:=q3.f 4
  by_cases hz:tn'=0
  ·subst hz
   obtain⟨hc1,hc2,hc3⟩:=HCL.out;have hm0:=hc2.1 rfl;obtain⟨hc4,hc5⟩:=hc3 rfl;rw[if_pos hm0] at hc1;subst hc1 hc4 hc5;have bu:=((((ag w3 w.heap.size 0 (yi 1)).trans (ag _ w.heap.size 1 (.bool ng))).trans (ag _ w.heap.size 2 (.bool false))).trans (ag _ w.heap.size 3 yN)).trans (ag _ w.heap.size 4 (yi 0));have cR:au (((((w3.setCell ⟨w.heap.size,0,none⟩ (yi 1)).setCell ⟨w.heap.size,1,none⟩ (.bool ng)).setCell ⟨w.heap.size,2,none⟩ (.bool false)).setCell ⟨w.heap.size,3,none⟩ yN).setCell ⟨w.heap.size,4,none⟩ (yi 0)) w.heap.size 37 (yoL 1 ng false yN 0):=(((((q3.set 0 (yi 1)).set 1 (.bool ng)).set 2 (.bool false)).set 3 yN).set 4 (yi 0));have bR:=bu.below b3 (Nat.le_refl _);have rR:=aN (((((w3.setCell ⟨w.heap.size,0,none⟩ (yi 1)).setCell ⟨w.heap.size,1,none⟩ (.bool ng)).setCell ⟨w.heap.size,2,none⟩ (.bool false)).setCell ⟨w.heap.size,3,none⟩ yN).setCell ⟨w.heap.size,4,none⟩ (yi 0)) .i64;have hl:=run_loadVar_mid (P:=Tryz.prog) _ w.heap.size 0 37 (yoL 1 ng false yN 0) _ cR.range underlying37 rfl (by kernel_rfl);have HH:Hid (_∧_∧_):=⟨hl,rR,bR⟩;clear hl rR bR cR bu q3 b3 r3
   go_wp2
   obtain⟨hl,rR,bR⟩:=HH.out;exact bodyPost_ret (br results46 rfl hl) rfl ⟨_,rfl,rR,bR,lO _⟩
  ·have hz0:(((Dg.dg 65536 tn').length:Int)==0)=false:=by simp[Dg.dg_nil_iff 65536 tn' (by omega)];exact hz
   obtain⟨hc1,hc2,-⟩:=HCL.out;have hm0:m≠0:=fun h=>hz (hc2.2 h)
   rw[if_neg hm0] at hc1;subst hc1;have bu:=((((ag w3 w.heap.size 0 (yi 2)).trans (ag _ w.heap.size 1 (.bool ng))).trans (ag _ w.heap.size 2 (.bool ts))).trans (ag _ w.heap.size 3 (yS so tn' sc))).trans (ag _ w.heap.size 4 (yi te));have cR:au (((((w3.setCell ⟨w.heap.size,0,none⟩ (yi 2)).setCell ⟨w.heap.size,1,none⟩ (.bool ng)).setCell ⟨w.heap.size,2,none⟩ (.bool ts)).setCell ⟨w.heap.size,3,none⟩ (yS so tn' sc)).setCell ⟨w.heap.size,4,none⟩ (yi te)) w.heap.size 37 (yoL 2 ng ts (yS so tn' sc) te):=(((((q3.set 0 (yi 2)).set 1 (.bool ng)).set 2 (.bool ts)).set 3 (yS so tn' sc)).set 4 (yi te));have bR:=bu.below b3 (Nat.le_refl _);have ov:=cq r3 (Dg.norm_dg _ _ (by omega)) q3 (fun x hx n hn=>by simp at hx;rcases hx with rfl|rfl|rfl|rfl|rfl<;>simp;all_goals omega)
   have rR:=bu.rd r3 ov;have hl:=run_loadVar_mid (P:=Tryz.prog) _ w.heap.size 0 37 (yoL 2 ng ts (yS so tn' sc) te) _ cR.range underlying37 rfl (by kernel_rfl);have HH:Hid (_∧_∧_):=⟨hl,rR,bR⟩;clear hl rR bR cR bu q3 b3 r3
   go_wp2
   obtain⟨hl,rR,bR⟩:=HH.out;exact bodyPost_ret (br results46 rfl hl) rfl ⟨_,rfl,rR,bR,f2.out⟩
 ·have hnq:(w.heap.size+1)≠w.heap.size:=Nat.succ_ne_self _
  have hdb:w.heap.size≤(w.heap.size+1):=Nat.le_succ _;have bu3:=((ag w2 (w.heap.size+1) 0 (.bool ts)).trans (ag _ (w.heap.size+1) 1 (yS so tn' sc))).trans (ag _ (w.heap.size+1) 2 (yi te));have d3:au (((w2.setCell ⟨w.heap.size+1,0,none⟩ (.bool ts)).setCell ⟨w.heap.size+1,1,none⟩ (yS so tn' sc)).setCell ⟨w.heap.size+1,2,none⟩ (yi te)) (w.heap.size+1) 35 (ydL ts (yS so tn' sc) te):=(((d2.set 0 (.bool ts)).set 1 (yS so tn' sc)).set 2 (yi te));have q3:=((F2.q.off hnq 0 (.bool ts)).off hnq 1 (yS so tn' sc)).off hnq 2 (yi te);have n3:=(bu3.c (a:=⟨bn,0,none⟩) (by show bn≠(w.heap.size+1);omega)).trans F2.n
  have b3:=bu3.below F2.b hdb;have r3:=bu3.rd r2 (cq r2 (Dg.norm_dg _ _ (by omega)) d2 (fun x hx n hn=>by simp at hx;rcases hx with rfl|rfl|rfl<;>simp;all_goals omega))
  clear bu3;generalize(((w2.setCell ⟨w.heap.size+1,0,none⟩ (.bool ts)).setCell ⟨w.heap.size+1,1,none⟩ (yS so tn' sc)).setCell ⟨w.heap.size+1,2,none⟩ (yi te))=w3 at*;clear F0 F00 F0a d0a F1 F2 r2 x0 xa0 y0 z0 x1 xa1 y1 z1 x2 xa2 y2 z2 x3 xa3 y3 z3 x4 xa4 y4 z4 x5 xa5 y5 z5 x6 xa6 y6 z6 x7 xa7 y7 z7 x8 xa8 y8 z8 n0 na n1 n2 d2 e0 e1 e2 g0 g1 g2 d1;generalize(w.heap.size+1)=dq at*;obtain⟨cd0,cd1,cd2⟩:=d3.cs3;obtain⟨cq0,cq1,cq2,cq3,cq4⟩:=q3.cs5;have j0:=q3.f 0;have j1:=q3.f 1;have j2:=q3.f 2;have j3:=q3.f 3;have j4:=q3.f 4
  by_cases hz:tn'=0
  ·subst hz
   obtain⟨hc1,hc2,hc3⟩:=HCL.out;have hm0:=hc2.1 rfl;obtain⟨hc4,hc5⟩:=hc3 rfl;rw[if_pos hm0] at hc1;subst hc1 hc4 hc5;have bu:=((((ag w3 w.heap.size 0 (yi 1)).trans (ag _ w.heap.size 1 (.bool ng))).trans (ag _ w.heap.size 2 (.bool false))).trans (ag _ w.heap.size 3 yN)).trans (ag _ w.heap.size 4 (yi 0));have cR:au (((((w3.setCell ⟨w.heap.size,0,none⟩ (yi 1)).setCell ⟨w.heap.size,1,none⟩ (.bool ng)).setCell ⟨w.heap.size,2,none⟩ (.bool false)).setCell ⟨w.heap.size,3,none⟩ yN).setCell ⟨w.heap.size,4,none⟩ (yi 0)) w.heap.size 37 (yoL 1 ng false yN 0):=(((((q3.set 0 (yi 1)).set 1 (.bool ng)).set 2 (.bool false)).set 3 yN).set 4 (yi 0));have bR:=bu.below b3 (Nat.le_refl _);have rR:=aN (((((w3.setCell ⟨w.heap.size,0,none⟩ (yi 1)).setCell ⟨w.heap.size,1,none⟩ (.bool ng)).setCell ⟨w.heap.size,2,none⟩ (.bool false)).setCell ⟨w.heap.size,3,none⟩ yN).setCell ⟨w.heap.size,4,none⟩ (yi 0)) .i64;have hl:=run_loadVar_mid (P:=Tryz.prog) _ w.heap.size 0 37 (yoL 1 ng false yN 0) _ cR.range underlying37 rfl (by kernel_rfl);have HH:Hid (_∧_∧_):=⟨hl,rR,bR⟩;clear hl rR bR cR bu q3 b3 r3
   go_wp2
   obtain⟨hl,rR,bR⟩:=HH.out;exact bodyPost_ret (br results46 rfl hl) rfl ⟨_,rfl,rR,bR,lO _⟩
  ·have hz0:(((Dg.dg 65536 tn').length:Int)==0)=false:=by simp[Dg.dg_nil_iff 65536 tn' (by omega)];exact hz
   obtain⟨hc1,hc2,-⟩:=HCL.out;have hm0:m≠0:=fun h=>hz (hc2.2 h)
   rw[if_neg hm0] at hc1;subst hc1;have bu:=((((ag w3 w.heap.size 0 (yi 2)).trans (ag _ w.heap.size 1 (.bool ng))).trans (ag _ w.heap.size 2 (.bool ts))).trans (ag _ w.heap.size 3 (yS so tn' sc))).trans (ag _ w.heap.size 4 (yi te));have cR:au (((((w3.setCell ⟨w.heap.size,0,none⟩ (yi 2)).setCell ⟨w.heap.size,1,none⟩ (.bool ng)).setCell ⟨w.heap.size,2,none⟩ (.bool ts)).setCell ⟨w.heap.size,3,none⟩ (yS so tn' sc)).setCell ⟨w.heap.size,4,none⟩ (yi te)) w.heap.size 37 (yoL 2 ng ts (yS so tn' sc) te):=(((((q3.set 0 (yi 2)).set 1 (.bool ng)).set 2 (.bool ts)).set 3 (yS so tn' sc)).set 4 (yi te));have bR:=bu.below b3 (Nat.le_refl _);have ov:=cq r3 (Dg.norm_dg _ _ (by omega)) q3 (fun x hx n hn=>by simp at hx;rcases hx with rfl|rfl|rfl|rfl|rfl<;>simp;all_goals omega)
   have rR:=bu.rd r3 ov;have hl:=run_loadVar_mid (P:=Tryz.prog) _ w.heap.size 0 37 (yoL 2 ng ts (yS so tn' sc) te) _ cR.range underlying37 rfl (by kernel_rfl);have HH:Hid (_∧_∧_):=⟨hl,rR,bR⟩;clear hl rR bR cR bu q3 b3 r3
   go_wp2
   obtain⟨hl,rR,bR⟩:=HH.out;exact bodyPost_ret (br results46 rfl hl) rfl ⟨_,rfl,rR,bR,f2.out⟩
end Go.Proofs.YtpainhklfoaniaaGreatDoor
