/-
  Texts laid together: Em1, Cr4, Df1, Ef2.
-/
import Derived.Test.YtbdokgamhinajaaGreatDoorSj26
set_option maxRecDepth 100000
set_option maxHeartbeats 6400000
namespace Go.Proofs.YtbdokgamhinajaaGreatDoor
open _root_.Go.Proofs.Tryz
open Go.RowKit
theorem aaj (a many i:Nat)(h:i<many):(bnL a many).getD i false=decide (a/2^ (many-1-i) % 2=1):=by
 simp[bnL,List.getD_eq_getElem?_getD,h]
theorem acq (ex fr e f:Nat)(ng:Bool)(i:Nat)(h:i<1+ex+fr):((ng::bnL e ex)++bnL f fr).getD i false=Eb ex fr ng e f i:=by
 unfold Eb
 by_cases h0:i=0
 ·subst h0
  rfl
 ·rw[if_neg h0]
  obtain⟨j,rfl⟩: ∃j,i=j+1:=⟨i-1,by omega⟩;rw[List.cons_append,List.getD_cons_succ]
  by_cases hx:j+1≤ex
  ·rw[if_pos hx,List.getD_eq_getElem?_getD,List.getElem?_append_left (by rw[wk];omega),←List.getD_eq_getElem?_getD,aaj _ _ _ (by omega),show ex-1-j=ex-(j+1) from by omega]
  ·rw[if_neg hx,List.getD_eq_getElem?_getD,List.getElem?_append_right (by rw[wk];omega),←List.getD_eq_getElem?_getD,wk,aaj _ _ _ (by omega),show fr-1-(j-ex)=ex+fr-(j+1) from by omega]
theorem aak {f p j:Nat}(h:2^p≤f)(hj:j<p):(f-2^p)/2^j % 2=f/2^j % 2:=by
 obtain⟨r,rfl⟩: ∃r,f=r+2^p:=⟨f-2^p,by omega⟩;obtain⟨q,rfl⟩: ∃q,p=j+1+q:=⟨p-j-1,by omega⟩;rw[Nat.add_sub_cancel,show 2^ (j+1+q)=2^j*(2*2^q) from by rw[Nat.pow_add,Nat.pow_succ,Nat.mul_assoc],Nat.add_mul_div_left _ _ (Nat.pow_pos (by omega)),Nat.add_mul_mod_self_left]
theorem Wg {k:Nat}(hk:1≤k∧k≤8)(ng:Bool)(e f:Nat)(h:2^frN k≤f):kU k ng e (f-2^frN k)=kU k ng e f:=by
 obtain⟨h1,h2,h3,h4,-,h7⟩:=fZ hk;rw[xP hk,xP hk]
 congr 1
 refine Ic _ (fun i hi=> ?_)
 unfold Eb
 by_cases h0:i=0
 ·rw[if_pos h0,if_pos h0]
 ·rw[if_neg h0,if_neg h0]
  by_cases hx:i≤exN k
  ·rw[if_pos hx,if_pos hx]
  ·rw[if_neg hx,if_neg hx,aak h (by omega)]
theorem Jv (n:Nat)(x:Int):eZ n x/dX 1 x=shN n x:=by
 unfold eZ dX shN
 by_cases h:x<0
 ·rw[if_pos h,if_pos h,if_pos h,Nat.one_mul]
 ·rw[if_neg h,if_neg h,if_neg h,Nat.div_one]
theorem oj {R D L G:Int}{gr s:Bool}{n:Nat}{e way:Int}(h1:1≤D)(hLG:L≤G)(h0:n≠0)(hh:dA R D L G gr n e=true):
  (cI R D L G gr s n 1 e way).s=s∧(cI R D L G gr s n 1 e way).d=shN n (e-(ai R:Int)*cP R D L gr n e)∧(cI R D L G gr s n 1 e way).p=cP R D L gr n e∧shN n (e-(ai R:Int)*cP R D L gr n e)≠0:=by
 have hM:(1:Nat)≠0:=by omega
 have hb:=(mC (s:=s) (way:=way) h1 hLG h0 hh).2.2;have hs:L≤cP R D L gr n e∧cP R D L gr n e≤G∧(ai R:Int)*cP R D L gr n e≤e+(tz n:Int):=by
  unfold dA at hh
  rcases of_decide_eq_true hh with h|h
  ·exact absurd h h0
  ·exact h
 have hc:dj R D L gr n 1 e=cP R D L gr n e:=by
  unfold dj cP;rw[lU h0]
 obtain⟨p1,-⟩:=nV s n e ((ai R:Int)*cP R D L gr n e) hs.2.2;have hl:gF R D L gr n 1 e=0:=by
  unfold gF shP;rw[hc];exact p1
 have hd:fM R D L gr s n 1 e way=cH R D L gr n 1 e:=by
  unfold fM;rw[if_neg];rintro⟨c,-⟩;exact of_decide_eq_false c hl
 obtain⟨c1,c2⟩:=uh R D L gr n 1 e h1 h0 hM (dj R D L gr n 1 e);have hw:cH R D L gr n 1 e=shN n (e-(ai R:Int)*cP R D L gr n e):=by
  unfold cH shP;rw[hc,Jv]
 have hdn:(cI R D L G gr s n 1 e way).d≠0:=fun hz=>by
  have h2:(bare ⟨(cI R D L G gr s n 1 e way).s,(cI R D L G gr s n 1 e way).d,(ai R:Int)*(cI R D L G gr s n 1 e way).p⟩).n=0:=(fI _).2 hz;rw[hb] at h2;exact h0 ((fI _).1 h2)
 rw[kJ gr s n 1 e way h1 hLG h0 hM,hd,c1,c2,hc] at hdn⊢;simp only at hdn⊢;rw[if_neg hdn];rw[hw] at hdn⊢;exact⟨trivial,rfl,rfl,hdn⟩
theorem RW {R D L G:Int}{gr:Bool}{n:Nat}{e:Int}(h0:n≠0)(hh:dA R D L G gr n e=true):cP R D L gr n e=max L (aT R D (e+(bitLen n:Int)-1)):=by
 have hs:L≤cP R D L gr n e:=by
  unfold dA at hh
  rcases of_decide_eq_true hh with h|h
  ·exact absurd h h0
  ·exact h.1
 have he:(bitLen n:Int)-1+e=e+(bitLen n:Int)-1:=by omega
 unfold cP at hs⊢;rw[he] at hs⊢
 by_cases hc:(decide (aT R D (e+(bitLen n:Int)-1)<L)&&gr)=true
 ·rw[if_pos hc]
  have:=of_decide_eq_true (Bool.and_eq_true_iff.1 hc).1;rw[Int.max_eq_left (by omega)]
 ·rw[if_neg hc] at hs⊢
  rw[Int.max_eq_right hs]
def wdI (R:Int):Int:=if R=16 then 4 else 1
theorem eG (R D L G:Int)(gr:Bool)(w:World):
  yC 68 #[ygV R D L G gr] w (yR w (yi (wdI R))):=by
 have bA:=af w (.cells (ygA R D L G gr) 48);unfold wdI
 by_cases h:R=16
 ·rw[if_pos h]
  subst h
  go_enter func68,ntmps68
  go_wp2
  go_ret
  exact⟨rfl,bA⟩
 ·rw[if_neg h]
  have e:(R==16)=false:=by simp;exact h
  go_enter func68,ntmps68
  go_wp2
  go_ret
  exact⟨rfl,bA⟩
def Hf (w:World)(c:Int)(ng:Bool)(t:ak)(z:Ending)(w':World):Prop:=
 ∃s,z= .returned (yoV c ng t.s s t.e)∧Rd w' .i64 s (Dg.dg 65536 t.n)∧yB w w'∧Far w.heap.size s
def Xi (B:Nat)(w:World)(t:ak)(z:Ending)(w':World):Prop:=
 ∃s,z= .returned (ydV t.s s t.e)∧Rd w' .i64 s (Dg.dg 65536 t.n)∧yB w w'∧Hid (Far B s)
theorem di.hid {B:Nat}{w:World}{t:ak}{e:Ending}{w':World}(hb:B≤w.heap.size)(h:di w t e w'):Xi B w t e w':=by
 obtain⟨s,h1,h2,h3,h4⟩:=h;exact⟨s,h1,h2,h4,(fun a n c h=>Nat.le_trans hb (h3 a n c h):Far B s)⟩
theorem lO (B:Nat):Far B (.slice none 0 0):=fun _ _ _ h=>by cases h
structure TG (w:World) (bn bf:Nat) (ng:Bool) (fv:List Value) (v:Value) (m:Nat) (w':World):Prop where
 q:au w' w.heap.size 32 (yoL 0 false false (.slice none 0 0) 0)
 f:au w' bf 50 fv
 n:w'.cell? ⟨bn,0,none⟩=some (.bool ng)
 b:yB w w'
 r:Rd w' .i64 v (Dg.dg 65536 m)
theorem TG.l {w w1 w2:World}{bn bf:Nat}{ng:Bool}{fv:List Value}{v:Value}{m:Nat}(h:TG w bn bf ng fv v m w1)(b:yB w1 w2):TG w bn bf ng fv v m w2:=
 ⟨h.q.l b,h.f.l b,cell_later b h.n,aa h.b b,h.r.l b⟩
theorem EE (a:ak):(bare a).n=0↔a.n=0:=by
 by_cases h:a.n=0
 ·unfold bare
  rw[if_pos h];exact⟨fun _=>h,fun _=>rfl⟩
 ·unfold bare
  rw[if_neg h];obtain⟨m,hm⟩:=fO h;have:=lI hm;exact⟨fun h2=>by simp only at h2;omega,fun h2=>absurd h2 h⟩
theorem O9 {a t:ak}(e:bare a=t)(h:t.n=0):t.s=false∧t.e=0:=by
 subst e;have h0:=(EE a).1 h;unfold bare;rw[if_pos h0];exact⟨rfl,rfl⟩
theorem sL (sz ex fr:Nat)(R D L G fam wd:Int)(gr ng:Bool)(bn bf:Nat)(m:Nat)(p:Int)(v:Value)(w:World)
  (hr:Rd w .i64 v (Dg.dg 65536 m)) (hm:m<340282366920938463463374607431768211456) (hn:w.cell? ⟨bn,0,none⟩=some (.bool ng)) (hf:au w bf 50 [yi (sz:Int),yi (ex:Int),yi (fr:Int),yi R,yi D,yi L,yi G,.bool gr,yi fam]) (hw1:1≤wd) (hw4:wd≤4) (hp1: -100000≤p) (hp2:p≤100000)
  (HWI:yJ 68 #[ygV R D L G gr] (yi wd)):
  yC 66 #[v,yi p,.pointer (some ⟨bn,0,none⟩),.pointer (some ⟨bf,0,none⟩)] w (Hf w (if m=0 then 1 else 2) ng (bare ⟨ng,m,wd*p⟩)):=by
 have HW:Hid _:=HWI;clear HWI;obtain⟨ao,ca,rfl⟩:=hr.shape;have hln:(Dg.dg 65536 m).length≤8:=Dg.dg_len_le 65536 m 8 (by omega) hm;have b0:=af w (.cells (yoA 0 false false (.slice none 0 0) 0) 32);have F0:TG w bn bf ng [yi (sz:Int),yi (ex:Int),yi (fr:Int),yi R,yi D,yi L,yi G,.bool gr,yi fam] (.slice ao (Dg.dg 65536 m).length ca) m (w.alloc (.cells (yoA 0 false false (.slice none 0 0) 0) 32)).drew:=(⟨ah w _ _,hf.l b0,cell_later b0 hn,b0,hr.l b0⟩:TG w bn bf ng [yi (sz:Int),yi (ex:Int),yi (fr:Int),yi R,yi D,yi L,yi G,.bool gr,yi fam] (.slice ao (Dg.dg 65536 m).length ca) m (w.alloc (.cells (yoA 0 false false (.slice none 0 0) 0) 32))).l (Below.refl _ _).drew;have F00:TG w bn bf ng [yi (sz:Int),yi (ex:Int),yi (fr:Int),yi R,yi D,yi L,yi G,.bool gr,yi fam] (.slice ao (Dg.dg 65536 m).length ca) m (w.alloc (.cells (yoA 0 false false (.slice none 0 0) 0) 32)):=⟨ah w _ _,hf.l b0,cell_later b0 hn,b0,hr.l b0⟩;have F0a:=(F00.l (af _ (.cells (ydA false (.slice none 0 0) 0) 30))).l (Below.refl _ _).drew;have d0a:=(ah (w.alloc (.cells (yoA 0 false false (.slice none 0 0) 0) 32)) (ydL false (.slice none 0 0) 0) 30).drew;rw[World.size_alloc] at d0a;have na:=F0a.n;obtain⟨xa0,xa1,xa2,xa3,xa4,xa5,xa6,xa7,xa8⟩:=F0a.f.cs9;have hp3: -400000≤wd*p:=by
  rcases(by omega:wd=1∨wd=2∨wd=3∨wd=4) with h|h|h|h<;>subst h<;>omega
 have hp4:wd*p≤400000:=by
  rcases(by omega:wd=1∨wd=2∨wd=3∨wd=4) with h|h|h|h<;>subst h<;>omega
 obtain⟨E,hE⟩: ∃E,wd*p=E:=⟨_,rfl⟩;rw[hE] at hp3 hp4⊢;have hwr:IntKind.i64.wrap (wd*p)=E:=by rw[hE];exact IntWalk.i64_in _ ⟨by omega,by omega⟩
 have HB:Hid (∀w1,yB w w1→yC 67 #[ydV ng (.slice ao (Dg.dg 65536 m).length ca) E] w1 (Xi w.heap.size w1 (bare ⟨ng,m,E⟩))):=fun w1 b1=>Calls.mono (lA _ ⟨ng,m,E⟩ w1 ⟨_,rfl,hr.l b1⟩ (by show(Dg.dg 65536 m).length≤100000;omega) (by show-1000000≤E;omega) (by show E≤1000000;omega)) fun _ _ h=>h.hid b1.size
 have hbz:(bare ⟨ng,m,E⟩).n=0↔m=0:=EE ⟨ng,m,E⟩;obtain⟨⟨ts,tn',te⟩,hT⟩: ∃t,bare ⟨ng,m,E⟩=t:=⟨_,rfl⟩;have hfl:tn'=0→ts=false∧te=0:=fun h=>O9 hT h
 rw[hT] at HB hbz⊢;simp only at hbz;obtain⟨cl,hcl⟩: ∃x:Int,(if m=0 then 1 else 2)=x:=⟨_,rfl⟩
 rw[hcl];have HCL:Hid (_∧_∧_):=⟨hcl,hbz,hfl⟩;clear hE hT hcl hbz hfl;have n0:=F0.n;have hbn:bn<w.heap.size:=World.block_lt_of_cell? w ⟨bn,0,none⟩ hn;have hbf:bf<w.heap.size:=hf.lt;have hn3:w.heap.size+1≠bn:=by omega
 have hn4:w.heap.size+1≠bf:=by omega
 obtain⟨x0,x1,x2,x3,x4,x5,x6,x7,x8⟩:=F0.f.cs9
 go_enter func66,ntmps66
 go_wp2_with fail
 go_region_held3 (fun wq=>wq.cell? ⟨bn,0,none⟩=some (.bool ng)∧wq.cell? ⟨bf,0,none⟩=some (yi (sz:Int))∧wq.cell? ⟨bf,1,none⟩=some (yi (ex:Int))∧wq.cell? ⟨bf,2,none⟩=some (yi (fr:Int))∧wq.cell? ⟨bf,3,none⟩=some (yi R)∧wq.cell? ⟨bf,4,none⟩=some (yi D)∧wq.cell? ⟨bf,5,none⟩=some (yi L)∧wq.cell? ⟨bf,6,none⟩=some (yi G)∧wq.cell? ⟨bf,7,none⟩=some (.bool gr)∧wq.cell? ⟨bf,8,none⟩=some (yi fam)) (go_keep) (first
  | (go_at_call 68;refine(HW.out _).mono ?_;rintro z w1 ⟨rfl,b1⟩;(first| (have F1:=F0.l b1;have d1b:=ah w1 (ydL false (.slice none 0 0) 0) 30;have F1b:=F1.l (af _ (.cells (ydA false (.slice none 0 0) 0) 30)))| (have F1:=F0a.l b1;have d1:=d0a.l b1));have n1:=F1.n;obtain⟨y0,y1,y2,y3,y4,y5,y6,y7,y8⟩:=F1.f.cs9;have hn1:=World.new_ne w1 ⟨bn,0,none⟩ n1;have hn2:=World.new_ne w1 ⟨bf,0,none⟩ y0)
  | (go_at_call 67;(first| (with_reducible (refine(HB.out _ F1.b).mono ?_))| (with_reducible (refine(HB.out _ F1b.b).mono ?_)));rintro z w2 ⟨s2,rfl,r2,b2,f2⟩;obtain⟨so,sc,hs2⟩:=r2.shape;subst hs2;(first| (have F2:=F1.l b2)| (have F2:=F1b.l b2));(first| (have d2:=d1.l b2;obtain⟨e0,e1,e2⟩:=d2.cs3;have g0:=d2.f 0;have g1:=d2.f 1;have g2:=d2.f 2)| (have d2:=d1b.l b2;obtain⟨e0,e1,e2⟩:=d2.cs3;have g0:=d2.f 0;have g1:=d2.f 1;have g2:=d2.f 2)|skip);have n2:=F2.n;obtain⟨z0,z1,z2,z3,z4,z5,z6,z7,z8⟩:=F2.f.cs9))
 ·have b3':=af w2 (.cells (ydA ts (.slice so (Dg.dg 65536 tn').length sc) te) 30)
  have d3:=ah w2 (ydL ts (.slice so (Dg.dg 65536 tn').length sc) te) 30;have q3:=F2.q.l b3';have n3:=cell_later b3' F2.n;have b3:=aa F2.b b3';have r3:=r2.l b3';have hnq:w2.heap.size≠w.heap.size:=Nat.ne_of_gt F2.q.lt;clear b3';generalize(w2.alloc (.cells (ydA ts (.slice so (Dg.dg 65536 tn').length sc) te) 30))=w3 at*;clear F0 F00 F0a d0a F1 F2 r2 x0 xa0 y0 z0 x1 xa1 y1 z1 x2 xa2 y2 z2 x3 xa3 y3 z3 x4 xa4 y4 z4 x5 xa5 y5 z5 x6 xa6 y6 z6 x7 xa7 y7 z7 x8 xa8 y8 z8 n0 na n1 n2 d1b F1b;generalize w2.heap.size=dq at*;obtain⟨cd0,cd1,cd2⟩:=d3.cs3;obtain⟨cq0,cq1,cq2,cq3,cq4⟩:=q3.cs5;have j0:=q3.f 0;have j1:=q3.f 1;have j2:=q3.f 2;have j3:=q3.f 3;have j4:=q3.f 4
  by_cases hz:tn'=0
  ·subst hz
   obtain⟨hc1,hc2,hc3⟩:=HCL.out;have hm0:=hc2.1 rfl;obtain⟨hc4,hc5⟩:=hc3 rfl;rw[if_pos hm0] at hc1;subst hc1 hc4 hc5;have bu:=((((ag w3 w.heap.size 0 (yi 1)).trans (ag _ w.heap.size 1 (.bool ng))).trans (ag _ w.heap.size 2 (.bool false))).trans (ag _ w.heap.size 3 (.slice none 0 0))).trans (ag _ w.heap.size 4 (yi 0));have cR:au (((((w3.setCell ⟨w.heap.size,0,none⟩ (yi 1)).setCell ⟨w.heap.size,1,none⟩ (.bool ng)).setCell ⟨w.heap.size,2,none⟩ (.bool false)).setCell ⟨w.heap.size,3,none⟩ (.slice none 0 0)).setCell ⟨w.heap.size,4,none⟩ (yi 0)) w.heap.size 32 (yoL 1 ng false (.slice none 0 0) 0):=(((((q3.set 0 (yi 1)).set 1 (.bool ng)).set 2 (.bool false)).set 3 (.slice none 0 0)).set 4 (yi 0));have bR:=bu.below b3 (Nat.le_refl _);have rR:=aN (((((w3.setCell ⟨w.heap.size,0,none⟩ (yi 1)).setCell ⟨w.heap.size,1,none⟩ (.bool ng)).setCell ⟨w.heap.size,2,none⟩ (.bool false)).setCell ⟨w.heap.size,3,none⟩ (.slice none 0 0)).setCell ⟨w.heap.size,4,none⟩ (yi 0)) .i64;have hl:=run_loadVar_mid (P:=Tryz.prog) _ w.heap.size 0 32 (yoL 1 ng false (.slice none 0 0) 0) _ cR.range underlying32 rfl (by kernel_rfl);have HH:Hid (_∧_∧_):=⟨hl,rR,bR⟩;clear hl rR bR cR bu q3 b3 r3
   go_wp2
   obtain⟨hl,rR,bR⟩:=HH.out;exact bodyPost_ret (br results66 rfl hl) rfl ⟨_,rfl,rR,bR,lO _⟩
  ·have hz0:(((Dg.dg 65536 tn').length:Int)==0)=false:=by simp[Dg.dg_nil_iff 65536 tn' (by omega)];exact hz
   obtain⟨hc1,hc2,-⟩:=HCL.out;have hm0:m≠0:=fun h=>hz (hc2.2 h)
   rw[if_neg hm0] at hc1;subst hc1;have bu:=((((ag w3 w.heap.size 0 (yi 2)).trans (ag _ w.heap.size 1 (.bool ng))).trans (ag _ w.heap.size 2 (.bool ts))).trans (ag _ w.heap.size 3 (.slice so (Dg.dg 65536 tn').length sc))).trans (ag _ w.heap.size 4 (yi te));have cR:au (((((w3.setCell ⟨w.heap.size,0,none⟩ (yi 2)).setCell ⟨w.heap.size,1,none⟩ (.bool ng)).setCell ⟨w.heap.size,2,none⟩ (.bool ts)).setCell ⟨w.heap.size,3,none⟩ (.slice so (Dg.dg 65536 tn').length sc)).setCell ⟨w.heap.size,4,none⟩ (yi te)) w.heap.size 32 (yoL 2 ng ts (.slice so (Dg.dg 65536 tn').length sc) te):=(((((q3.set 0 (yi 2)).set 1 (.bool ng)).set 2 (.bool ts)).set 3 (.slice so (Dg.dg 65536 tn').length sc)).set 4 (yi te));have bR:=bu.below b3 (Nat.le_refl _);have ov:=cq r3 (Dg.norm_dg _ _ (by omega)) q3 (fun x hx n hn=>by simp at hx;rcases hx with rfl|rfl|rfl|rfl|rfl<;>simp;all_goals omega)
   have rR:=bu.rd r3 ov;have hl:=run_loadVar_mid (P:=Tryz.prog) _ w.heap.size 0 32 (yoL 2 ng ts (.slice so (Dg.dg 65536 tn').length sc) te) _ cR.range underlying32 rfl (by kernel_rfl);have HH:Hid (_∧_∧_):=⟨hl,rR,bR⟩;clear hl rR bR cR bu q3 b3 r3
   go_wp2
   obtain⟨hl,rR,bR⟩:=HH.out;exact bodyPost_ret (br results66 rfl hl) rfl ⟨_,rfl,rR,bR,f2.out⟩
 ·have hnq:w1.heap.size≠w.heap.size:=Nat.ne_of_gt F1.q.lt
  have hdb:w.heap.size≤w1.heap.size:=Nat.le_of_lt F1.q.lt;have bu3:=((ag w2 w1.heap.size 0 (.bool ts)).trans (ag _ w1.heap.size 1 (.slice so (Dg.dg 65536 tn').length sc))).trans (ag _ w1.heap.size 2 (yi te));have d3:au (((w2.setCell ⟨w1.heap.size,0,none⟩ (.bool ts)).setCell ⟨w1.heap.size,1,none⟩ (.slice so (Dg.dg 65536 tn').length sc)).setCell ⟨w1.heap.size,2,none⟩ (yi te)) w1.heap.size 30 (ydL ts (.slice so (Dg.dg 65536 tn').length sc) te):=(((d2.set 0 (.bool ts)).set 1 (.slice so (Dg.dg 65536 tn').length sc)).set 2 (yi te));have q3:=((F2.q.off hnq 0 (.bool ts)).off hnq 1 (.slice so (Dg.dg 65536 tn').length sc)).off hnq 2 (yi te);have n3:=(bu3.c (a:=⟨bn,0,none⟩) (by show bn≠w1.heap.size;omega)).trans F2.n
  have b3:=bu3.below F2.b hdb;have r3:=bu3.rd r2 (cq r2 (Dg.norm_dg _ _ (by omega)) d2 (fun x hx n hn=>by simp at hx;rcases hx with rfl|rfl|rfl<;>simp;all_goals omega))
  clear bu3;generalize(((w2.setCell ⟨w1.heap.size,0,none⟩ (.bool ts)).setCell ⟨w1.heap.size,1,none⟩ (.slice so (Dg.dg 65536 tn').length sc)).setCell ⟨w1.heap.size,2,none⟩ (yi te))=w3 at*;clear F0 F00 F0a d0a F1 F2 r2 x0 xa0 y0 z0 x1 xa1 y1 z1 x2 xa2 y2 z2 x3 xa3 y3 z3 x4 xa4 y4 z4 x5 xa5 y5 z5 x6 xa6 y6 z6 x7 xa7 y7 z7 x8 xa8 y8 z8 n0 na n1 n2 d2 e0 e1 e2 g0 g1 g2 d1b F1b;generalize w1.heap.size=dq at*;obtain⟨cd0,cd1,cd2⟩:=d3.cs3;obtain⟨cq0,cq1,cq2,cq3,cq4⟩:=q3.cs5;have j0:=q3.f 0;have j1:=q3.f 1;have j2:=q3.f 2;have j3:=q3.f 3;have j4:=q3.f 4
  by_cases hz:tn'=0
  ·subst hz
   obtain⟨hc1,hc2,hc3⟩:=HCL.out;have hm0:=hc2.1 rfl;obtain⟨hc4,hc5⟩:=hc3 rfl;rw[if_pos hm0] at hc1;subst hc1 hc4 hc5;have bu:=((((ag w3 w.heap.size 0 (yi 1)).trans (ag _ w.heap.size 1 (.bool ng))).trans (ag _ w.heap.size 2 (.bool false))).trans (ag _ w.heap.size 3 (.slice none 0 0))).trans (ag _ w.heap.size 4 (yi 0));have cR:au (((((w3.setCell ⟨w.heap.size,0,none⟩ (yi 1)).setCell ⟨w.heap.size,1,none⟩ (.bool ng)).setCell ⟨w.heap.size,2,none⟩ (.bool false)).setCell ⟨w.heap.size,3,none⟩ (.slice none 0 0)).setCell ⟨w.heap.size,4,none⟩ (yi 0)) w.heap.size 32 (yoL 1 ng false (.slice none 0 0) 0):=(((((q3.set 0 (yi 1)).set 1 (.bool ng)).set 2 (.bool false)).set 3 (.slice none 0 0)).set 4 (yi 0));have bR:=bu.below b3 (Nat.le_refl _);have rR:=aN (((((w3.setCell ⟨w.heap.size,0,none⟩ (yi 1)).setCell ⟨w.heap.size,1,none⟩ (.bool ng)).setCell ⟨w.heap.size,2,none⟩ (.bool false)).setCell ⟨w.heap.size,3,none⟩ (.slice none 0 0)).setCell ⟨w.heap.size,4,none⟩ (yi 0)) .i64;have hl:=run_loadVar_mid (P:=Tryz.prog) _ w.heap.size 0 32 (yoL 1 ng false (.slice none 0 0) 0) _ cR.range underlying32 rfl (by kernel_rfl);have HH:Hid (_∧_∧_):=⟨hl,rR,bR⟩;clear hl rR bR cR bu q3 b3 r3
   go_wp2
   obtain⟨hl,rR,bR⟩:=HH.out;exact bodyPost_ret (br results66 rfl hl) rfl ⟨_,rfl,rR,bR,lO _⟩
  ·have hz0:(((Dg.dg 65536 tn').length:Int)==0)=false:=by simp[Dg.dg_nil_iff 65536 tn' (by omega)];exact hz
   obtain⟨hc1,hc2,-⟩:=HCL.out;have hm0:m≠0:=fun h=>hz (hc2.2 h)
   rw[if_neg hm0] at hc1;subst hc1;have bu:=((((ag w3 w.heap.size 0 (yi 2)).trans (ag _ w.heap.size 1 (.bool ng))).trans (ag _ w.heap.size 2 (.bool ts))).trans (ag _ w.heap.size 3 (.slice so (Dg.dg 65536 tn').length sc))).trans (ag _ w.heap.size 4 (yi te));have cR:au (((((w3.setCell ⟨w.heap.size,0,none⟩ (yi 2)).setCell ⟨w.heap.size,1,none⟩ (.bool ng)).setCell ⟨w.heap.size,2,none⟩ (.bool ts)).setCell ⟨w.heap.size,3,none⟩ (.slice so (Dg.dg 65536 tn').length sc)).setCell ⟨w.heap.size,4,none⟩ (yi te)) w.heap.size 32 (yoL 2 ng ts (.slice so (Dg.dg 65536 tn').length sc) te):=(((((q3.set 0 (yi 2)).set 1 (.bool ng)).set 2 (.bool ts)).set 3 (.slice so (Dg.dg 65536 tn').length sc)).set 4 (yi te));have bR:=bu.below b3 (Nat.le_refl _);have ov:=cq r3 (Dg.norm_dg _ _ (by omega)) q3 (fun x hx n hn=>by simp at hx;rcases hx with rfl|rfl|rfl|rfl|rfl<;>simp;all_goals omega)
   have rR:=bu.rd r3 ov;have hl:=run_loadVar_mid (P:=Tryz.prog) _ w.heap.size 0 32 (yoL 2 ng ts (.slice so (Dg.dg 65536 tn').length sc) te) _ cR.range underlying32 rfl (by kernel_rfl);have HH:Hid (_∧_∧_):=⟨hl,rR,bR⟩;clear hl rR bR cR bu q3 b3 r3
   go_wp2
   obtain⟨hl,rR,bR⟩:=HH.out;exact bodyPost_ret (br results66 rfl hl) rfl ⟨_,rfl,rR,bR,f2.out⟩
 ·have hnq:(w.heap.size+1)≠w.heap.size:=Nat.succ_ne_self _
  have hdb:w.heap.size≤(w.heap.size+1):=Nat.le_succ _;have bu3:=((ag w2 (w.heap.size+1) 0 (.bool ts)).trans (ag _ (w.heap.size+1) 1 (.slice so (Dg.dg 65536 tn').length sc))).trans (ag _ (w.heap.size+1) 2 (yi te));have d3:au (((w2.setCell ⟨w.heap.size+1,0,none⟩ (.bool ts)).setCell ⟨w.heap.size+1,1,none⟩ (.slice so (Dg.dg 65536 tn').length sc)).setCell ⟨w.heap.size+1,2,none⟩ (yi te)) (w.heap.size+1) 30 (ydL ts (.slice so (Dg.dg 65536 tn').length sc) te):=(((d2.set 0 (.bool ts)).set 1 (.slice so (Dg.dg 65536 tn').length sc)).set 2 (yi te));have q3:=((F2.q.off hnq 0 (.bool ts)).off hnq 1 (.slice so (Dg.dg 65536 tn').length sc)).off hnq 2 (yi te);have n3:=(bu3.c (a:=⟨bn,0,none⟩) (by show bn≠(w.heap.size+1);omega)).trans F2.n
  have b3:=bu3.below F2.b hdb;have r3:=bu3.rd r2 (cq r2 (Dg.norm_dg _ _ (by omega)) d2 (fun x hx n hn=>by simp at hx;rcases hx with rfl|rfl|rfl<;>simp;all_goals omega))
  clear bu3;generalize(((w2.setCell ⟨w.heap.size+1,0,none⟩ (.bool ts)).setCell ⟨w.heap.size+1,1,none⟩ (.slice so (Dg.dg 65536 tn').length sc)).setCell ⟨w.heap.size+1,2,none⟩ (yi te))=w3 at*;clear F0 F00 F0a d0a F1 F2 r2 x0 xa0 y0 z0 x1 xa1 y1 z1 x2 xa2 y2 z2 x3 xa3 y3 z3 x4 xa4 y4 z4 x5 xa5 y5 z5 x6 xa6 y6 z6 x7 xa7 y7 z7 x8 xa8 y8 z8 n0 na n1 n2 d2 e0 e1 e2 g0 g1 g2 d1;generalize(w.heap.size+1)=dq at*;obtain⟨cd0,cd1,cd2⟩:=d3.cs3;obtain⟨cq0,cq1,cq2,cq3,cq4⟩:=q3.cs5;have j0:=q3.f 0;have j1:=q3.f 1;have j2:=q3.f 2;have j3:=q3.f 3;have j4:=q3.f 4
  by_cases hz:tn'=0
  ·subst hz
   obtain⟨hc1,hc2,hc3⟩:=HCL.out;have hm0:=hc2.1 rfl;obtain⟨hc4,hc5⟩:=hc3 rfl;rw[if_pos hm0] at hc1;subst hc1 hc4 hc5;have bu:=((((ag w3 w.heap.size 0 (yi 1)).trans (ag _ w.heap.size 1 (.bool ng))).trans (ag _ w.heap.size 2 (.bool false))).trans (ag _ w.heap.size 3 (.slice none 0 0))).trans (ag _ w.heap.size 4 (yi 0));have cR:au (((((w3.setCell ⟨w.heap.size,0,none⟩ (yi 1)).setCell ⟨w.heap.size,1,none⟩ (.bool ng)).setCell ⟨w.heap.size,2,none⟩ (.bool false)).setCell ⟨w.heap.size,3,none⟩ (.slice none 0 0)).setCell ⟨w.heap.size,4,none⟩ (yi 0)) w.heap.size 32 (yoL 1 ng false (.slice none 0 0) 0):=(((((q3.set 0 (yi 1)).set 1 (.bool ng)).set 2 (.bool false)).set 3 (.slice none 0 0)).set 4 (yi 0));have bR:=bu.below b3 (Nat.le_refl _);have rR:=aN (((((w3.setCell ⟨w.heap.size,0,none⟩ (yi 1)).setCell ⟨w.heap.size,1,none⟩ (.bool ng)).setCell ⟨w.heap.size,2,none⟩ (.bool false)).setCell ⟨w.heap.size,3,none⟩ (.slice none 0 0)).setCell ⟨w.heap.size,4,none⟩ (yi 0)) .i64;have hl:=run_loadVar_mid (P:=Tryz.prog) _ w.heap.size 0 32 (yoL 1 ng false (.slice none 0 0) 0) _ cR.range underlying32 rfl (by kernel_rfl);have HH:Hid (_∧_∧_):=⟨hl,rR,bR⟩;clear hl rR bR cR bu q3 b3 r3
   go_wp2
   obtain⟨hl,rR,bR⟩:=HH.out;exact bodyPost_ret (br results66 rfl hl) rfl ⟨_,rfl,rR,bR,lO _⟩
  ·have hz0:(((Dg.dg 65536 tn').length:Int)==0)=false:=by simp[Dg.dg_nil_iff 65536 tn' (by omega)];exact hz
   obtain⟨hc1,hc2,-⟩:=HCL.out;have hm0:m≠0:=fun h=>hz (hc2.2 h)
   rw[if_neg hm0] at hc1;subst hc1;have bu:=((((ag w3 w.heap.size 0 (yi 2)).trans (ag _ w.heap.size 1 (.bool ng))).trans (ag _ w.heap.size 2 (.bool ts))).trans (ag _ w.heap.size 3 (.slice so (Dg.dg 65536 tn').length sc))).trans (ag _ w.heap.size 4 (yi te));have cR:au (((((w3.setCell ⟨w.heap.size,0,none⟩ (yi 2)).setCell ⟨w.heap.size,1,none⟩ (.bool ng)).setCell ⟨w.heap.size,2,none⟩ (.bool ts)).setCell ⟨w.heap.size,3,none⟩ (.slice so (Dg.dg 65536 tn').length sc)).setCell ⟨w.heap.size,4,none⟩ (yi te)) w.heap.size 32 (yoL 2 ng ts (.slice so (Dg.dg 65536 tn').length sc) te):=(((((q3.set 0 (yi 2)).set 1 (.bool ng)).set 2 (.bool ts)).set 3 (.slice so (Dg.dg 65536 tn').length sc)).set 4 (yi te));have bR:=bu.below b3 (Nat.le_refl _);have ov:=cq r3 (Dg.norm_dg _ _ (by omega)) q3 (fun x hx n hn=>by simp at hx;rcases hx with rfl|rfl|rfl|rfl|rfl<;>simp;all_goals omega)
   have rR:=bu.rd r3 ov;have hl:=run_loadVar_mid (P:=Tryz.prog) _ w.heap.size 0 32 (yoL 2 ng ts (.slice so (Dg.dg 65536 tn').length sc) te) _ cR.range underlying32 rfl (by kernel_rfl);have HH:Hid (_∧_∧_):=⟨hl,rR,bR⟩;clear hl rR bR cR bu q3 b3 r3
   go_wp2
   obtain⟨hl,rR,bR⟩:=HH.out;exact bodyPost_ret (br results66 rfl hl) rfl ⟨_,rfl,rR,bR,f2.out⟩
theorem sN (v:Value)(t:ak)(w:World)(hv:Rv w v t)(hL:(Dg.dg 65536 t.n).length≤100000)(h1: -1000000≤t.e)(h2:t.e≤1000000):
  yC 75 #[v] w (cG w (shN t.n t.e)):=by
 obtain⟨s0,rfl,hr⟩:=hv;have HU:Hid (¬t.e<0→ ∀w1,yB w w1→yC 112 #[s0,yi t.e] w1 (cG w1 (shN t.n t.e))):=fun h w1 b=>by
  unfold shN;rw[if_neg h];obtain⟨m,hm⟩: ∃m:Nat,t.e=(m:Int):=⟨t.e.toNat,by omega⟩;rw[hm,Int.toNat_natCast];have:=kD s0 _ m w1 (hr.l b) (Dg.small_dg _ _ (by omega)) (by omega) (by omega)
  rwa [Dg.vl_dg _ _ (by omega)] at this
 have HD:Hid (t.e<0→ ∀w1,yB w w1→yC 111 #[s0,yi (-t.e)] w1 (cG w1 (shN t.n t.e))):=fun h w1 b=>by
  unfold shN;rw[if_pos h];obtain⟨m,hm⟩: ∃m:Nat,-t.e=(m:Int):=⟨(-t.e).toNat,by omega⟩;rw[hm,Int.toNat_natCast];have:=Ft s0 _ m (m/16) (m % 16) (2^ (m % 16)) (2^ (16-m % 16)) w1 (hr.l b) (Dg.small_dg _ _ (by omega)) (by omega) (by omega) (by omega) (by omega) rfl rfl
  rwa [Dg.vl_dg _ _ (by omega)] at this
 obtain⟨ao,ca,rfl⟩:=hr.shape;obtain⟨ts,n,e⟩:=t;simp only at HU HD h1 h2⊢;obtain⟨R,hR⟩: ∃R,shN n e=R:=⟨_,rfl⟩;rw[hR] at HU HD⊢;obtain⟨m,hm⟩: ∃m,(Dg.dg 65536 n).length=m:=⟨_,rfl⟩;rw[hm] at HU HD⊢;have bA:=af w (.cells (ydA ts (.slice ao m ca) e) 30);clear hr hL hR hm
 by_cases h:e<0
 ·have h3: ¬0≤e:=by omega
  go_enter func75,ntmps75
  go_wp2_with fail
  refine(HD.out h _ bA).mono ?_;rintro z w1 ⟨v1,rfl,r1,b1⟩;have b01:=aa bA b1
  go_wp2
  go_ret
  exact⟨_,rfl,r1,b01⟩
 ·have h3:0≤e:=by omega
  go_enter func75,ntmps75
  go_wp2_with fail
  refine(HU.out h _ bA).mono ?_;rintro z w1 ⟨v1,rfl,r1,b1⟩;have b01:=aa bA b1
  go_wp2
  go_ret
  exact⟨_,rfl,r1,b01⟩
theorem sU (k:Nat)(hk:1≤k∧k≤8)(w:World):yC 18 #[yi (k:Int)] w (yR w (.tuple #[.agg #[yi (szN k:Int),yi (exN k:Int),yi (frN k:Int),yi (rdN k:Int),yi (dgN k:Int),yi (lsI k),yi (gsI k),.bool (decide (k≤3)),yi (fmN k:Int)],.bool true])):=by
 have h:=qU k hk w
 rcases bO hk with rfl|rfl|rfl|rfl|rfl|rfl|rfl|rfl
 all_goals exact h
theorem zr (R:Int):wdI R=(ai R:Int):=by
 unfold wdI ai
 split<;>rfl
theorem vJ (m:Nat)(hm:m≤200)(w:World):yC 65 #[yi (m:Int)] w (cG w (2^m)):=
 pf m (m/16) (m % 16) w (by omega) (Nat.mod_lt _ (by omega)) (by omega)
theorem eR {k:Nat}(hk:1≤k∧k≤8):1≤exN k∧1≤frN k∧1≤dgN k∧dgN k≤64∧ -16445≤lsI k∧lsI k≤0∧lsI k≤gsI k∧gsI k≤16320∧ai (rdN k:Int)*dgN k≤64∧ai (rdN k:Int)≤4∧1≤ai (rdN k:Int)∧bk (rdN k:Int) (dgN k:Int) (lsI k) (gsI k)=0:=by
 rcases bO hk with rfl|rfl|rfl|rfl|rfl|rfl|rfl|rfl<;>exact⟨by decide,by decide,by decide,by decide,by decide,by decide,by decide,by decide,by decide,by decide,by decide,by decide⟩
def rfK (k:Nat)(n:Nat)(e:Int):Int:=max (lsI k) (aT (rdN k:Int) (dgN k:Int) (e+(bitLen n:Int)-1))
theorem vK (v:Value)(a:Nat)(w:World)(h:Rd w .i64 v (Dg.dg 65536 a))(hl:(Dg.dg 65536 a).length≤2000000):yC 74 #[v] w (yR w (yi (bitLen a:Int))):=by
 have:=kF _ _ w h (Dg.small_dg _ _ (by omega)) (Dg.norm_dg _ _ (by omega)) (by omega);rw[Dg.vl_dg _ _ (by omega)] at this;refine this.mono ?_;rintro z w' ⟨rfl,rfl⟩;exact⟨rfl,Below.refl _ _⟩
theorem IZ {a b:Nat}(h:a≤b):(Dg.dg 65536 a).length≤(Dg.dg 65536 b).length:=by
 refine Dg.dg_len_le 65536 a _ (by omega) (Nat.lt_of_le_of_lt h ?_);have:=Dg.vl_lt 65536 (Dg.dg 65536 b) (Dg.small_dg 65536 b (by omega))
 rwa [Dg.vl_dg 65536 b (by omega)] at this
theorem Sx {d j:Nat}(h:bitLen d=j+1):2^j≤d:=by
 rcases Nat.lt_or_ge d (2^j) with c|c
 ·have:=bF d j c
  omega
 ·exact c
theorem mV (k:Nat)(hk:1≤k∧k≤8)(c:Int)(g ts:Bool)(so:Option Addr)(tn sc:Nat)(te:Int)(E F:Nat)(ng:Bool)(K:Int)(d:Nat)(w:World)(hE:E<65536)(hF:F<340282366920938463463374607431768211456)(hd:d<340282366920938463463374607431768211456)
  (HN:c=2→Rd w .i64 (.slice so (Dg.dg 65536 tn).length sc) (Dg.dg 65536 tn)∧(Dg.dg 65536 tn).length≤20000∧ -79000≤te∧te≤200000∧K=rfK k tn te∧d=shN tn (te-(ai (rdN k:Int):Int)*K)∧K-lsI k<65536)
  (HC:(c=1∧E=0∧F=0∧ng=g)∨(c=5∧E=0∧F=0∧ng=true)∨(c=3∧(k:Int)=3∧E+1=2^exN k∧F=2^63∧ng=g)∨(c=3∧(k:Int)≠3∧E+1=2^exN k∧F=0∧ng=g)∨(c=4∧(k:Int)=3∧E+1=2^exN k∧F=2^63+2^62∧ng=g)∨(c=4∧(k:Int)≠3∧E+1=2^exN k∧F=2^ (frN k-1)∧ng=g)∨(c=2∧ng=g∧(((fmN k:Int)=2∧E=(K-lsI k).toNat∧F=d)∨((fmN k:Int)≠2∧(bitLen d:Int)≠(dgN k:Int)∧E=(K-lsI k).toNat∧F=d)∨((fmN k:Int)≠2∧(bitLen d:Int)=(dgN k:Int)∧(k:Int)=3∧E=(K-lsI k).toNat+1∧F=d)∨((fmN k:Int)≠2∧(bitLen d:Int)=(dgN k:Int)∧(k:Int)≠3∧E=(K-lsI k).toNat+1∧F=d-2^ (dgN k-1))))):
  yC 37 #[yi (k:Int),yoV c g ts (.slice so (Dg.dg 65536 tn).length sc) te] w (yR w (.string (cF (kU k ng E F)))):=by
 obtain⟨s1,s2,s3,s4,-,s7⟩:=fZ hk;obtain⟨f1,f2,f3,f4,f5,f6,f7,f8,f9,f10,f11,-⟩:=eR hk;have hdl:=Dg.dg_len_le 65536 d 8 (by omega) hd;have hw0: ¬((ai (rdN k:Int):Nat):Int)=0:=by omega
 refine Rx (k:Int) (szN k) (exN k) (frN k) (8*szN k) (rdN k:Int) (dgN k:Int) (lsI k) (gsI k) (fmN k:Int) (ai (rdN k:Int):Int) (decide (k≤3)) c g ts so tn sc te E F ng (cF (kU k ng E F)) (2^63) (2^62) (2^63+2^62) (2^ (frN k-1)) (2^ (dgN k-1)) (bitLen tn:Int) K (aT (rdN k:Int) (dgN k:Int) (te+(bitLen tn:Int)-1)) ((te+(bitLen tn:Int)-1+80000).tdiv (ai (rdN k:Int):Int)) ((80000:Int).tdiv (ai (rdN k:Int):Int)) (bitLen d:Int) d (K-lsI k).toNat w
  s2 f1 s4 f2 s1 hE (by omega) (by omega) (by simpa using hw0) hw0 ?_ (fun w1=>sU k hk w1) ?_ (fun w1=>vJ 63 (by omega) w1) (fun w1=>vJ 62 (by omega) w1) ?_ ?_ ?_ ?_ ?_ (fun v w1 h=>vK v d w1 h (by omega)) ?_ (fun w1=>Bj E w1 hE) (fun v w1 h=>Do v E (exN k) w1 h (by omega) (by omega) f1) (fun v w1 h=>Do v F (frN k) w1 h hF (by omega) f2) ?_ HC
 ·intro h2
  obtain⟨hr,hl,e1,e2,hK,-,hKL⟩:=HN h2;have hbl:bitLen tn≤16*20000:=BE hl;have hsk:=Gh (rdN k:Int) (dgN k:Int) te (bitLen tn) (by omega);have q1:=Int.natAbs_tdiv_le_natAbs (te+(bitLen tn:Int)-1+80000) (ai (rdN k:Int):Int);have q2:=Int.natAbs_tdiv_le_natAbs (80000:Int) (ai (rdN k:Int):Int);have hKK:K=max (lsI k) (aT (rdN k:Int) (dgN k:Int) (te+(bitLen tn:Int)-1)):=hK;have hK1:lsI k≤K:=by rw[hKK];exact Int.le_max_left _ _
  have hwK: -100000≤(ai (rdN k:Int):Int)*K∧(ai (rdN k:Int):Int)*K≤500000:=by
   rcases(show ai (rdN k:Int)=1∨ai (rdN k:Int)=4 from by unfold ai;split<;>omega) with h|h<;>rw[h]<;>omega
  refine⟨IntWalk.i64_in _ ⟨by omega,by omega⟩,IntWalk.i64_in _ ⟨by omega,by omega⟩,IntWalk.i64_in _ ⟨by omega,by omega⟩,rfl,rfl,IntWalk.i64_in _ ⟨by omega,by omega⟩,IntWalk.i64_in _ ⟨by omega,by omega⟩,IntWalk.i64_in _ ⟨by omega,by omega⟩,IntWalk.i64_in _ ⟨by omega,by omega⟩, ?_,hKK.symm,IntWalk.i64_in _ ⟨by omega,by omega⟩,IntWalk.i64_in _ ⟨by omega,by omega⟩, ?_,by omega⟩
  ·rw[hsk]
   exact IntWalk.i64_in _ ⟨by omega,by omega⟩
  ·rw[Int.toNat_of_nonneg (by omega)]
   exact IntWalk.i64_in _ ⟨by omega,by omega⟩
 ·intro w1
  have:=eG (rdN k:Int) (dgN k:Int) (lsI k) (gsI k) (decide (k≤3)) w1
  rwa [zr] at this
 ·intro v u w1 h1 h2
  have:=ew v u _ _ w1 h1 h2 (Dg.small_dg _ _ (by omega)) (Dg.small_dg _ _ (by omega)) (Dg.norm_dg _ _ (by omega)) (Dg.norm_dg _ _ (by omega)) (Nat.le_trans (Dg.dg_len_le 65536 (2^63) 8 (by omega) (by decide)) (by omega)) (Nat.le_trans (Dg.dg_len_le 65536 (2^62) 8 (by omega) (by decide)) (by omega))
  rwa [Dg.vl_dg _ _ (by omega),Dg.vl_dg _ _ (by omega)] at this
 ·intro w1
  rw[show(frN k:Int)-1=((frN k-1:Nat):Int) from by omega]
  exact vJ (frN k-1) (by omega) w1
 ·intro w1
  rw[show(dgN k:Int)-1=((dgN k-1:Nat):Int) from by omega]
  exact vJ (dgN k-1) (by omega) w1
 ·intro h2 w1 b1
  obtain⟨hr,hl,-⟩:=HN h2;exact vK _ tn w1 (hr.l b1) (by omega)
 ·intro h2 w1 b1
  obtain⟨hr,hl,e1,e2,hK,hdd,hKL⟩:=HN h2;have hK1:lsI k≤K:=by rw[hK];exact Int.le_max_left _ _
  have hwK: -100000≤(ai (rdN k:Int):Int)*K∧(ai (rdN k:Int):Int)*K≤500000:=by
   rcases(show ai (rdN k:Int)=1∨ai (rdN k:Int)=4 from by unfold ai;split<;>omega) with h|h<;>rw[h]<;>omega
  have:=sN _ ⟨false,tn,te-(ai (rdN k:Int):Int)*K⟩ w1 ⟨_,rfl,hr.l b1⟩ (by show(Dg.dg 65536 tn).length≤100000;omega) (by show-1000000≤te-(ai (rdN k:Int):Int)*K;omega) (by show te-(ai (rdN k:Int):Int)*K≤1000000;omega)
  rw[hdd];exact this
 ·intro hlen v u w1 h1 h2
  have hle:2^ (dgN k-1)≤d:=Sx (by omega);have:=kI v u _ _ w1 h1 h2 (Dg.small_dg _ _ (by omega)) (Dg.small_dg _ _ (by omega)) (by omega) (IZ hle) (by rw[Dg.vl_dg _ _ (by omega),Dg.vl_dg _ _ (by omega)];exact hle)
  rwa [Dg.vl_dg _ _ (by omega),Dg.vl_dg _ _ (by omega)] at this
 ·intro gg cap w1 hcell
  have:=G8 k hk gg 0 cap (Eb (exN k) (frN k) ng E F) w1 (fun i hi=>by
   rw[Nat.zero_add,hcell i hi,acq _ _ _ _ _ _ (by omega)])
  rwa [←xP hk] at this
theorem Bt (k m:Nat)(hk:1≤k∧k≤8)(hm:m=1∨m=3∨m=4∨m=5)(hs:iR k m=true)(g ts:Bool)(so:Option Addr)(tn sc:Nat)(te:Int)(w:World):
  yC 37 #[yi (k:Int),yoV (m:Int) g ts (.slice so (Dg.dg 65536 tn).length sc) te] w (yR w (.string (cF (kU k (pI k m||g) (pg k m) (lS k m))))):=by
 refine mV k hk (m:Int) g ts so tn sc te (pg k m) (lS k m) (pI k m||g) 0 0 w (Fw m hk) (Nat.lt_trans (Fx m hk) (by decide)) (by decide) (fun h=>by omega) ?_
 rcases hm with rfl|rfl|rfl|rfl
 ·exact .inl ⟨rfl,if_neg (fun h=>by omega),by unfold lS;simp,rfl⟩
 ·refine .inr (.inr ?_)
  have h3:k≤3:=by simpa[iR] using hs
  rcases(show k=1∨k=2∨k=3 from by omega) with rfl|rfl|rfl
  ·exact .inr (.inl ⟨rfl,by decide,by decide,by decide,rfl⟩)
  ·exact .inr (.inl ⟨rfl,by decide,by decide,by decide,rfl⟩)
  ·exact .inl ⟨rfl,by decide,by decide,by decide,rfl⟩
 ·refine .inr (.inr (.inr (.inr ?_)))
  have h3:k≤3:=by simpa[iR] using hs
  rcases(show k=1∨k=2∨k=3 from by omega) with rfl|rfl|rfl
  ·exact .inr (.inl ⟨rfl,by decide,by decide,by decide,rfl⟩)
  ·exact .inr (.inl ⟨rfl,by decide,by decide,by decide,rfl⟩)
  ·exact .inl ⟨rfl,by decide,by decide,by decide,rfl⟩
 ·have h6:6≤k:=by simpa[iR] using hs
  refine .inr (.inl ⟨rfl,if_neg (fun h=>by omega), ?_, ?_⟩)
  ·unfold lS
   rw[if_neg (by omega)]
  ·simp[pI,h6]
theorem Ni {d j:Nat}(h:d<2^ (j+1)):d&&& 2^j≠0↔bitLen d=j+1:=by
 have hb:=bF d (j+1) h;rw[SK];have hp:0<2^j:=Nat.pow_pos (by omega)
 by_cases hc:2^j≤d
 ·have h1:bitLen d=j+1:=by
   have:=(pP d j).1;have h2: ¬bitLen d<j+1:=fun c=>this c hc
   omega
  have ht:d.testBit j=true:=by
   rw[Nat.testBit_eq_decide_div_mod_eq];have:d/2^j=1:=by
    rw[Nat.pow_succ] at h;have h3:1≤d/2^j:=(Nat.le_div_iff_mul_le hp).2 (by omega);have h4:d/2^j<2:=(Nat.div_lt_iff_lt_mul hp).2 (by omega);omega
   rw[this];rfl
  rw[if_pos ht];exact⟨fun _=>h1,fun _=>by omega⟩
 ·have h1:bitLen d<j+1:=(pP d j).2 hc
  have ht:d.testBit j=false:=by
   rw[Nat.testBit_eq_decide_div_mod_eq,Nat.div_eq_of_lt (by omega)];rfl
  rw[if_neg (by rw[ht];simp)];exact⟨fun c=>absurd rfl c,fun c=>by omega⟩
theorem Bu (k:Nat)(hk:1≤k∧k≤8)(g s ts:Bool)(so:Option Addr)(tn sc:Nat)(te:Int)(w:World)(hr:Rd w .i64 (.slice so (Dg.dg 65536 tn).length sc) (Dg.dg 65536 tn))(hl:(Dg.dg 65536 tn).length≤20000)(e1: -79000≤te)(e2:te≤200000)(h0:tn≠0)
  (hh:dA (rdN k:Int) (dgN k:Int) (lsI k) (gsI k) (decide (k≤3)) tn te=true):
  yC 37 #[yi (k:Int),yoV 2 g ts (.slice so (Dg.dg 65536 tn).length sc) te] w (yR w (.string (cF (kU k g (heE (rdN k:Int) (lsI k) (gW k) (plT k s tn te)) (plT k s tn te).d)))):=by
 obtain⟨f1,f2,f3,f4,f5,f6,f7,f8,f9,f10,f11,hgc⟩:=eR hk;obtain⟨-,hpd,hpp,hne⟩:=oj (s:=s) (way:=3) (by omega) f7 h0 hh;have hK:cP (rdN k:Int) (dgN k:Int) (lsI k) (decide (k≤3)) tn te=rfK k tn te:=RW h0 hh;obtain⟨ho,hu,-⟩:=mC (s:=s) (way:=3) (by omega) f7 h0 hh;have hsp:=(nW (by omega) f7 h0 (by omega) ho hu).resolve_left (fun c=>hne (by rw[←hpd];exact c.1))
 have hp:(plT k s tn te).p=rfK k tn te:=by rw[←hK];exact hpp
 have hdd:(plT k s tn te).d=shN tn (te-(ai (rdN k:Int):Int)*rfK k tn te):=by rw[←hK];exact hpd
 obtain⟨-,hp1,hp2,hdlt,-⟩:=hsp;change lsI k≤(plT k s tn te).p at hp1;change(plT k s tn te).p≤gsI k at hp2;change(plT k s tn te).d<_ at hdlt;rw[hp] at hp1 hp2;have hd64:(plT k s tn te).d<2^64:=Nat.lt_of_lt_of_le hdlt (Nat.pow_le_pow_right (by omega) (by rw[Int.toNat_natCast];exact f9));unfold heE;rw[hp];generalize plT k s tn te=pt at*;generalize hKK:rfK k tn te=K at*;have HN:(2:Int)=2→Rd w .i64 (.slice so (Dg.dg 65536 tn).length sc) (Dg.dg 65536 tn)∧(Dg.dg 65536 tn).length≤20000∧ -79000≤te∧te≤200000∧K=rfK k tn te∧pt.d=shN tn (te-(ai (rdN k:Int):Int)*K)∧K-lsI k<65536:=fun _=>⟨hr,hl,e1,e2,hKK.symm,hdd,by omega⟩
 have hdb:pt.d<340282366920938463463374607431768211456:=Nat.lt_trans hd64 (by decide)
 by_cases hR:(rdN k:Int)=2
 ·have hfm:(fmN k:Int)≠2:=by
   rcases bO hk with rfl|rfl|rfl|rfl|rfl|rfl|rfl|rfl<;>revert hR<;>decide
  have hw1:ai (rdN k:Int)=1:=by rw[hR];rfl
  rw[hw1,Nat.one_mul,Int.toNat_natCast] at hdlt;have hdj:dgN k-1+1=dgN k:=by omega
  have hal:=Ni (d:=pt.d) (j:=dgN k-1) (by rw[hdj];exact hdlt);rw[hdj] at hal
  by_cases hb:bitLen pt.d=dgN k
  ·rw[if_pos ⟨hR,hal.2 hb⟩]
   by_cases h3:k=3
   ·exact mV k hk 2 g ts so tn sc te _ _ g K pt.d w (by omega) hdb hdb HN (.inr (.inr (.inr (.inr (.inr (.inr ⟨rfl,rfl,.inr (.inr (.inl ⟨hfm,by omega,by omega,rfl,rfl⟩))⟩))))))
   ·have hfr:dgN k-1=frN k:=by
     rcases bO hk with rfl|rfl|rfl|rfl|rfl|rfl|rfl|rfl<;>revert hR h3<;>decide
    have hle:2^frN k≤pt.d:=by rw[←hfr];exact Sx (by omega)
    rw[←Wg hk g _ pt.d hle];exact mV k hk 2 g ts so tn sc te _ _ g K pt.d w (by omega) (Nat.lt_of_le_of_lt (Nat.sub_le _ _) hdb) hdb HN (.inr (.inr (.inr (.inr (.inr (.inr ⟨rfl,rfl,.inr (.inr (.inr ⟨hfm,by omega,by omega,rfl,by rw[hfr]⟩))⟩))))))
  ·rw[if_neg (fun c=>hb (hal.1 c.2)),Nat.add_zero]
   exact mV k hk 2 g ts so tn sc te _ _ g K pt.d w (by omega) hdb hdb HN (.inr (.inr (.inr (.inr (.inr (.inr ⟨rfl,rfl,.inr (.inl ⟨hfm,by omega,rfl,rfl⟩)⟩))))))
 ·have hfm:(fmN k:Int)=2:=by
   rcases bO hk with rfl|rfl|rfl|rfl|rfl|rfl|rfl|rfl<;>revert hR<;>decide
  rw[if_neg (fun c=>hR c.1),Nat.add_zero]
  exact mV k hk 2 g ts so tn sc te _ _ g K pt.d w (by omega) hdb hdb HN (.inr (.inr (.inr (.inr (.inr (.inr ⟨rfl,rfl,.inl ⟨hfm,rfl,rfl⟩⟩))))))
end Go.Proofs.YtbdokgamhinajaaGreatDoor
