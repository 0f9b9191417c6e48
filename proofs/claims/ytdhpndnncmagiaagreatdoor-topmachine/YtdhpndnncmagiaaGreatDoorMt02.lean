/-
  Texts laid together: Mc17, Mc18, Mc19, Ty16, Bd2, Bd3, Mc20.
-/
import Derived.Test.YtdhpndnncmagiaaGreatDoorMt01
set_option maxRecDepth 100000
set_option maxHeartbeats 3200000
namespace Go.Proofs.YtdhpndnncmagiaaGreatDoor
open _root_.Go.Proofs.Tryz
open Go.RowKit
def ShS (w:World)(PS:Nat→ByteArray)(i:Nat)(v:Value)(wr:World):Prop:=
 ∃vo vc,v= .slice vo i vc∧OwnS wr w.heap.size (.slice vo i vc) ((List.range i).map PS)
theorem ShS.own {w:World}{PS:Nat→ByteArray}{i:Nat}{vo:Option Addr}{vc:Nat}{wr:World}(h:OwnS wr w.heap.size (.slice vo i vc) ((List.range i).map PS)):wr.ownsRow w.heap.size 9 1 (.slice vo i vc) i (((List.range i).map PS).map Value.string):=by
 unfold OwnS at h
 simpa using h
def ShowR (PS:Nat→ByteArray)(PE:Nat→Int)(L:Nat)(w:World)(z:Ending)(w':World):Prop:=
 (∃j,j<L∧PE j≠0∧(∀i,i<j→PE i=0)∧z= .returned (.tuple #[yN,yi (PE j)])∧yB w w')∨
 ((∀i,i<L→PE i=0)∧ ∃vo vc,z= .returned (.tuple #[.slice vo L vc,yi 0])∧OwnS w' w.heap.size (.slice vo L vc) ((List.range L).map PS)∧yB w w')
theorem show_chk (c:Int)(F W fl tr k:Int)(so:Option Addr)(L sc:Nat)(w:World)(hc: ¬c=0)
  (HC:yH w 7 #[.agg #[yi F,yi W,yi fl,yi tr,.slice so L sc]] (yi c)):
  yC 9 #[.agg #[yi F,yi W,yi fl,yi tr,.slice so L sc],yi k] w (yR w (.tuple #[yN,yi c])):=by
 replace HC:Hid _:=HC;obtain⟨W3,hW4,q1,b2⟩:=cA w [yi F,yi W,yi fl,yi tr,.slice so L sc] 24;replace hW4:Hid _:=hW4
 go_enter func9,ntmps9
 go_upto_region 1 with fail
 rw[hW4.out];clear hW4;obtain⟨c5,c6,c7,c8,c9⟩:=q1.cs5
 go_wp2_with fail
 refine(HC.out _ b2).mono ?_;rintro zz w10 ⟨rfl,bb11⟩;have b12:=aa b2 bb11;clear q1 b2 bb11 HC c5 c6 c7 c8 c9
 go_wp2
 go_ret2
 exact⟨by first|rfl|simp,b12⟩
theorem show_low (F W fl tr k:Int)(so:Option Addr)(L sc:Nat)(w:World)(hk:k<1)
  (HC:yH w 7 #[.agg #[yi F,yi W,yi fl,yi tr,.slice so L sc]] (yi 0)):
  yC 9 #[.agg #[yi F,yi W,yi fl,yi tr,.slice so L sc],yi k] w (yR w (.tuple #[yN,yi 3])):=by
 replace HC:Hid _:=HC;obtain⟨W3,hW4,q1,b2⟩:=cA w [yi F,yi W,yi fl,yi tr,.slice so L sc] 24;replace hW4:Hid _:=hW4
 go_enter func9,ntmps9
 go_upto_region 1 with fail
 rw[hW4.out];clear hW4;obtain⟨c5,c6,c7,c8,c9⟩:=q1.cs5
 go_wp2_with fail
 refine(HC.out _ b2).mono ?_;rintro zz w10 ⟨rfl,bb11⟩;have b12:=aa b2 bb11;clear q1 b2 bb11 HC c5 c6 c7 c8 c9
 go_wp2
 go_ret2
 exact⟨by first|rfl|simp,b12⟩
theorem show_high (F W fl tr k:Int)(so:Option Addr)(L sc:Nat)(w:World)(hk: ¬k<1)(hk2:60<k)
  (HC:yH w 7 #[.agg #[yi F,yi W,yi fl,yi tr,.slice so L sc]] (yi 0)):
  yC 9 #[.agg #[yi F,yi W,yi fl,yi tr,.slice so L sc],yi k] w (yR w (.tuple #[yN,yi 3])):=by
 replace HC:Hid _:=HC;obtain⟨W3,hW4,q1,b2⟩:=cA w [yi F,yi W,yi fl,yi tr,.slice so L sc] 24;replace hW4:Hid _:=hW4
 go_enter func9,ntmps9
 go_upto_region 1 with fail
 rw[hW4.out];clear hW4;obtain⟨c5,c6,c7,c8,c9⟩:=q1.cs5
 go_wp2_with fail
 refine(HC.out _ b2).mono ?_;rintro zz w10 ⟨rfl,bb11⟩;have b12:=aa b2 bb11;clear q1 b2 bb11 HC c5 c6 c7 c8 c9
 go_wp2
 go_ret2
 exact⟨by first|rfl|simp,b12⟩
theorem grown_own {w w3:World}{base:Nat}{v:Value}{xs:List Value}{n:Nat}{tx:ByteArray}{P:Prop}(_:P)(own:w.ownsRow base 9 1 v n xs)(hg:(w.alloc (.cells #[.string tx] 9)).grownBy w3 v.ownBlock){b:Nat}{ty:TypeId}{vs:List Value}(hl:au (w.alloc (.cells #[.string tx] 9)) b ty vs)(hty:ty≠9):au w3 b ty vs:=by
 have hne:some b≠v.ownBlock:=by
  rcases own.2 with⟨h,_⟩| ⟨g,cap,cur,hv,_,hh,_⟩
  ·rw[h]
   simp[Value.ownBlock]
  ·rw[hv]
   show some b≠some g
   intro e
   cases e
   have hlt:b<w.heap.size:=by
    rw[Array.getElem?_eq_some_iff] at hh;exact hh.1
   have h2:=heap_alloc_old w (.cells #[.string tx] 9) hlt;unfold au at hl;rw[h2,hh] at hl;simp only[Option.some.injEq,Obj.cells.injEq] at hl;exact hty hl.2.1.symm
 exact(hg.block b hl.lt hne).trans hl
theorem show_all (PS:Nat→ByteArray)(PE:Nat→Int)(l:List ByteArray)(F W fl tr k:Int)(so:Option Addr)(L sc:Nat)(w:World)(hr:RdS w (.slice so L sc) l)(hL:l.length=L)(hm:L≤4096)(hk: ¬k<1)(hk2: ¬60<k)
  (HC:yH w 7 #[.agg #[yi F,yi W,yi fl,yi tr,.slice so L sc]] (yi 0))
  (HP: ∀i,i<l.length→yH w 10 #[yi F,.string (l.getD i ⟨#[]⟩),yi k] (.tuple #[.string (PS i),yi (PE i)])):
  yC 9 #[.agg #[yi F,yi W,yi fl,yi tr,.slice so L sc],yi k] w (ShowR PS PE L w):=by
 replace HC:Hid _:=HC;replace HP:Hid _:=HP;replace hL:Hid _:=hL;replace hm:Hid _:=hm;have HR:Hid (RdS w (.slice so L sc) l):=hr;clear hr;obtain⟨W3,hW4,q1,b2⟩:=cA w [yi F,yi W,yi fl,yi tr,.slice so L sc] 24;replace hW4:Hid _:=hW4
 go_enter func9,ntmps9
 go_upto_region 1 with fail
 rw[hW4.out];clear hW4;obtain⟨c5,c6,c7,c8,c9⟩:=q1.cs5
 go_wp2_with fail
 refine(HC.out _ b2).mono ?_;rintro zz w10 ⟨rfl,bb11⟩;have q12:=q1.l bb11;have b13:=aa b2 bb11;clear q1 b2 bb11 HC c5 c6 c7 c8 c9;have c14:=q12.c 4 rfl
 go_wp2
 clear c14
 go_loopw [26,7] (fun iv lv wr=> ∃i:Nat,i≤L∧iv=yi (i:Int)∧ShS w PS i lv wr∧yB w wr∧au wr w.heap.size 24 [yi F,yi W,yi fl,yi tr,.slice so L sc]∧Hid (∀j,j<i→PE j=0)) (fun iv _ _=>L-(intOf iv).toNat)
 case atStart=>exact⟨0,Nat.zero_le _,rfl,⟨none,0,rfl,⟨by simp,.inl ⟨rfl,rfl⟩⟩⟩,b13,q12,fun j hj=>absurd hj (by omega)⟩
 case round=>
  clear b13 q12;obtain⟨i,hi,rfl,⟨vo,vc,rfl,own⟩,bz,qs,HN⟩:=hrel
  by_cases hlt:i<L
  ·have hil:i<l.length:=by have:=hL.out;omega
   obtain⟨b,off,hso,hcl⟩: ∃b off,so=some ⟨b,off,none⟩∧wr.cell? ⟨b,off+i,none⟩=some (.string (l.getD i ⟨#[]⟩)):=by
    obtain⟨ao,cap,hv,-,-,h3⟩:=HR.out.l bz;obtain⟨b,off,rfl,hc⟩:=h3 (by omega);simp only[Value.slice.injEq] at hv;exact⟨b,off,hv.1,hc i hil⟩
   subst hso;obtain⟨s,hs⟩: ∃s,l.getD i ⟨#[]⟩=s:=⟨_,rfl⟩;have HP1:=HP.out i hil;rw[hs] at hcl HP1;obtain⟨tx,htx⟩: ∃x,PS i=x:=⟨_,rfl⟩;obtain⟨e,he⟩: ∃x,PE i=x:=⟨_,rfl⟩;rw[htx,he] at HP1;replace HP1:Hid _:=HP1;replace htx:Hid _:=htx;replace he:Hid _:=he;have hw2:IntKind.i64.wrap ((i:Int)+1)=(i:Int)+1:=IntWalk.i64_in _ ⟨by omega,by have:=hm.out;omega⟩;have c0:=qs.c 0 rfl;clear hil hs
   go_wp2_with fail
   refine(HP1.out _ bz).mono ?_;rintro z w1 ⟨rfl,b1⟩;have qs1:=qs.l b1;have own1:=own.l b1;have bz1:=aa bz b1;clear qs own bz b1 hcl c0 HP1
   by_cases hE:e=0
   ·subst hE
    obtain⟨i0,hin,hz0,hz1,hz2⟩:=info_parts Tryz.infoS;have b2:yB w (w1.alloc (.cells #[.string tx] 9)):=aa bz1 (af _ _);have qs2:=qs1.l (af w1 (.cells #[.string tx] 9));have HS:Hid (w.heap.size≤w1.heap.size∧i<4096+1):=⟨bz1.size,by have:=hm.out;omega⟩;have own2:=ShS.own own1;have bzH:Hid _:=bz1;clear bz1 own1 qs1
    go_wp2_with (at_builtin;refine wpList_append_own _ rfl _ _ 22 rfl w.heap.size 9 i0 (.string ⟨#[]⟩) 1 16 underlying22 hin hz0 hz1 hz2 rfl (by decide) _ _ _ rfl (World.ownsRow.alloc own2 _) ⟨w1.heap.size,0,none⟩ 1 1 [.string tx] rfl rfl ?c1 ?c2 ?c3 ?c4 ?c5 ?_)
    case c1=>exact cell_one_new _ _ _
    case c2=>intro u hu;simp at hu;subst hu;rfl
    case c3=>have:=HS.out.2;unfold maxLen;omega
    case c4=>have:=HS.out.2;omega
    case c5=>exact Nat.le_trans HS.out.1 (af w1 (.cells #[.string tx] 9)).size
    intro v' w3 hown' hgrow _;have own3:OwnS w3 w.heap.size v' ((List.range (i+1)).map PS):=by
     unfold OwnS;rw[List.range_succ,List.map_append,List.map_append,List.length_append]
     simpa[htx.out] using hown'
    have b3:yB w w3:=b2.grown hgrow (Nat.le_trans HS.out.1 (af w1 (.cells #[.string tx] 9)).size) (fun k hk=>(World.ownsRow.lt own2 k hk).1)
    have qs3:=grown_own hown'.1 own2 hgrow qs2 (by decide);obtain⟨vo2,vc2,hv⟩:=own3.rd.shape;rw[show((List.range (i+1)).map PS).length=i+1 by simp] at hv
    subst hv;clear hown' hgrow own2 b2 qs2
    go_wp2
    go_roundw
    case rel=>exact⟨i+1,by omega,by go_num,⟨_,_,rfl,own3⟩,b3,qs3,fun j hj=>by rcases(by omega:j<i∨j=i) with h|h;exact HN.out j h;subst h;exact he.out⟩
    case measure=>simp[intOf];omega
   ·have HE:Hid (ShowR PS PE L w (.returned (.tuple #[yN,yi e])) w1):= .inl ⟨i,hlt,by rw[he.out];exact hE,HN.out,by rw[he.out],bz1⟩
    have hE2:(e==0)=false:=beq_eq_false_iff_ne.2 hE;clear bz1 own1 qs1 HN
    go_wp2
    go_ret2
    exact HE.out
  ·obtain rfl:i=L:=by omega
   have HE:Hid (ShowR PS PE i w (.returned (.tuple #[.slice vo i vc,yi 0])) wr):= .inr ⟨HN.out,_,_,rfl,own,bz⟩;clear own bz qs
   go_wp2
   go_ret2
   exact HE.out
theorem mshows_chk (c:Int)(F W fl tr k:Int)(so:Option Addr)(L sc:Nat)(w:World)(hc: ¬c=0)
  (HB:yH w 6 #[] (.bool true))
  (HK:yH w 8 #[.agg #[yi F,yi W,yi fl,yi tr,.slice so L sc]] (yi c))
  (HS:yH w 9 #[.agg #[yi F,yi W,yi fl,yi tr,.slice so L sc],yi k] (.tuple #[yN,yi c])):
  yC 4 #[.agg #[yi F,yi W,yi fl,yi tr,.slice so L sc],yi k] w (yR w (.bool true)):=by
 replace HB:Hid _:=HB;replace HK:Hid _:=HK;replace HS:Hid _:=HS;obtain⟨W3,hW4,q1,b2⟩:=cA w [yi F,yi W,yi fl,yi tr,.slice so L sc] 24;replace hW4:Hid _:=hW4
 go_enter func4,ntmps4
 go_upto_region 1 with fail
 rw[hW4.out];clear hW4;obtain⟨c5,c6,c7,c8,c9⟩:=q1.cs5
 go_wp2_with fail
 refine(HS.out _ b2).mono ?_;rintro zz w10 ⟨rfl,bb11⟩;have q12:=q1.l bb11;have b13:=aa b2 bb11;clear q1 b2 bb11 HS c5 c6 c7 c8 c9;obtain⟨c14,c15,c16,c17,c18⟩:=q12.cs5
 go_wp2_with fail
 refine(HK.out _ b13).mono ?_;rintro zz w19 ⟨rfl,bb20⟩;have b21:=aa b13 bb20;clear q12 b13 bb20 HK c14 c15 c16 c17 c18
 go_wp2_with fail
 refine(HB.out _ b21).mono ?_;rintro zz w22 ⟨rfl,bb23⟩;have b24:=aa b21 bb23;clear b21 bb23
 go_wp2_with fail
 refine(HB.out _ b24).mono ?_;rintro zz w25 ⟨rfl,bb26⟩;have b27:=aa b24 bb26;clear b24 bb26 HB
 go_wp2
 go_ret
 exact⟨by first|rfl|simp,b27⟩
theorem mshows_low (F W fl tr k:Int)(so:Option Addr)(L sc:Nat)(w:World)(hk:k<1)
  (HB:yH w 6 #[] (.bool true))
  (HK:yH w 8 #[.agg #[yi F,yi W,yi fl,yi tr,.slice so L sc]] (yi 0))
  (HS:yH w 9 #[.agg #[yi F,yi W,yi fl,yi tr,.slice so L sc],yi k] (.tuple #[yN,yi 3])):
  yC 4 #[.agg #[yi F,yi W,yi fl,yi tr,.slice so L sc],yi k] w (yR w (.bool true)):=by
 replace HB:Hid _:=HB;replace HK:Hid _:=HK;replace HS:Hid _:=HS;obtain⟨W3,hW4,q1,b2⟩:=cA w [yi F,yi W,yi fl,yi tr,.slice so L sc] 24;replace hW4:Hid _:=hW4
 go_enter func4,ntmps4
 go_upto_region 1 with fail
 rw[hW4.out];clear hW4;obtain⟨c5,c6,c7,c8,c9⟩:=q1.cs5
 go_wp2_with fail
 refine(HS.out _ b2).mono ?_;rintro zz w10 ⟨rfl,bb11⟩;have q12:=q1.l bb11;have b13:=aa b2 bb11;clear q1 b2 bb11 HS c5 c6 c7 c8 c9;obtain⟨c14,c15,c16,c17,c18⟩:=q12.cs5
 go_wp2_with fail
 refine(HK.out _ b13).mono ?_;rintro zz w19 ⟨rfl,bb20⟩;have b21:=aa b13 bb20;clear q12 b13 bb20 HK c14 c15 c16 c17 c18
 go_wp2_with fail
 refine(HB.out _ b21).mono ?_;rintro zz w22 ⟨rfl,bb23⟩;have b24:=aa b21 bb23;clear b21 bb23
 go_wp2_with fail
 refine(HB.out _ b24).mono ?_;rintro zz w25 ⟨rfl,bb26⟩;have b27:=aa b24 bb26;clear b24 bb26 HB
 go_wp2
 go_ret
 exact⟨by first|rfl|simp,b27⟩
theorem mshows_high (F W fl tr k:Int)(so:Option Addr)(L sc:Nat)(w:World)(hk: ¬k<1)(hk2:60<k)
  (HB:yH w 6 #[] (.bool true))
  (HK:yH w 8 #[.agg #[yi F,yi W,yi fl,yi tr,.slice so L sc]] (yi 0))
  (HS:yH w 9 #[.agg #[yi F,yi W,yi fl,yi tr,.slice so L sc],yi k] (.tuple #[yN,yi 3])):
  yC 4 #[.agg #[yi F,yi W,yi fl,yi tr,.slice so L sc],yi k] w (yR w (.bool true)):=by
 replace HB:Hid _:=HB;replace HK:Hid _:=HK;replace HS:Hid _:=HS;obtain⟨W3,hW4,q1,b2⟩:=cA w [yi F,yi W,yi fl,yi tr,.slice so L sc] 24;replace hW4:Hid _:=hW4
 go_enter func4,ntmps4
 go_upto_region 1 with fail
 rw[hW4.out];clear hW4;obtain⟨c5,c6,c7,c8,c9⟩:=q1.cs5
 go_wp2_with fail
 refine(HS.out _ b2).mono ?_;rintro zz w10 ⟨rfl,bb11⟩;have q12:=q1.l bb11;have b13:=aa b2 bb11;clear q1 b2 bb11 HS c5 c6 c7 c8 c9;obtain⟨c14,c15,c16,c17,c18⟩:=q12.cs5
 go_wp2_with fail
 refine(HK.out _ b13).mono ?_;rintro zz w19 ⟨rfl,bb20⟩;have b21:=aa b13 bb20;clear q12 b13 bb20 HK c14 c15 c16 c17 c18
 go_wp2_with fail
 refine(HB.out _ b21).mono ?_;rintro zz w22 ⟨rfl,bb23⟩;have b24:=aa b21 bb23;clear b21 bb23
 go_wp2_with fail
 refine(HB.out _ b24).mono ?_;rintro zz w25 ⟨rfl,bb26⟩;have b27:=aa b24 bb26;clear b24 bb26 HB
 go_wp2
 go_ret
 exact⟨by first|rfl|simp,b27⟩
def ShowA (PS:Nat→ByteArray)(L:Nat)(w:World)(z:Ending)(w':World):Prop:=
 ∃vo vc,z= .returned (.tuple #[.slice vo L vc,yi 0])∧RdS w' (.slice vo L vc) ((List.range L).map PS)∧yB w w'
theorem mshows_all (PS:Nat→ByteArray)(l:List ByteArray)(F W fl tr k:Int)(so:Option Addr)(L sc:Nat)(w:World)(hr:RdS w (.slice so L sc) l)(hL:l.length=L)(hk: ¬k<1)(hk2: ¬60<k)
  (HB:yH w 6 #[] (.bool true))
  (HK:yH w 8 #[.agg #[yi F,yi W,yi fl,yi tr,.slice so L sc]] (yi 0))
  (HS: ∀w1,yB w w1→yC 9 #[.agg #[yi F,yi W,yi fl,yi tr,.slice so L sc],yi k] w1 (ShowA PS L w1))
  (HP: ∀i,i<l.length→yH w 10 #[yi F,.string (l.getD i ⟨#[]⟩),yi k] (.tuple #[.string (PS i),yi 0])):
  yC 4 #[.agg #[yi F,yi W,yi fl,yi tr,.slice so L sc],yi k] w (yR w (.bool true)):=by
 replace HB:Hid _:=HB;replace HK:Hid _:=HK;replace HS:Hid _:=HS;replace HP:Hid _:=HP;replace hL:Hid _:=hL;have HR:Hid (RdS w (.slice so L sc) l):=hr;clear hr;obtain⟨W3,hW4,q1,b2⟩:=cA w [yi F,yi W,yi fl,yi tr,.slice so L sc] 24;replace hW4:Hid _:=hW4
 go_enter func4,ntmps4
 go_upto_region 1 with fail
 rw[hW4.out];clear hW4;obtain⟨c5,c6,c7,c8,c9⟩:=q1.cs5
 go_wp2_with fail
 refine(HS.out _ b2).mono ?_;rintro zz w10 ⟨vo,vc,rfl,r1x12,bb11⟩;have q13:=q1.l bb11;have b14:=aa b2 bb11;clear q1 b2 bb11 HS c5 c6 c7 c8 c9;obtain⟨c15,c16,c17,c18,c19⟩:=q13.cs5
 go_wp2_with fail
 refine(HK.out _ b14).mono ?_;rintro zz w20 ⟨rfl,bb21⟩;have q22:=q13.l bb21;have r23:=r1x12.l bb21;have b24:=aa b14 bb21;clear q13 r1x12 b14 bb21 HK c15 c16 c17 c18 c19
 go_wp2_with fail
 refine(HB.out _ b24).mono ?_;rintro zz w25 ⟨rfl,bb26⟩;have q27:=q22.l bb26;have r28:=r23.l bb26;have b29:=aa b24 bb26;clear q22 r23 b24 bb26 HB;have c30:=q27.c 4 rfl;have HV:Hid (RdS w25 (.slice vo L vc) ((List.range L).map PS)):=r28;have b00:yB w25 w25:=Below.refl _ _
 go_wp2
 clear c30
 go_loopw [8] (fun iv wr=> ∃i:Nat,i≤L∧iv=yi (i:Int)∧yB w wr∧au wr w.heap.size 24 [yi F,yi W,yi fl,yi tr,.slice so L sc]∧RdS wr (.slice vo L vc) ((List.range L).map PS)) (fun iv _=>L-(intOf iv).toNat)
 case atStart=>exact⟨0,Nat.zero_le _,rfl,b29,q27,HV.out⟩
 case round=>
  clear b29 q27 b00 HV r28;obtain⟨i,hi,rfl,bz,qs,rv⟩:=hrel
  by_cases hlt:i<L
  ·have hil:i<l.length:=by have:=hL.out;omega
   obtain⟨b1,o1,hso,hcl⟩: ∃b off,so=some ⟨b,off,none⟩∧wr.cell? ⟨b,off+i,none⟩=some (.string (l.getD i ⟨#[]⟩)):=by
    obtain⟨ao,cap,hv,-,-,h3⟩:=HR.out.l bz;obtain⟨b,off,rfl,hc⟩:=h3 (by omega);simp only[Value.slice.injEq] at hv;exact⟨b,off,hv.1,hc i hil⟩
   obtain⟨b2,o2,hvo,hc2⟩: ∃b off,vo=some ⟨b,off,none⟩∧wr.cell? ⟨b,off+i,none⟩=some (.string (PS i)):=by
    obtain⟨ao,cap,hv,-,-,h3⟩:=id rv;obtain⟨b,off,rfl,hc⟩:=h3 (by simp;omega);simp only[Value.slice.injEq] at hv;have:=hc i (by simpa using hlt);rw[show((List.range L).map PS).getD i ⟨#[]⟩=PS i by simp[List.getD_eq_getElem?_getD,hlt]] at this
    exact⟨b,off,hv.1,this⟩
   subst hso hvo;obtain⟨s,hs⟩: ∃s,l.getD i ⟨#[]⟩=s:=⟨_,rfl⟩;have HP1:=HP.out i hil;rw[hs] at hcl HP1;obtain⟨tx,htx⟩: ∃x,PS i=x:=⟨_,rfl⟩;rw[htx] at HP1 hc2;replace HP1:Hid _:=HP1;replace htx:Hid _:=htx;have hw2:IntKind.i64.wrap ((i:Int)+1)=(i:Int)+1:=IntWalk.i64_in _ ⟨by omega,by have:=HR.out;obtain⟨_,cap,_,h1,h2,_⟩:=this;unfold maxLen at h2;omega⟩;clear hil hs
   go_upto_region 12 with fail
   have bW:yB wr wr.drew:=(Below.refl _ _).drew;have q2:=qs.l bW;have r2:=rv.l bW;have x2:=cell_later bW hcl;have y2:=cell_later bW hc2;have bz2:=aa bz bW;clear qs rv hcl hc2 bz bW;refine wp_region_held_drew (S:=fun wq=>au wq w.heap.size 24 [yi F,yi W,yi fl,yi tr,.slice (some ⟨b1,o1,none⟩) L sc]∧wq.cell? ⟨b1,o1+i,none⟩=some (.string s)) (by kernel_rfl) ⟨q2,x2⟩ (fun hS0=> ?_)
   generalize wr.drew=WD at q2 r2 x2 y2 bz2 hS0⊢;refine tq 0 (.pointer (some ⟨w.heap.size,0,none⟩)) rfl (fun _ _=>by kernel_rfl) hS0 ?_
   refine tq 1 (yi F) rfl (fun _ hw0=>gU 3 (.tmp 64) rfl w.heap.size 0 (by kernel_rfl) _ _ underlying3 rfl (hw0.1.c 0 rfl)) hS0 ?_
   refine tq 2 (.pointer (some ⟨w.heap.size,4,none⟩)) rfl (fun _ _=>by kernel_rfl) hS0 ?_
   refine tq 3 (.slice (some ⟨b1,o1,none⟩) L sc) rfl (fun _ hw0=>gU 22 (.tmp 66) rfl w.heap.size 4 (by kernel_rfl) _ _ underlying22 rfl (hw0.1.c 4 rfl)) hS0 ?_
   refine tq 4 (yi (i:Int)) rfl (fun _ _=>by kernel_rfl) hS0 ?_
   refine tq 5 (.pointer (some ⟨b1,o1+i,none⟩)) rfl (fun _ _=>by go_simp) hS0 ?_
   refine tq 6 (.string s) rfl (fun _ hw0=>gU 9 (.tmp 69) rfl b1 (o1+i) (by kernel_rfl) _ _ underlying9 rfl hw0.2) hS0 ?_
   refine tq 7 (yi k) rfl (fun _ _=>by kernel_rfl) hS0 ?_
   simp only[Act.put,List.getElem_toArray,List.getElem_cons_succ,List.getElem_cons_zero,List.setIfInBounds_toArray,List.set_cons_zero,List.set_cons_succ];refine wpAnyH_ready (rs:=[8]) (by kernel_rfl) (by simp) ?_;refine AllReadyH.cons rfl ?_ AllReadyH.nil;intro K hK
   go_simp
   refine(HP1.out _ bz2).mono ?_;rintro zz w9 ⟨rfl,bb9⟩;have q3:=q2.l bb9;have r3:=r2.l bb9;have y3:=cell_later bb9 y2;have bz3:=aa bz2 bb9;refine hK.out _ _ ⟨q3,cell_later bb9 x2⟩ (fun hS1=> ?_)
   clear hK K hS0 q2 r2 x2 y2 bz2 bb9 HP1;refine tq 9 (.tuple #[.string tx,yi 0]) rfl (fun _ _=>by kernel_rfl) hS1 ?_
   refine tq 10 (.string tx) rfl (fun _ _=>by kernel_rfl) hS1 ?_
   refine tq 11 (yi 0) rfl (fun _ _=>by kernel_rfl) hS1 ?_
   refine tq 12 (.string tx) rfl (fun _ _=>by kernel_rfl) hS1 ?_
   refine tq 13 (yi 0) rfl (fun _ _=>by kernel_rfl) hS1 ?_
   refine wpAnyH_done (by kernel_rfl) ?_ _;clear hS1;simp only[Act.put,List.getElem_toArray,List.getElem_cons_succ,List.getElem_cons_zero,List.setIfInBounds_toArray,List.set_cons_zero,List.set_cons_succ]
   go_wp2
   go_roundw
   case rel=>exact⟨i+1,by omega,by go_num,bz3,q3,r3⟩
   case measure=>simp[intOf];omega
  ·obtain rfl:i=L:=by omega
   have HE:Hid (yB w wr):=bz;clear bz qs rv
   go_wp2
   go_ret
   exact⟨by first|rfl|simp,HE.out⟩
theorem chkM_ok {F W fl tr:Int}{l:List ByteArray}(h:chkM F W fl tr l=0):dK F≠0∧iC W=true∧badF fl=false∧badF tr=false∧l.length≤16∧ ∀s∈l,s.size=szN F.toNat:=by
 unfold chkM at h
 by_cases h1:dK F=0∨iC W=false
 ·rw[if_pos h1] at h
  omega
 ·rw[if_neg h1] at h
  by_cases h2:badF fl=true∨badF tr=true
  ·rw[if_pos h2] at h
   omega
  ·rw[if_neg h2] at h
   by_cases h3:16<l.length
   ·rw[if_pos h3] at h
    omega
   ·rw[if_neg h3] at h
    by_cases h4:l.any (offS (szN F.toNat:Int))=true
    ·rw[if_pos h4] at h
     omega
    ·refine⟨fun c=>h1 (.inl c),by cases hw:iC W<;>simp_all,by cases hb:badF fl<;>simp_all,by cases hb:badF tr<;>simp_all,by omega,fun s hs=> ?_⟩
     by_cases c:s.size=szN F.toNat
     ·exact c
     ·exfalso
      refine h4 (List.any_eq_true.2 ⟨s,hs, ?_⟩);unfold offS;exact decide_eq_true (by omega)
theorem pt_zero {F k:Int}{s:ByteArray}(h:dF F s=0)(hk: ¬k<1)(hk2: ¬60<k):(ptV F s k).2=0:=by
 unfold ptV;rw[if_neg (fun c=>c h),if_neg (by omega)]
 split<;>rfl
theorem getD_mem {l:List ByteArray}{i:Nat}(h:i<l.length):l.getD i ⟨#[]⟩∈l:=by
 rw[List.getD_eq_getElem?_getD,List.getElem?_eq_getElem h];exact List.getElem_mem h
theorem machineShows_walk (F W fl tr:Int)(va:Value)(l:List ByteArray)(k:Int)(w:World)(hT:TxW w)(ha:RdS w va l):
  yC 4 #[.agg #[yi F,yi W,yi fl,yi tr,va],yi k] w (yR w (.bool true)):=by
 obtain⟨so,sc,rfl⟩:=ha.shape;have HB:=fun w1 (b:yB w w1)=>machineBegun_any w1 (hT.l b)
 have HK:=fun w1 (b:yB w w1)=>state_any F W fl tr _ l w1 (ha.l b)
 have HC:=fun w1 (b:yB w w1) w2 (b2:yB w1 w2)=>mcheck_any F W fl tr _ l w2 (ha.l (aa b b2))
 by_cases hc:chkM F W fl tr l=0
 rotate_left
 ·exact mshows_chk _ F W fl tr k so _ sc w hc HB HK (fun w1 b=>show_chk _ F W fl tr k so _ sc w1 hc (HC w1 b))
 rw[hc] at HK HC
 by_cases hk:k<1
 ·exact mshows_low F W fl tr k so _ sc w hk HB HK (fun w1 b=>show_low F W fl tr k so _ sc w1 hk (HC w1 b))
 by_cases hk2:60<k
 ·exact mshows_high F W fl tr k so _ sc w hk hk2 HB HK (fun w1 b=>show_high F W fl tr k so _ sc w1 hk hk2 (HC w1 b))
 obtain⟨hf,-,-,-,h16,hsz⟩:=chkM_ok hc;have hp: ∀i,i<l.length→dF F (l.getD i ⟨#[]⟩)=0:=fun i hi=>by
  unfold dF;rw[if_neg hf,if_pos (hsz _ (getD_mem hi))]
 have HP:=fun i (hi:i<l.length) w1 (b:yB w w1)=>by
  have:=tPrint_any F (l.getD i ⟨#[]⟩) k w1 (hT.l b);rw[pt_zero (hp i hi) hk hk2] at this;exact this
 refine mshows_all (fun i=>(ptV F (l.getD i ⟨#[]⟩) k).1) l F W fl tr k so _ sc w ha rfl hk hk2 HB HK (fun w1 b=> ?_) HP
 refine(show_all (fun i=>(ptV F (l.getD i ⟨#[]⟩) k).1) (fun _=>0) l F W fl tr k so _ sc w1 (ha.l b) rfl (by omega) hk hk2 (HC w1 b) (fun i hi w2 b2=>HP i hi w2 (aa b b2))).mono ?_
 rintro z w2 (⟨j,-,h,-⟩| ⟨-,vo,vc,h1,h2,h3⟩)
 ·exact absurd rfl h
 ·have h4:=h2.rd
  exact⟨vo,vc,h1,by simpa using h4,h3⟩
theorem enc0_num {k:Nat}(hk:1≤k∧k≤8)(g:Bool){m:Nat}{p:Int}(fl:Int)(hm:m≠0)(hs:ia (rdN k) (dgN k) (lsI k) (gsI k) (decide (k≤3)) m p):(Dw k 2 g m p fl).2.2=0:=by
 obtain⟨-,-,d1,-,-,-,lg,-,w64,-,-,hg⟩:=eR hk;obtain⟨l15,p1,p2,w1',w2',t480⟩:=qj hg hs;have hh:=mI (s:=g) hg hs;have hc:chk (Dg.dg 4294967296 m)=0:=pJ (Dg.norm_dg _ _ (by omega)) (by omega);have hl0:(Dg.dg 4294967296 m).length≠0:=fun c=>hm ((Dg.dg_nil_iff 4294967296 _ (by omega)).1 (List.length_eq_zero_iff.1 c))
 have hE:enE k g (Dg.dg 4294967296 m) p=0:=by
  rw[mY hk hc hl0 (by omega),Dg.vl_dg _ _ (by omega),jK _ _ lg];rw[nN _ _ lg] at hh;rw[hh,if_pos rfl]
 unfold Dw;rw[(xH hk hc).1,hE,if_pos rfl]
theorem enc0_oth {k:Nat}(hk:1≤k∧k≤8){c:Nat}(hc:c=1∨c=3∨c=4∨c=5)(g:Bool)(fl:Int)(hs:iR k c=true)(hg:g=true→Bk k c=true):(Dw k c g 0 0 fl).2.2=0:=by
 have hf: ¬(dK k=0∨(c:Int)<1∨5< (c:Int)):=by
  rcases qt hk with h|h|h<;>omega
 have ho:qX k c 0 g 0=0:=by
  unfold qX;rw[if_neg (by rw[hs];decide),if_neg];rintro(h|h|h)
  ·omega
  ·exact h rfl
  ·rw[hg h.1] at h
   exact absurd h.2 (by decide)
 have hE:gI k c g (Dg.dg 4294967296 0) 0=0:=by
  unfold gI;rw[if_neg hf,if_neg (fun h=>h (by decide)),if_neg (by omega),Int.toNat_natCast,Int.toNat_natCast]
  exact ho
 unfold Dw;rw[hE,if_pos rfl]
theorem enc0_plc {k:Nat}(hk:1≤k∧k≤8)(wy:Int)(P:fz)(h:Rnd k P)(fl:Int):(Dw k (pG k wy P).1 (pG k wy P).2.1 (pG k wy P).2.2.1 (pG k wy P).2.2.2.1 fl).2.2=0:=by
 have hp1:rdN k^dgN k-1≠0:=by
  rcases bO hk with rfl|rfl|rfl|rfl|rfl|rfl|rfl|rfl<;>decide
 unfold pG
 by_cases ho:P.ov=true
 ·simp only[if_pos ho]
  unfold ovV
  rcases qt hk with hf|hf|hf
  ·have h3: ¬dK k=3:=by omega
   simp only[if_neg h3]
   by_cases hb:aaV wy P.s=true
   ·have hc:dK k=1∧aaV wy P.s=true:=⟨hf,hb⟩
    simp only[if_pos hc];have h3:=(fam_one hk).1 hf;exact enc0_oth hk (c:=3) (by decide) P.s fl (by simp[iR,h3]) (fun _=>rfl)
   ·have hc: ¬(dK k=1∧aaV wy P.s=true):=fun c=>hb c.2
    simp only[if_neg hc];exact enc0_num hk P.s fl hp1 (EV hk)
  ·have h3: ¬dK k=3:=by omega
   have hc: ¬(dK k=1∧aaV wy P.s=true):=fun c=>by omega
   simp only[if_neg h3,if_neg hc];exact enc0_num hk P.s fl hp1 (EV hk)
  ·simp only[if_pos hf]
   have h6:6≤k:=by
    revert hf
    rcases bO hk with rfl|rfl|rfl|rfl|rfl|rfl|rfl|rfl<;>decide
   exact enc0_oth hk (c:=5) (by decide) false fl (by simp[iR,h6]) (fun c=>by cases c)
 simp only[if_neg ho]
 by_cases hl:P.un=true∧P.p<lsI k
 ·simp only[if_pos hl]
  exact enc0_oth hk (c:=1) (by decide) false fl rfl (fun c=>by cases c)
 simp only[if_neg hl]
 by_cases hd:P.d=0
 ·simp only[if_pos hd]
  have h3:=(fam_one hk).1 (h.plc.nil (by simpa using ho) hd);rw[hd,h.nil0 hd];exact enc0_oth hk (c:=1) (by decide) P.s fl rfl (fun _=>by simp[Bk];omega)
 ·simp only[if_neg hd]
  exact enc0_num hk P.s fl hd (h.spot (by simpa using ho) hl hd)
theorem dec_of {k:Nat}(hk:1≤k∧k≤8){c:Int}{g:Bool}{m:Nat}{p fl:Int}(h:(Dw k c g m p fl).2.2=0):
  dF k (Dw k c g m p fl).1=0∧((bM k (Dw k c g m p fl).1:Nat):Int)=c∧dz k (Dw k c g m p fl).1=g∧opT k (Dw k c g m p fl).1=if c=2 then bare ⟨g,m,(ai (rdN k):Int)*p⟩ else⟨false,0,0⟩:=by
 unfold Dw at h⊢
 by_cases he:gI k c g (Dg.dg 4294967296 m) p=0
 rotate_left
 ·rw[if_neg he] at h
  exact absurd h he
 rw[if_pos he];obtain⟨e1,e2,e3,e4,e5,e6,e7⟩:=oJ hk (Dg.small_dg _ _ (by omega)) he;simp only;have hp:=nj hk e1;refine⟨hp, ?_, ?_, ?_⟩
 ·unfold bM
  rw[if_pos hp,Int.toNat_natCast];exact e2
 ·unfold dz
  rw[if_pos hp,Int.toNat_natCast];exact e3
 ·unfold opT nxT
  rw[if_pos hp,Int.toNat_natCast]
  by_cases hc:c=2
  ·rw[if_pos hc]
   obtain⟨-,f1,f2,f3⟩:=e6 hc;rw[iq hk e4 e5 (by omega),wQ hk,f1,f3,Dg.vl_dg _ _ (by omega)]
  ·rw[if_neg hc]
   exact Fm hk (by omega)
structure Pair (k:Nat) (f1 f2:Int×Bool×ak×Int):Prop where
 c:f1.1=f2.1
 t:f1.2.2.1=f2.2.2.1
 two:f1.1=2→f1.2.2.1.n≠0
 inf:f1.1=3→f1.2.1=f2.2.1∧k≤3
 all:f1.1=1∨f1.1=2∨f1.1=3∨(f1.1=AZ (dK k)∧f1.2.1=false∧f2.2.1=false)
theorem num_pair {k:Nat}{t:ak}{s1 s2:Bool}:Pair k (nu t s1) (nu t s2):=by
 refine⟨rfl,rfl,fun c=> ?_,fun c=> ?_, ?_⟩
 ·have:vI t=2:=c
  unfold vI at this
  show(tF t).n≠0
  unfold tF
  split at this
  ·omega
  ·next h=>rw[if_neg h];exact h
 ·have:vI t=3:=c
  unfold vI at this
  split at this<;>omega
 ·show vI t=1∨vI t=2∨_
  unfold vI
  split
  ·exact .inl rfl
  ·exact .inr (.inl rfl)
theorem no_pair {k:Nat}{l1 l2:Int}:Pair k (noV k l1) (noV k l2):=
 ⟨rfl,rfl,fun c=>(vN (k:=k) (fl:=0) c).elim,fun c=>by
  have:AZ (dK k)=3:=c;unfold AZ at this
  split at this
  ·omega
  ·split at this<;>omega,.inr (.inr (.inr ⟨rfl,rfl,rfl⟩))⟩
theorem inf_pair {k:Nat}{g:Bool}{x:ak}(h:k≤3){l1 l2:Int}:Pair k (3,g,x,l1) (3,g,x,l2):=
 ⟨rfl,rfl,fun c=>absurd c (show¬(3:Int)=2 by decide),fun _=>⟨rfl,h⟩,.inr (.inr (.inl rfl))⟩
theorem sum_pair {k:Nat}(w1 w2:Int){cx cy:Int}{gx gy:Bool}{x y:ak}(hx:cx=3→k≤3)(hy:cy=3→k≤3):Pair k (vY k w1 cx gx x cy gy y) (vY k w2 cx gx x cy gy y):=by
 by_cases h1:cx=3∧cy=3∧gx≠gy
 ·rw[Jz h1,Jz h1]
  exact no_pair
 by_cases h2:cx=3
 ·rw[JA h2 (fun c=>h1 ⟨h2,c.1,c.2⟩),JA h2 (fun c=>h1 ⟨h2,c.1,c.2⟩)]
  exact inf_pair (hx h2)
 by_cases h3:cy=3
 ·rw[Wy h2 h3,Wy h2 h3]
  exact inf_pair (hy h3)
 ·rw[OZ h2 h3,OZ h2 h3]
  exact num_pair
def FlagOk (f:Int):Prop:=f=0∨f=1∨f=3∨f=5∨f=16
theorem afH (k:Nat)(wy:Int)(P:fz):FlagOk (pG k wy P).2.2.2.2∧bits .or .i64 0 (pG k wy P).2.2.2.2=(pG k wy P).2.2.2.2:=by
 have h:(pG k wy P).2.2.2.2=0∨(pG k wy P).2.2.2.2=1∨(pG k wy P).2.2.2.2=3∨(pG k wy P).2.2.2.2=5:=by
  unfold pG
  split
  ·exact .inr (.inr (.inr rfl))
  ·split
   ·exact .inr (.inr (.inl rfl))
   ·show(if P.ex=true then(0:Int) else if P.un=true then 3 else 1)=0∨_
    split
    ·exact .inl rfl
    ·split
     ·exact .inr (.inr (.inl rfl))
     ·exact .inr (.inl rfl)
 unfold FlagOk
 rcases h with h|h|h|h<;>rw[h]<;>exact⟨by decide,rfl⟩
theorem encT_flags {k:Nat}{c:Int}{g:Bool}{m:Nat}{p fl:Int}(h:FlagOk fl):FlagOk (Dw k c g m p fl).2.1:=by
 unfold Dw
 split
 ·exact h
 ·exact .inl rfl
theorem ps_flags (n:Int)(t:ByteArray)(way:Int):FlagOk (psV n t way).2.1:=by
 unfold psV
 split
 ·exact .inl rfl
 ·split
  ·exact .inl rfl
  ·unfold fitT
   split
   ·exact encT_flags (afH _ _ _).1
   ·exact .inl rfl
theorem M0 {k:Nat}(hk:1≤k∧k≤8)(wy:Int){f:Int×Bool×ak×Int}(h:Pair k f f):(m8 k wy f.1 f.2.1 f.2.2.1 f.2.2.2).2.2=0:=by
 obtain⟨c,g,t,l⟩:=f;obtain⟨-,-,h3,h4,h5⟩:=h;simp only at h3 h4 h5⊢;unfold m8
 by_cases e2:c=2
 ·rw[if_pos e2]
  exact enc0_plc hk wy _ (rnd_of hk t.s t.n 1 t.e wy (h3 e2) (by decide)) _
 rw[if_neg e2]
 by_cases e1:c=1
 ·rw[if_pos e1]
  exact enc0_oth hk (c:=1) (by decide) _ l rfl (fun hg=>by
   have h6:dK k=1:=by
    simp at hg;exact hg.2
   have h7:=(fam_one hk).1 h6;simp[Bk];omega)
 rw[if_neg e1]
 by_cases e3:c=3
 ·subst e3
  have h7:=(h4 rfl).2;exact enc0_oth hk (c:=3) (by decide) g l (by simp[iR,h7]) (fun _=>rfl)
 ·obtain⟨n1,n2,n3⟩:=((h5.resolve_left e1).resolve_left e2).resolve_left e3
  subst n2
  rcases qt hk with hf|hf|hf
  ·have h7:=(fam_one hk).1 hf
   have:c=((4:Nat):Int):=by rw[n1,hf];rfl
   rw[this];exact enc0_oth hk (by decide) false l (by simp[iR,h7]) (fun c=>by cases c)
  ·exact absurd (by rw[n1,hf];rfl) e1
  ·have:c=((5:Nat):Int):=by rw[n1,hf];rfl
   have h6:6≤k:=by
    revert hf
    rcases bO hk with rfl|rfl|rfl|rfl|rfl|rfl|rfl|rfl<;>decide
   rw[this];exact enc0_oth hk (by decide) false l (by simp[iR,h6]) (fun c=>by cases c)
theorem sum_flags (k:Nat)(wy cx:Int)(gx:Bool)(x:ak)(cy:Int)(gy:Bool)(y:ak):((vY k wy cx gx x cy gy y).2.2.2=0∨(vY k wy cx gx x cy gy y).2.2.2=16)∧((vY k wy cx gx x cy gy y).1=2→(vY k wy cx gx x cy gy y).2.2.2=0):=by
 unfold vY
 split
 ·refine⟨.inr rfl,fun c=> ?_⟩
  have:AZ (dK k)=2:=c;unfold AZ at this
  split at this
  ·omega
  ·split at this<;>omega
 ·split
  ·exact⟨.inl rfl,fun _=>rfl⟩
  ·split
   ·exact⟨.inl rfl,fun _=>rfl⟩
   ·exact⟨.inl rfl,fun _=>rfl⟩
theorem add_tells {k:Nat}(hk:1≤k∧k≤8){way:Int}(hw:iC way=true){a b:ByteArray}(ha:dF k a=0)(hb:dF k b=0):
  (jV k way [a,b] (OX k way a b)).2.2=0∧FlagOk (jV k way [a,b] (OX k way a b)).2.1∧dF k (jV k way [a,b] (OX k way a b)).1=0:=by
 have hf:dK k≠0:=by
  rcases qt hk with h|h|h<;>omega
 have he:fT k [a,b]=0:=by
  unfold fT;rw[if_pos ha];unfold fT;rw[if_pos hb];rfl
 have hw5: ¬(way<1∨5<way):=by
  have:=way_is.1 hw;omega
 have key: ∀f:Int×Bool×ak×Int,Pair k f f→(f.2.2.2=0∨f.2.2.2=16)∧(f.1=2→f.2.2.2=0)→(m8 k way f.1 f.2.1 f.2.2.1 f.2.2.2).2.2=0∧FlagOk (m8 k way f.1 f.2.1 f.2.2.1 f.2.2.2).2.1∧dF k (m8 k way f.1 f.2.1 f.2.2.1 f.2.2.2).1=0:=fun f hp hfl=>by
  have h0:=M0 hk way hp;refine⟨h0, ?_, ?_⟩
  ·unfold m8
   split
   ·next e2=>
    rw[hfl.2 e2,(afH _ _ _).2];exact encT_flags (afH _ _ _).1
   ·split<;>exact encT_flags (by rcases hfl.1 with h|h<;>rw[h]<;>unfold FlagOk<;>decide)
  ·unfold m8 at h0⊢
   split at h0
   ·next e2=>rw[if_pos e2];exact(dec_of hk h0).1
   ·next e2=>
    rw[if_neg e2]
    split at h0
    ·next e1=>rw[if_pos e1];exact(dec_of hk h0).1
    ·next e1=>rw[if_neg e1];exact(dec_of hk h0).1
 unfold jV;rw[if_neg hf,if_neg (fun c=>c he),if_neg hw5,Int.toNat_natCast]
 by_cases hn:[a,b].any (dO k)=true
 ·rw[if_pos hn]
  refine key (AZ (dK k),false,⟨false,0,0⟩,if dK k=1 then 0 else 16) no_pair ⟨by simp only;split<;>simp,fun c=> ?_⟩
  have:AZ (dK k)=2:=c;unfold AZ at this
  split at this
  ·omega
  ·split at this<;>omega
 ·rw[if_neg hn]
  refine key (OX k way a b) ?_ (by unfold OX;rw[Int.toNat_natCast];exact sum_flags _ _ _ _ _ _ _ _);unfold OX;rw[Int.toNat_natCast];exact sum_pair way way (fun c=>inf_few ha (by omega)) (fun c=>inf_few hb (by omega))
end Go.Proofs.YtdhpndnncmagiaaGreatDoor
