/-
  Texts laid together: Leaf, Wrong, Begun, Laws1, Laws2, DyCs, Read1, Aw0, Co7, Ce1, Gr1, Dy5, Dt1, Tx4, Tx7, Tx10, Tx1, Tx2, Read3, Eg3, Pa1, Pa3, Fi1, Tx5, Cv4, Tx12, Tx16, Ps1, Tx26, Ty10, Ty12.
-/
import Derived.Test.YtlgkfdcmokchgaaGreatDoorTie
import Derived.Test.YtlgkfdcmokchgaaGreatDoorCards
import Derived.ProofKit
import Derived.ShutString
import Derived.ChangeOld
import Derived.Below
import Derived.LaidMore
import Derived.SevenTiedAt
import Derived.Lib.LaidTab
import Derived.Test.YtlgkfdcmokchgaaGreatDoorUt01
import Derived.Test.YtlgkfdcmokchgaaGreatDoorUt03
set_option maxRecDepth 100000
set_option maxHeartbeats 3200000
namespace Go.Proofs.YtlgkfdcmokchgaaGreatDoor
open Go.RowKit
theorem jC (v:Value)(zs:List Nat)(w:World)(h:Rd w .u32 v zs):
  yC 69 #[v] w fun e w'=>e= .returned (yi (chk zs))∧w'=w:=by
 obtain⟨ao,cap,rfl,hlc,hm,hc⟩:=h;unfold maxLen at hm
 by_cases h0:zs.length=0
 ·have hz:zs=[]:=List.eq_nil_of_length_eq_zero h0
  subst hz
  go_enter Tryz.func69,Tryz.ntmps69
  go_wp2
  go_ret
  exact⟨rfl,rfl⟩
 ·obtain⟨b,off,rfl,hcell⟩:=hc (by omega)
  have h1:=hcell (zs.length-1) (by omega)
  by_cases hz:zs.getD (zs.length-1) 0=0
  ·have e1:chk zs=1:=Oq (by omega) hz
   rw[e1];rw[hz] at h1;clear hcell hc e1 hz
   go_enter Tryz.func69,Tryz.ntmps69
   go_wp2
   go_ret
   exact⟨rfl,rfl⟩
  ·obtain⟨d,hd⟩: ∃d,zs.getD (zs.length-1) 0=d:=⟨_,rfl⟩
   by_cases hg:1200<zs.length
   ·rw[Ot hz hg]
    rw[hd] at h1 hz;clear hcell hc hd
    go_enter Tryz.func69,Tryz.ntmps69
    go_wp2
    go_ret
    exact⟨rfl,rfl⟩
   ·rw[ZT hz hg]
    rw[hd] at h1 hz;clear hcell hc hd
    go_enter Tryz.func69,Tryz.ntmps69
    go_wp2
    go_ret
    exact⟨rfl,rfl⟩
theorem ri (b:Nat)(va:Value)(xs:List Nat)(w:World)(h0:w.cell? ⟨b,0,none⟩=some va)(ha:Rd w .u32 va xs):
  yC 34 #[.slice (some ⟨b,0,none⟩) 1 1] w fun e w'=>e= .returned (yi (chk xs))∧w'=w:=by
 obtain⟨c,hc⟩: ∃c,chk xs=c:=⟨_,rfl⟩;have hk:=jC va xs w ha;rw[hc] at hk⊢;clear hc
 by_cases h:c=0
 ·subst h
  go_enter Tryz.func34,Tryz.ntmps34
  go_wp2
  refine wp_loop_rounds 2 ?_;rw[rounds_succ]
  go_wp2_with fail
  refine hk.mono ?_;rintro e w' ⟨rfl,rfl⟩
  go_wp2
  rw[rounds_succ]
  go_wp2
  go_ret
  exact⟨rfl,rfl⟩
 ·go_enter Tryz.func34,Tryz.ntmps34
  go_wp2
  refine wp_loop_rounds 2 ?_;rw[rounds_succ]
  go_wp2_with fail
  refine hk.mono ?_;rintro e w' ⟨rfl,rfl⟩
  go_wp2
  go_ret
  exact⟨rfl,rfl⟩
theorem nP (b:Nat)(va vb:Value)(xs ys:List Nat)(w:World)(h0:w.cell? ⟨b,0,none⟩=some va)(h1:w.cell? ⟨b,1,none⟩=some vb)(ha:Rd w .u32 va xs)(hb:Rd w .u32 vb ys):
  yC 34 #[.slice (some ⟨b,0,none⟩) 2 2] w fun e w'=>e= .returned (yi (gB xs ys))∧w'=w:=by
 unfold gB;obtain⟨c,hc⟩: ∃c,chk xs=c:=⟨_,rfl⟩;obtain⟨d,hd⟩: ∃d,chk ys=d:=⟨_,rfl⟩;have hk:=jC va xs w ha;have hl:=jC vb ys w hb;rw[hc] at hk⊢;rw[hd] at hl⊢;clear hc hd
 by_cases h:c=0
 ·subst h
  rw[if_pos rfl]
  go_enter Tryz.func34,Tryz.ntmps34
  go_wp2
  refine wp_loop_rounds 3 ?_;rw[rounds_succ]
  go_wp2_with fail
  refine hk.mono ?_;rintro e w' ⟨rfl,rfl⟩
  go_wp2
  rw[rounds_succ]
  go_wp2_with fail
  refine hl.mono ?_;rintro e w' ⟨rfl,rfl⟩
  by_cases h2:d=0
  ·subst h2
   go_wp2
   rw[rounds_succ]
   go_wp2
   go_ret
   exact⟨rfl,rfl⟩
  ·go_wp2
   go_ret
   exact⟨rfl,rfl⟩
 ·rw[if_neg h]
  go_enter Tryz.func34,Tryz.ntmps34
  go_wp2
  refine wp_loop_rounds 3 ?_;rw[rounds_succ]
  go_wp2_with fail
  refine hk.mono ?_;rintro e w' ⟨rfl,rfl⟩
  go_wp2
  go_ret
  exact⟨rfl,rfl⟩
theorem IW (v:Value)(zs:List Nat)(w:World)(h:Rd w .u32 v zs)(hl:zs.length≤1200):
  yC 32 #[v] w fun e w'=>e= .returned (.tuple #[v,yi 0])∧w'=w:=by
 obtain⟨ao,cap,rfl,hlc,hm,hc⟩:=h;unfold maxLen at hm
 go_enter Tryz.func32,Tryz.ntmps32
 go_wp2
 go_ret2
 exact⟨rfl,rfl⟩
theorem Yb (v:Value)(zs:List Nat)(w:World)(h:Rd w .u32 v zs)(hl:1200<zs.length):
  yC 32 #[v] w fun e w'=>e= .returned (.tuple #[yN,yi 2])∧w'=w:=by
 obtain⟨ao,cap,rfl,hlc,hm,hc⟩:=h;unfold maxLen at hm
 go_enter Tryz.func32,Tryz.ntmps32
 go_wp2
 go_ret2
 exact⟨rfl,rfl⟩
def lH (n:Nat):List Nat×Int:=if(Dg.dg 4294967296 n).length≤1200 then(Dg.dg 4294967296 n,0) else([],2)
def mv (c:Int)(n:Nat):List Nat×Int:=if c=0 then lH n else([],c)
def Ans (w:World)(r:List Nat×Int)(e:Ending)(w':World):Prop:=
 ∃v,e= .returned (.tuple #[v,yi r.2])∧Own w' w.heap.size 54 .u32 v r.1∧yB w w'
theorem aF {zs:List Nat}(h:chk zs=0):Dg.Norm zs∧zs.length≤1200:=by
 unfold chk at h
 by_cases h1:0<zs.length∧zs.getD (zs.length-1) 0=0
 ·rw[if_pos h1] at h;omega
 ·rw[if_neg h1] at h
  by_cases h2:1200<zs.length
  ·rw[if_pos h2] at h;omega
  ·refine⟨fun hne e=>h1 ⟨List.length_pos_iff.2 hne,e⟩,by omega⟩
theorem pJ {zs:List Nat}(h:Dg.Norm zs)(hl:zs.length≤1200):chk zs=0:=by
 unfold chk;rw[if_neg (fun c=>h (List.length_pos_iff.1 c.1) c.2),if_neg (by omega)]
theorem vG:Dg.dg 4294967296 12884901888=[0,3]:=
 (Dg.eq_dg 4294967296 (by omega) [0,3] 12884901888 (Dg.small_cons.2 ⟨by omega,Dg.small_cons.2 ⟨by omega,Dg.small_nil _ (by omega)⟩⟩) (by intro _;decide) (by decide)).symm
theorem Uw:Dg.dg 10 12884901888=[8,8,8,1,0,9,4,8,8,2,1]:=
 (Dg.eq_dg 10 (by omega) [8,8,8,1,0,9,4,8,8,2,1] 12884901888 (by
  repeat (first|exact Dg.small_nil _ (by omega)|refine Dg.small_cons.2 ⟨by omega, ?_⟩)) (by intro _;decide) (by decide)).symm
theorem oZ {xs:List Nat}(sa:Dg.Small 4294967296 xs):Dg.vl 4294967296 xs<65536^ (2*xs.length):=by
 rw[JJ];exact Dg.vl_lt _ _ sa
theorem rU {n:Nat}(h:(Dg.dg 4294967296 n).length≤1200):lH n=(Dg.dg 4294967296 n,0):=by unfold lH;rw[if_pos h]
theorem AK {xs:List Nat}(sa:Dg.Small 4294967296 xs)(h:chk xs=0):(Dg.dg 4294967296 (Dg.vl 4294967296 xs)).length≤1200:=by
 rw[Dg.dg_vl _ (by omega) xs sa (aF h).1];exact(aF h).2
end Go.Proofs.YtlgkfdcmokchgaaGreatDoor
namespace Go.Proofs.YtlgkfdcmokchgaaGreatDoor.dy
open Go.ChangeShapes Go.WideShapes Go.ChangeAt Go.RowKit Go.Joins
theorem own:ownKnob Tryz.prog.godebug=none:=by kernel_rfl
theorem laidOut:laidOutB Tryz.prog=true:=by kernel_rfl
theorem cellsT:Tryz.prog.cellsOf 233=32:=by kernel_rfl
theorem cellsU:Tryz.prog.cellsOf 5=1:=by kernel_rfl
theorem gTab:Tryz.prog.globalNamed (Rows.topDigitsRow.laid.headD (Rows.topDigitsRow.func,.nil)).1=some 1:=by kernel_rfl
theorem tTab:(Tryz.prog.globals[1]?).map (·.type)=some 233:=by kernel_rfl
theorem door_met (os:Os)(args:Array Value):laidMetH Tryz.prog Rows.topDigitsRow.laid ((World.doorLaid Tryz.prog 400 os).forCall (fun _ _=>0) ⟨#[],args,[]⟩).memory:=
 laidMetH_of_parts3 (fuel:=8) (laidMet_of_run' 8 (by kernel_rfl) (by kernel_rfl)) (by kernel_rfl) (by kernel_rfl)
theorem tab_of_laid {W:World}(h:laidMetH Tryz.prog Rows.topDigitsRow.laid W):Tab W:=by
 rw[MakeChecks.laidMetH_plain _ _ _ (by kernel_rfl)] at h;obtain⟨ps,⟨g0,t0,cs0,f0,p0,q0,hg0,ht0,hv0,hd0,_⟩,_⟩:=h;obtain rfl:=Option.some.inj (gTab.symm.trans hg0);obtain rfl:=Option.some.inj (tTab.symm.trans ht0);intro j hj;have hc:=Lib.cells_of_tab (zs:=Lib.deBruijn32tab.map (fun n:Nat=>(n:Int))) Tryz.underlying233 Tryz.underlying5 cellsU cellsT hd0
 have hv:=World.var?_cell hg0 hv0 j;have hl:j<Lib.deBruijn32tab.length:=hj;rw[hv,←Array.getElem?_toList,hc,List.getElem?_map,List.getElem?_map,List.getElem?_eq_getElem hl];simp[List.getD_eq_getElem?_getD,List.getElem?_eq_getElem hl]
theorem open_int' {H:Type}{enc:TypeId×Value→H}{W:World}{base:Nat}{v:Value}{d:DataW H}{p:List MemPlace}(hv:Value.okWide Tryz.prog W .any base 3 v)(h:DataW.Trod enc Tryz.prog W 0 (fun _=>true) true 3 v d p):
  ∃n:Int,v=yi n∧(Lit.int .i64 n).wf=true:=by
 obtain⟨n,rfl,-,-,hw⟩:=open_int Tryz.underlying3 hv h;exact⟨n,rfl,hw⟩
theorem and_mk {a b:Bool}(ha:a=true)(hb:b=true):(a&&b)=true:=by rw[ha,hb];rfl
theorem words_cut (a r:List Char)(h: ∀c∈a,c≠Char.ofNat 32):wordsSigns (a++Char.ofNat 32::r)=a::wordsSigns r:=by
 induction a with
 |nil=>rfl
 |cons c a ih=>
  have h1:c≠Char.ofNat 32:=h c (by simp);have h2:=ih (fun x hx=>h x (by simp[hx]))
  show wordsSigns (c::(a++Char.ofNat 32::r))=_
  rw[wordsSigns]
  ·rw[h2]
  ·intro e;exact h1 e
theorem initS:Tryz.prog.initOrder= "harness" ++(" " ++("fd81e2447c154e40420a8263983583769d89ea44154f7f7a762b92db0656f55f" ++(" " ++("cut" ++(" " ++ "at slipstick/slipsticklaw.TopDigits slipstick/slipsticklaw.TopPrinted"))))):=by kernel_rfl
theorem blank:(" " :String).toList=[Char.ofNat 32]:=by decide+kernel
theorem no_blank1: ∀c∈("harness" :String).toList,c≠Char.ofNat 32:=by decide+kernel
theorem no_blank2: ∀c∈("fd81e2447c154e40420a8263983583769d89ea44154f7f7a762b92db0656f55f" :String).toList,c≠Char.ofNat 32:=by decide+kernel
theorem no_blank3: ∀c∈("cut" :String).toList,c≠Char.ofNat 32:=by decide+kernel
theorem sum_signs:isSumSigns ("fd81e2447c154e40420a8263983583769d89ea44154f7f7a762b92db0656f55f" :String).toList=true:=by decide+kernel
theorem words_of {P:Program}{s r:String}(h:P.initOrder= "harness" ++(" " ++(s++(" " ++("cut" ++(" " ++r))))))(hn: ∀c∈s.toList,c≠Char.ofNat 32):
  wordsSigns P.initOrder.toList=("harness" :String).toList::s.toList::("cut" :String).toList::wordsSigns r.toList:=by
 rw[h,String.toList_append,String.toList_append,String.toList_append,String.toList_append,String.toList_append,String.toList_append,blank];simp only[List.singleton_append];rw[words_cut _ _ no_blank1,words_cut _ _ hn,words_cut _ _ no_blank3]
theorem main_of {P:Program}{s:List Char}{ws:List (List Char)}(h:wordsSigns P.initOrder.toList=("harness" :String).toList::s::ws)(hs:isSumSigns s=true):P.mainIs=some (true,s):=by
 unfold Program.mainIs;rw[h];simp only[hs,Bool.not_true,Bool.false_eq_true,if_false,beq_self_eq_true,if_true]
theorem behind_of {P:Program}{s:List Char}{ws:List (List Char)}(h:wordsSigns P.initOrder.toList=("harness" :String).toList::s::ws)(hs:isSumSigns s=true):behindMainWord (wordsSigns P.initOrder.toList)=ws:=by
 rw[h];unfold behindMainWord;simp only[hs,beq_self_eq_true,Bool.true_or,Bool.and_true,if_true]
theorem strip_none (w:List Char)(ws:List (List Char)): ∀os:List String,(∀o∈os,(w==o.toList)=false)→stripLifts os (w::ws)=([],w::ws)
 | [],_=>rfl
 |o::os,h=>by
  rw[stripLifts,if_neg (by rw[h o (by simp)];decide)];exact strip_none w ws os (fun x hx=>h x (by simp[hx]))
theorem cut_none: ∀o∈liftWords,(("cut" :String).toList==o.toList)=false:=by decide+kernel
theorem cut_gc:(("cut" :String).toList==("gc" :String).toList)=false:=by decide+kernel
theorem cut_spec:(("cut" :String).toList==("spec" :String).toList)=false:=by decide+kernel
theorem lifts_of {P:Program}{s:List Char}{ws:List (List Char)}(h:wordsSigns P.initOrder.toList=("harness" :String).toList::s::("cut" :String).toList::ws)(hs:isSumSigns s=true):P.headLifts=[]:=by
 unfold Program.headLifts;rw[behind_of h hs,strip_none _ _ _ cut_none];simp
theorem make_of {P:Program}{s:List Char}{ws:List (List Char)}(h:wordsSigns P.initOrder.toList=("harness" :String).toList::s::("cut" :String).toList::ws)(hs:isSumSigns s=true):P.make=some .cut:=by
 unfold Program.make;rw[behind_of h hs];simp only[cut_gc,cut_spec,Bool.or_self,Bool.false_eq_true,if_false,beq_self_eq_true,Bool.true_or,if_true]
theorem final_of {P:Program}{s:List Char}{ws:List (List Char)}(h:wordsSigns P.initOrder.toList=("harness" :String).toList::s::("cut" :String).toList::ws)(hs:isSumSigns s=true):P.liftsFinal=false:=by
 unfold Program.liftsFinal;rw[behind_of h hs,lifts_of h hs];have e:((some ("cut" :String).toList:Option (List Char))==some ("carried" :String).toList)=false:=by decide+kernel
 simp only[List.head?_cons,e,Bool.false_and,List.contains_nil,Bool.or_self]
theorem enter_of {P:Program}{s:List Char}{ws:List (List Char)}(h:wordsSigns P.initOrder.toList=("harness" :String).toList::s::("cut" :String).toList::ws)(hs:isSumSigns s=true)
  (h1:P.laysLater=false) (h2:P.bearsReflect=false) (h3:P.doorFits []=true):P.mayEnter=true:=by
 unfold Program.mayEnter;rw[behind_of h hs];simp only[strip_none _ _ _ cut_none,h1,h2,h3,List.head?_cons,beq_self_eq_true,List.contains_nil,Bool.not_false,Bool.or_true,Bool.and_self]
theorem words_is:wordsSigns Tryz.prog.initOrder.toList=("harness" :String).toList::("fd81e2447c154e40420a8263983583769d89ea44154f7f7a762b92db0656f55f" :String).toList::("cut" :String).toList::wordsSigns ("at slipstick/slipsticklaw.TopDigits slipstick/slipsticklaw.TopPrinted" :String).toList:=words_of initS no_blank2
theorem main_is:Tryz.prog.mainIs=some (true,("fd81e2447c154e40420a8263983583769d89ea44154f7f7a762b92db0656f55f" :String).toList):=main_of words_is sum_signs
theorem make_is:Tryz.prog.make=some .cut:=make_of words_is sum_signs
theorem final_is:Tryz.prog.liftsFinal=false:=final_of words_is sum_signs
theorem enter_is:Tryz.prog.mayEnter=true:=enter_of words_is sum_signs (by kernel_rfl) (by kernel_rfl) (by kernel_rfl)
end Go.Proofs.YtlgkfdcmokchgaaGreatDoor.dy
namespace Go.Proofs.YtlgkfdcmokchgaaGreatDoor
open Go.RowKit
theorem li (s:ByteArray)(i:Nat)(h:i<s.size): ∀w,(Instr.index 9 (.string s) (yi i)).run Tryz.prog w= .ok (.int .u8 ((byt s i:Nat):Int)) w:=by
 intro w;rw[run_index_string w 9 s .i64 i Tryz.underlying9,dif_pos ⟨by omega,by omega⟩];have:=KD s i h;simp only[Int.toNat_natCast];rw[this]
theorem Nd (s:ByteArray)(w:World)(hs:s.size≤12000):
  yC 31 #[.string s] w (aeO s w):=by
 by_cases h0:s.size=0
 ·have:=IX s h0
  subst this
  go_enter Tryz.func31,Tryz.ntmps31
  go_wp2
  go_ret
  exact⟨false,rfl,⟨fun h=>by simp at h,fun h=>absurd rfl h.1⟩,rfl⟩
 ·have hi0:=li s 0 (by omega)
  have hemp:=Qw s h0;obtain⟨x,hx⟩: ∃x,byt s 0=x:=⟨_,rfl⟩;rw[hx] at hi0;have HX:Hid (byt s 0=x):=hx;have hi0': ∀w,(Instr.index 9 (.string s) (yi 0)).run Tryz.prog w= .ok (.int .u8 (x:Int)) w:=hi0;have hx8:x<256:=by rw[←hx];exact Ay s 0
  clear hx hi0
  by_cases hC:x=48∧s.size≠1
  ·obtain⟨rfl,hC2⟩:=hC
   have hm:=UJ s hC2;have hi0: ∀w,(Instr.index 9 (.string s) (yi 0)).run Tryz.prog w= .ok (.int .u8 48) w:=hi0';clear hi0'
   go_enter Tryz.func31,Tryz.ntmps31
   go_wp2
   go_ret
   exact⟨false,rfl,⟨fun h=>by simp at h,fun h=>absurd (h.2.1 HX.out) hC2⟩,rfl⟩
  ·have hp:(byt s 0=48→s.size=1):=fun h=>by
    rw[HX.out] at h
    by_cases e:s.size=1
    ·exact e
    ·exact absurd ⟨h,e⟩ hC
   have HP:Hid (byt s 0=48→s.size=1):=hp;have hone:x=48→(s.toList==[48])=true:=fun h=>Yk s (HX.out.trans h) (hp (HX.out.trans h))
   clear hp;have rest: ∀b:Bool,(b=true↔Pr s)→True:=fun _ _=>trivial
   clear rest hC
   by_cases hx48:x=48
   ·subst hx48
    have hl1:=hone rfl;clear hone;have hi0: ∀w,(Instr.index 9 (.string s) (yi 0)).run Tryz.prog w= .ok (.int .u8 48) w:=hi0';clear hi0'
    go_enter Tryz.func31,Tryz.ntmps31
    go_wp2
    go_loop [17] (fun iv=> ∃k:Nat,k≤s.size∧iv=yi k∧Hid (∀i,i<k→48≤byt s i∧byt s i≤57)) (fun iv=>s.size-(intOf iv).toNat)
    case atStart=>exact⟨0,Nat.zero_le _,rfl,fun i hi=>by omega⟩
    case round=>
     obtain⟨k,hk,rfl,hall⟩:=hrel
     by_cases hlt:k<s.size
     ·have hik:=li s k hlt
      obtain⟨y,hy⟩: ∃y,byt s k=y:=⟨_,rfl⟩;rw[hy] at hik;have HY:Hid (byt s k=y):=hy;have hy8:y<256:=by rw[←hy];exact Ay s k
      clear hy
      by_cases h1:y<48
      ·go_wp2
       go_ret
       exact⟨false,rfl,⟨fun h=>by simp at h,fun h=>by have:=(h.2.2 k hlt).1;rw[HY.out] at this;omega⟩,rfl⟩
      ·by_cases h2:57<y
       ·go_wp2
        go_ret
        exact⟨false,rfl,⟨fun h=>by simp at h,fun h=>by have:=(h.2.2 k hlt).2;rw[HY.out] at this;omega⟩,rfl⟩
       ·go_wp2
        go_round
        case rel=>exact⟨k+1,by omega,by go_num,fun i hi=>by
         by_cases e:i=k
         ·rw[e,HY.out];omega
         ·exact hall i (by omega)⟩
        case measure=>simp[intOf];omega
     ·go_wp2
      go_ret
      exact⟨true,rfl,⟨fun _=>⟨h0,HP.out,fun i hi=>hall i (by omega)⟩,fun _=>rfl⟩,rfl⟩
   ·have hx48b:((x:Int)==48)=false:=by simp;omega
    clear hone
    go_enter Tryz.func31,Tryz.ntmps31
    go_wp2
    go_loop [17] (fun iv=> ∃k:Nat,k≤s.size∧iv=yi k∧Hid (∀i,i<k→48≤byt s i∧byt s i≤57)) (fun iv=>s.size-(intOf iv).toNat)
    case atStart=>exact⟨0,Nat.zero_le _,rfl,fun i hi=>by omega⟩
    case round=>
     obtain⟨k,hk,rfl,hall⟩:=hrel
     by_cases hlt:k<s.size
     ·have hik:=li s k hlt
      obtain⟨y,hy⟩: ∃y,byt s k=y:=⟨_,rfl⟩;rw[hy] at hik;have HY:Hid (byt s k=y):=hy;have hy8:y<256:=by rw[←hy];exact Ay s k
      clear hy
      by_cases h1:y<48
      ·go_wp2
       go_ret
       exact⟨false,rfl,⟨fun h=>by simp at h,fun h=>by have:=(h.2.2 k hlt).1;rw[HY.out] at this;omega⟩,rfl⟩
      ·by_cases h2:57<y
       ·go_wp2
        go_ret
        exact⟨false,rfl,⟨fun h=>by simp at h,fun h=>by have:=(h.2.2 k hlt).2;rw[HY.out] at this;omega⟩,rfl⟩
       ·go_wp2
        go_round
        case rel=>exact⟨k+1,by omega,by go_num,fun i hi=>by
         by_cases e:i=k
         ·rw[e,HY.out];omega
         ·exact hall i (by omega)⟩
        case measure=>simp[intOf];omega
     ·go_wp2
      go_ret
      exact⟨true,rfl,⟨fun _=>⟨h0,HP.out,fun i hi=>hall i (by omega)⟩,fun _=>rfl⟩,rfl⟩
theorem afA {w:World}{b:Nat}{ty:TypeId}{z0 z1 z2:Value}(h:au w b ty [z0,z1,z2]):(w.cell? ⟨b,0,none⟩=some z0∧w.cell? ⟨b,1,none⟩=some z1∧w.cell? ⟨b,2,none⟩=some z2)∧w.frozen? ⟨b,0,none⟩=false∧w.frozen? ⟨b,1,none⟩=false∧w.frozen? ⟨b,2,none⟩=false:=
 ⟨⟨h.c 0 rfl,h.c 1 rfl,h.c 2 rfl⟩,h.f 0,h.f 1,h.f 2⟩
theorem aa3 {zs cur:List Nat}{i:Nat}(h:WI zs cur i)(hi:2*i+1<zs.length):WI zs ((cur.set (2*i) (cur.getD (2*i+1) 0)).set (2*i+1) (cur.getD (2*i) 0)) (i+1):=by
 obtain⟨h1,h3⟩:=h;refine⟨by simpa using h1,fun k hk=> ?_⟩
 rw[Dg.getD_set _ _ _ _ (by simp;omega),Dg.getD_set _ _ _ _ (by omega)]
 by_cases e1:2*i+1=k
 ·rw[if_pos e1,if_pos (by omega),h3 _ (by omega),if_neg (by omega),←e1]
  congr 1
  omega
 ·rw[if_neg e1]
  by_cases e2:2*i=k
  ·rw[if_pos e2,if_pos (by omega),h3 _ (by omega),if_neg (by omega),←e2]
   congr 1
   omega
  ·rw[if_neg e2,h3 k hk]
   by_cases e3:k<2*i
   ·rw[if_pos e3,if_pos (by omega)]
   ·rw[if_neg e3,if_neg (by omega)]
theorem XF (va:Value)(xs:List Nat)(w:World)(ha:Rd w .u32 va xs)(sa:Dg.Small 4294967296 xs)(hl:xs.length≤2):
  yC 78 #[va] w fun z w'=>z= .returned (.int .u64 ((Dg.vl 4294967296 xs:Nat):Int))∧w'=w:=by
 obtain⟨ao,ca,rfl,-,-,hca⟩:=ha
 go_enter Tryz.func78,Tryz.ntmps78
 go_wp2
 go_loop [3,4] (fun xv iv=> ∃j x:Nat,j≤xs.length∧iv=yi ((j:Int)-1)∧xv= .int .u64 (x:Int)∧Hid (x=Dg.vl 4294967296 (xs.drop j))) (fun _ iv=>(intOf iv+1).toNat)
 case atStart=>exact⟨xs.length,0,Nat.le_refl _,by go_num,rfl,by rw[List.drop_of_length_le (Nat.le_refl _)];rfl⟩
 case round=>
  obtain⟨j,x,hj,rfl,rfl,HX⟩:=hrel
  by_cases h0:0<j
  ·obtain⟨i,rfl⟩: ∃i,j=i+1:=⟨j-1,by omega⟩
   rw[show((i+1:Nat):Int)-1=(i:Int) from by omega]
   obtain⟨b,off,rfl,hcell⟩:=hca (by omega);have hc:=hcell i (by omega);have hs:=sa i;have hx:=HX.out;have hxl:x<4294967296:=by
    have h1:=Dg.vl_lt 4294967296 (xs.drop (i+1)) (fun k=>by
     rw[List.getD_eq_getElem?_getD,List.getElem?_drop,←List.getD_eq_getElem?_getD];exact sa _)
    rw[←hx,List.length_drop] at h1;have h2:(4294967296:Nat)^ (xs.length-(i+1))≤4294967296^1:=Nat.pow_le_pow_right (by omega) (by omega);omega
   have hst:Dg.vl 4294967296 (xs.drop i)=xs.getD i 0+4294967296*x:=by
    rw[hx,List.drop_eq_getElem_cons (show i<xs.length by omega),Dg.vl]
    simp[List.getD_eq_getElem?_getD,show i<xs.length by omega]
   obtain⟨a,ea⟩: ∃a,xs.getD i 0=a:=⟨_,rfl⟩;rw[ea] at hc hs hst;have hil:i<xs.length:=by omega
   have HST:Hid _:=hst;clear ea hst hx hcell hca HX
   go_wp2
   have hst:=HST.out;refine⟨⟨i,a+4294967296*x,by omega,rfl, ?_,hst.symm⟩, ?_⟩
   ·rw[TZ x a hxl hs]
   ·simp only[intOf]
    omega
  ·have hd: ¬((0:Int)≤(j:Int)-1):=by omega
   have HJ:Hid (j=0):=(by omega:j=0)
   go_wp2
   go_ret
   have h1:=HJ.out;subst h1;have:=HX.out;rw[List.drop_zero] at this;rw[←this];exact⟨rfl,rfl⟩
theorem MY (qs:Bool)(ao:Option Addr)(ca la:Nat)(bo:Option Addr)(cb lb:Nat)(E R D L G:Int)(gr:Bool)(cx cy:Int)(fe:Bool)(gc:Int)(w:World)
  (H1: ∀w1,yB w w1→yC 69 #[.slice ao la ca] w1 fun z w'=>z= .returned (yi cx)∧w'=w1)
  (H2: ∀w1,yB w w1→yC 69 #[.slice bo lb cb] w1 fun z w'=>z= .returned (yi cy)∧w'=w1)
  (H3: ∀w1,yC 109 #[yi E,yi 20000] w1 fun z w'=>z= .returned (.bool fe)∧w'=w1)
  (H4:yJ 110 #[ygV R D L G gr] (yi gc)):
  yC 75 #[yrV qs (.slice ao la ca) (.slice bo lb cb) E,ygV R D L G gr] w (yR w (yi (nL cx cy lb fe gc))):=by
 replace H1:Hid _:=H1;replace H2:Hid _:=H2;replace H3:Hid _:=H3;replace H4:Hid _:=H4;have b1:=aa (af w (.cells (yrA qs (.slice ao la ca) (.slice bo lb cb) E) 60)) (af _ (.cells (ygA R D L G gr) 82))
 by_cases hx:cx=0
 ·subst hx
  by_cases hy:cy=0
  ·subst hy
   by_cases hl:lb=0
   ·subst hl
    rw[show nL 0 0 0 fe gc=3 from by unfold nL;simp]
    go_enter Tryz.func75,Tryz.ntmps75
    go_wp2_with fail
    refine(H1.out _ b1).mono ?_;rintro z w2 ⟨rfl,rfl⟩
    go_wp2_with fail
    refine(H2.out _ b1).mono ?_;rintro z w2 ⟨rfl,rfl⟩
    go_wp2
    go_ret
    exact⟨rfl,b1⟩
   ·have hlf:((lb:Int)==0)=false:=by simp;exact hl
    cases fe
    ·rw[show nL 0 0 lb false gc=gc from by unfold nL;simp[hl]]
     go_enter Tryz.func75,Tryz.ntmps75
     go_wp2_with fail
     refine(H1.out _ b1).mono ?_;rintro z w2 ⟨rfl,rfl⟩
     go_wp2_with fail
     refine(H2.out _ b1).mono ?_;rintro z w2 ⟨rfl,rfl⟩
     go_wp2_with fail
     refine(H3.out _).mono ?_;rintro z w2 ⟨rfl,rfl⟩
     go_wp2_with fail
     refine(H4.out _).mono ?_;rintro z w4 ⟨rfl,b4⟩;have b04:=aa b1 b4
     go_wp2
     go_ret
     exact⟨rfl,b04⟩
    ·rw[show nL 0 0 lb true gc=3 from by unfold nL;simp]
     go_enter Tryz.func75,Tryz.ntmps75
     go_wp2_with fail
     refine(H1.out _ b1).mono ?_;rintro z w2 ⟨rfl,rfl⟩
     go_wp2_with fail
     refine(H2.out _ b1).mono ?_;rintro z w2 ⟨rfl,rfl⟩
     go_wp2_with fail
     refine(H3.out _).mono ?_;rintro z w2 ⟨rfl,rfl⟩
     go_wp2
     go_ret
     exact⟨rfl,b1⟩
  ·have hyf:(cy==0)=false:=by simp;exact hy
   rw[show nL 0 cy lb fe gc=cy from by unfold nL;simp[hy]]
   go_enter Tryz.func75,Tryz.ntmps75
   go_wp2_with fail
   refine(H1.out _ b1).mono ?_;rintro z w2 ⟨rfl,rfl⟩
   go_wp2_with fail
   refine(H2.out _ b1).mono ?_;rintro z w2 ⟨rfl,rfl⟩
   go_wp2
   go_ret
   exact⟨rfl,b1⟩
 ·have hxf:(cx==0)=false:=by simp;exact hx
  rw[show nL cx cy lb fe gc=cx from by unfold nL;simp[hx]]
  go_enter Tryz.func75,Tryz.ntmps75
  go_wp2_with fail
  refine(H1.out _ b1).mono ?_;rintro z w2 ⟨rfl,rfl⟩
  go_wp2
  go_ret
  exact⟨rfl,b1⟩
theorem nS (s:Bool)(ao:Option Addr)(ca:Nat)(xs:List Nat)(e:Int)(w:World)(hr:Rd w .u32 (.slice ao xs.length ca) xs):
  yC 124 #[ydV s (.slice ao xs.length ca) e] w (yR w (yi (aS xs e))):=by
 have bA:=af w (.cells (ydA s (.slice ao xs.length ca) e) 78);have hk:=jC _ xs _ (hr.l bA);unfold aS;obtain⟨c,hc⟩: ∃c,chk xs=c:=⟨_,rfl⟩;rw[hc] at hk⊢;clear hc hr
 by_cases h:c=0
 ·subst h
  rw[if_pos rfl]
  by_cases h1:e< -20000
  ·rw[if_pos (Or.inl h1)]
   go_enter Tryz.func124,Tryz.ntmps124
   go_wp2_with fail
   refine hk.mono ?_;rintro z w' ⟨rfl,rfl⟩;clear hk
   go_wp2
   go_ret
   exact⟨rfl,bA⟩
  ·by_cases h2:20000<e
   ·rw[if_pos (Or.inr h2)]
    go_enter Tryz.func124,Tryz.ntmps124
    go_wp2_with fail
    refine hk.mono ?_;rintro z w' ⟨rfl,rfl⟩;clear hk
    go_wp2
    go_ret
    exact⟨rfl,bA⟩
   ·rw[if_neg (by omega)]
    go_enter Tryz.func124,Tryz.ntmps124
    go_wp2_with fail
    refine hk.mono ?_;rintro z w' ⟨rfl,rfl⟩;clear hk
    go_wp2
    go_ret
    exact⟨rfl,bA⟩
 ·rw[if_neg h]
  go_enter Tryz.func124,Tryz.ntmps124
  go_wp2_with fail
  refine hk.mono ?_;rintro z w' ⟨rfl,rfl⟩;clear hk
  go_wp2
  go_ret
  exact⟨rfl,bA⟩
theorem nt {n:Nat}{e:Int}(h:(Dg.dg 4294967296 n).length≤1200)(h1: -20000≤e)(h2:e≤20000):aS (Dg.dg 4294967296 n) e=0:=by
 unfold aS;rw[pJ (Dg.norm_dg _ _ (by omega)) h,if_pos rfl,if_neg (by omega)]
def RtE (w:World)(ng:Bool)(a b:Nat)(e er:Int)(z:Ending)(w':World):Prop:=
 ∃v u,z= .returned (.tuple #[yrV ng v u e,yi er])∧Rd w' .u32 v (Dg.dg 4294967296 a)∧Rd w' .u32 u (Dg.dg 4294967296 b)∧yB w w'
theorem tparse_none (n way:Int)(tx:ByteArray)(w:World)
  (HF:yJ 36 #[yi n] (yi 0)):
  yC 14 #[yi n,.string tx,yi way] w (yR w (.tuple #[.string ⟨#[]⟩,yi 0,yi 6])):=by
 replace HF:Hid _:=HF
 go_enter Tryz.func14,Tryz.ntmps14
 have b0:=Below.refl w.heap.size w
 go_wp2_with fail
 refine(HF.out _).mono ?_;rintro zz w1 ⟨rfl,bb2⟩;have b3:=aa b0 bb2;clear b0 bb2 HF
 go_wp2
 go_ret3
 exact⟨rfl,b3⟩
theorem tparse_err (f n way er:Int)(tx:ByteArray)(w:World)(hf:(f==0)=false)(he: ¬er=0)
  (HF:yJ 36 #[yi n] (yi f))
  (HE:yH w 37 #[.string tx] (.tuple #[yrV false yN yN 0,yi er])):
  yC 14 #[yi n,.string tx,yi way] w (yR w (.tuple #[.string ⟨#[]⟩,yi 0,yi er])):=by
 replace HF:Hid _:=HF;replace HE:Hid _:=HE
 go_enter Tryz.func14,Tryz.ntmps14
 have b0:=Below.refl w.heap.size w
 go_wp2_with fail
 refine(HF.out _).mono ?_;rintro zz w1 ⟨rfl,bb2⟩;have b3:=aa b0 bb2;clear b0 bb2 HF
 go_wp2_with fail
 refine(HE.out _ b3).mono ?_;rintro zz w4 ⟨rfl,bb5⟩;have b6:=aa b3 bb5;clear b3 bb5 HE;obtain⟨W9,hW8,q10,al7⟩:=cA w4 (yrL false yN yN 0) 60;replace hW8:Hid _:=hW8;have hl11:w.heap.size≤w4.heap.size:=b6.size;have b12:=aa b6 al7;clear b6 al7 q10
 go_upto_region 4 with fail
 rw[hW8.out];clear hW8
 go_wp2
 go_ret3
 exact⟨rfl,b12⟩
theorem pbelow_any (n:Int)(w:World)(h1: -100000≤n)(h2:n≤100000):yC 88 #[yi n] w (yR w (yi (pbV n))):=by
 have hb1: -40000≤(n*30103).tdiv 100000:=by
  rw[pb_is n]
  split<;>omega
 have hb2:(n*30103).tdiv 100000≤40000:=by
  rw[pb_is n]
  split<;>omega
 go_enter Tryz.func88,Tryz.ntmps88
 go_wp2
 go_ret
 exact⟨rfl,Below.refl _ _⟩
def ShW (w:World)(a:Nat)(cs:List Value)(v:Value)(m:Nat)(wr:World):Prop:=yB w wr∧au wr a 100 cs∧Rd wr .u32 v (Dg.dg 4294967296 m)
theorem tdecimals_any (s:ByteArray)(w:World)(hs:s.size≤12000):
  yC 105 #[.string s] w (yR w (.bool (digB s))):=by
 obtain⟨B,hB⟩: ∃b,digB s=b:=⟨_,rfl⟩;rw[hB];replace hB:Hid _:=hB
 go_enter Tryz.func105,Tryz.ntmps105
 go_wp2
 go_loop [6] (fun iv=> ∃k:Nat,k≤s.size∧iv=yi k∧Hid (∀i,i<k→48≤byt s i∧byt s i≤57)) (fun iv=>s.size-(intOf iv).toNat)
 case atStart=>exact⟨0,Nat.zero_le _,rfl,fun i hi=>by omega⟩
 case round=>
  obtain⟨k,hk,rfl,hall⟩:=hrel
  by_cases hlt:k<s.size
  ·have hik:=li s k hlt
   obtain⟨y,hy⟩: ∃y,byt s k=y:=⟨_,rfl⟩;rw[hy] at hik;have HY:Hid (byt s k=y):=hy;have hy8:y<256:=by rw[←hy];exact Ay s k
   clear hy
   by_cases h1:y<48
   ·go_wp2
    go_ret
    have e:B=false:=by
     rw[←hB.out,←Bool.not_eq_true,digB_iff];intro h;have:=(h.2 k hlt).1;rw[HY.out] at this;omega
    rw[e];exact⟨rfl,Below.refl _ _⟩
   ·by_cases h2:57<y
    ·go_wp2
     go_ret
     have e:B=false:=by
      rw[←hB.out,←Bool.not_eq_true,digB_iff];intro h;have:=(h.2 k hlt).2;rw[HY.out] at this;omega
     rw[e];exact⟨rfl,Below.refl _ _⟩
    ·go_wp2
     go_round
     case rel=>exact⟨k+1,by omega,by go_num,fun i hi=>by
      by_cases c:i=k
      ·rw[c,HY.out];omega
      ·exact hall.out i (by omega)⟩
     case measure=>simp[intOf];omega
  ·obtain rfl:k=s.size:=by omega
   by_cases h0:s.size=0
   ·have:=IX s h0
    subst this
    go_wp2
    go_ret
    rw[←hB.out];exact⟨rfl,Below.refl _ _⟩
   ·have hemp:=Qw s h0
    go_wp2
    go_ret
    rw[←hB.out,(digB_iff s).2 ⟨h0,hall.out⟩];exact⟨rfl,Below.refl _ _⟩
theorem tpower_long (af zs:ByteArray)(ng:Bool)(w:World)(h:5<zs.size)
  (HC:yJ 102 #[.string af,.string ⟨#[45]⟩] (.tuple #[.string zs,.bool ng])):
  yC 104 #[.string af] w (yR w (.tuple #[yi 0,.bool false])):=by
 replace HC:Hid _:=HC
 go_enter Tryz.func104,Tryz.ntmps104
 have b0:=Below.refl w.heap.size w
 go_wp2_with fail
 refine(HC.out _).mono ?_;rintro zz w1 ⟨rfl,bb2⟩;have b3:=aa b0 bb2;clear b0 bb2 HC
 go_wp2
 go_ret2
 exact⟨rfl,b3⟩
theorem tpower_no (af zs:ByteArray)(ng:Bool)(w:World)(h:zs.size≤5)
  (HC:yJ 102 #[.string af,.string ⟨#[45]⟩] (.tuple #[.string zs,.bool ng]))
  (HD:yJ 105 #[.string zs] (.bool false)):
  yC 104 #[.string af] w (yR w (.tuple #[yi 0,.bool false])):=by
 replace HC:Hid _:=HC;replace HD:Hid _:=HD
 go_enter Tryz.func104,Tryz.ntmps104
 have b0:=Below.refl w.heap.size w
 go_wp2_with fail
 refine(HC.out _).mono ?_;rintro zz w1 ⟨rfl,bb2⟩;have b3:=aa b0 bb2;clear b0 bb2 HC
 go_wp2_with fail
 refine(HD.out _).mono ?_;rintro zz w4 ⟨rfl,bb5⟩;have b6:=aa b3 bb5;clear b3 bb5 HD
 go_wp2
 go_ret2
 exact⟨rfl,b6⟩
theorem tpower_plus (af zs:ByteArray)(n:Int)(w:World)(h:zs.size≤5)
  (HC:yJ 102 #[.string af,.string ⟨#[45]⟩] (.tuple #[.string zs,.bool false]))
  (HD:yJ 105 #[.string zs] (.bool true))
  (HA:yJ 150 #[.string zs] (.tuple #[yi n,.nilIface])):
  yC 104 #[.string af] w (yR w (.tuple #[yi n,.bool true])):=by
 replace HC:Hid _:=HC;replace HD:Hid _:=HD;replace HA:Hid _:=HA
 go_enter Tryz.func104,Tryz.ntmps104
 have b0:=Below.refl w.heap.size w
 go_wp2_with fail
 refine(HC.out _).mono ?_;rintro zz w1 ⟨rfl,bb2⟩;have b3:=aa b0 bb2;clear b0 bb2 HC
 go_wp2_with fail
 refine(HD.out _).mono ?_;rintro zz w4 ⟨rfl,bb5⟩;have b6:=aa b3 bb5;clear b3 bb5 HD
 go_wp2_with fail
 refine(HA.out _).mono ?_;rintro zz w7 ⟨rfl,bb8⟩;have b9:=aa b6 bb8;clear b6 bb8 HA
 go_wp2
 go_ret2
 exact⟨rfl,b9⟩
theorem tpower_minus (af zs:ByteArray)(n m:Int)(w:World)(h:zs.size≤5)(hm:IntKind.i64.wrap (-n)=m)
  (HC:yJ 102 #[.string af,.string ⟨#[45]⟩] (.tuple #[.string zs,.bool true]))
  (HD:yJ 105 #[.string zs] (.bool true))
  (HA:yJ 150 #[.string zs] (.tuple #[yi n,.nilIface])):
  yC 104 #[.string af] w (yR w (.tuple #[yi m,.bool true])):=by
 replace HC:Hid _:=HC;replace HD:Hid _:=HD;replace HA:Hid _:=HA
 go_enter Tryz.func104,Tryz.ntmps104
 have b0:=Below.refl w.heap.size w
 go_wp2_with fail
 refine(HC.out _).mono ?_;rintro zz w1 ⟨rfl,bb2⟩;have b3:=aa b0 bb2;clear b0 bb2 HC
 go_wp2_with fail
 refine(HD.out _).mono ?_;rintro zz w4 ⟨rfl,bb5⟩;have b6:=aa b3 bb5;clear b3 bb5 HD
 go_wp2_with fail
 refine(HA.out _).mono ?_;rintro zz w7 ⟨rfl,bb8⟩;have b9:=aa b6 bb8;clear b6 bb8 HA
 go_wp2
 go_ret2
 exact⟨rfl,b9⟩
theorem Wb (s:ByteArray)(hd: ∀i,i<s.size→48≤byt s i∧byt s i≤57)(hs:s.size≤12000)(p:Nat)(hp:p≤s.size):(Dg.dg 4294967296 (pv s p)).length≤12000:=by
 refine Nat.le_trans (Dg.dg_len_le 4294967296 _ p (by omega) ?_) (by omega);exact Nat.lt_of_lt_of_le (Tb s hd p hp) (Nat.pow_le_pow_left (by omega) p)
def ae3 (w:World)(s:ByteArray)(r:Nat)(tv av:Value)(wr:World):Prop:=
 ∃(p:Nat) (T:ByteArray),tv= .string T∧adS s T p∧T.size=r∧Own wr w.heap.size 54 .u32 av (Dg.dg 4294967296 (pv s p))∧yB w wr
def ae4 (s:ByteArray)(r:List Nat×Int):Prop:=
 (12000<s.size→r=([],2))∧(s.size≤12000→ ¬Pr s→r=([],1))∧(s.size≤12000→Pr s→r=lH (pv s s.size))
theorem JN {xs:List Nat}(hc:chk xs=0)(hx:xs.length≠0):Dg.vl 4294967296 xs≠0:=fun h=>by
 obtain⟨n1,-⟩:=aF hc;exact Dg.vl_ne_zero 4294967296 (by omega) xs (by intro e;subst e;simp at hx) n1 h
abbrev mM (r:ByteArray×Int×Int)(w:World)(z:Ending)(w':World):Prop:=z= .returned (.tuple #[.string r.1,yi r.2.1,yi r.2.2])∧yB w w'
def iZ (t:ak):Prop:=t.n<2^64∧ -16500≤t.e∧t.e≤16500
theorem afh (n er wy:Int)(her:er≠0)(qs:Bool)(ao:Option Addr)(la ca:Nat)(bo:Option Addr)(lb cb:Nat)(E:Int)(w:World)
  (HD:yJ 58 #[yi n] (.tuple #[ykV 0 0 0 0 0 0 0 false,yi er])):
  yC 23 #[yi n,yrV qs (.slice ao la ca) (.slice bo lb cb) E,yi wy] w (yR w (.tuple #[.string ⟨#[]⟩,yi 0,yi er])):=by
 replace HD:Hid _:=HD;have he:(er==0)=false:=by simpa using her
 clear her;have a0:=af w (.cells (yrA qs (.slice ao la ca) (.slice bo lb cb) E) 60)
 go_enter Tryz.func23,Tryz.ntmps23
 go_wp2_with fail
 refine(HD.out _).mono ?_;rintro z w1 ⟨rfl,b1⟩;have b2:=aa (aa a0 b1) (af w1 (.cells (ykA 0 0 0 0 0 0 0 false) 121));clear a0 b1
 go_upto_region 2 with fail
 generalize w1.alloc (.cells (ykA 0 0 0 0 0 0 0 false) 121)=W1 at b2⊢
 go_wp2
 go_ret3
 exact⟨rfl,b2⟩
def NmE (w:World)(r:(Bool×ByteArray×Int)×Int)(z:Ending)(w':World):Prop:=z= .returned (.tuple #[.agg #[.bool r.1.1,.string r.1.2.1,yi r.1.2.2],yi r.2])∧yB w w'
theorem small_one:Dg.Small 4294967296 [1]:=fun i=>by
 rcases i with- |i
 ·show 1<4294967296
  omega
 ·show([]:List Nat).getD i 0<4294967296
  simp
def dcG (x:ak):Int:=pbV ((bitLen x.n:Int)-1+x.e)
theorem textBegun_W (st:ByteArray)(w:World)
  (HP:yH w 14 #[yi 2,.string ⟨#[48,46,49]⟩,yi 1] (.tuple #[.string st,yi 1,yi 0]))
  (HS:yH w 17 #[yi 2,.string st] (.tuple #[.string ⟨#[49,101,45,49]⟩,yi 0])):
  yC 6 #[] w (yR w (.bool true)):=by
 replace HP:Hid _:=HP;replace HS:Hid _:=HS
 go_enter Tryz.func6,Tryz.ntmps6
 have b0:=Below.refl w.heap.size w
 go_wp2_with fail
 refine(HP.out _ b0).mono ?_;rintro zz w1 ⟨rfl,bb2⟩;have b3:=aa b0 bb2;clear b0 bb2 HP
 go_wp2_with fail
 refine(HS.out _ b3).mono ?_;rintro zz w4 ⟨rfl,bb5⟩;have b6:=aa b3 bb5;clear b3 bb5 HS
 go_wp2
 go_ret
 exact⟨by simp,b6⟩
theorem VI (n c:Int)(g:Bool)(s:ByteArray)(w:World)
  (HC:yJ 51 #[yi n,.string s] (.tuple #[yi c,.bool g,yi 0])):
  yC 18 #[yi n,.string s] w (yR w (yi c)):=by
 replace HC:Hid _:=HC
 go_enter Tryz.func18,Tryz.ntmps18
 have b0:=Below.refl w.heap.size w
 go_wp2_with fail
 refine(HC.out _).mono ?_;rintro zz w1 ⟨rfl,bb2⟩;have b3:=aa b0 bb2;clear b0 bb2 HC
 go_wp2
 go_ret
 exact⟨rfl,b3⟩
theorem pv_list (x:List UInt8): ∀k,k≤x.length→pv ⟨x.toArray⟩ k=lvD (x.take k):=by
 intro k
 induction k with
 |zero=>intro _;rfl
 |succ k ih=>
  intro h;have e:x.take (k+1)=x.take k++[x[k]]:=by rw[List.take_succ_eq_append_getElem (by omega)]
  rw[e,lvD_snoc,←ih (by omega)]
  show pv _ k*10+(byt _ k-48)=_
  rw[byt_list x k (by omega)]
theorem pv_all (x:List UInt8):pv ⟨x.toArray⟩ x.length=lvD x:=by
 rw[pv_list x _ (Nat.le_refl _),List.take_length]
theorem nmL_print {S:List UInt8}(hS: ∀b∈S,isDg b=true)(h0:S≠[]){N:Int}(h1: -100000<N)(h2:N<100000):
  nmL ((if 1<S.length then S.take 1++46::S.drop 1 else S)++101::Lib.itoa N)=some (S,N-((S.length-1:Nat):Int)):=by
 have n46:(46:UInt8)∉S:=dig_ne (by decide) hS;have n101:(101:UInt8)∉S:=dig_ne (by decide) hS;have hb:(101:UInt8)∉(if 1<S.length then S.take 1++46::S.drop 1 else S):=by
  split
  ·intro c
   rcases List.mem_append.1 c with c|c
   ·exact n101 (List.mem_of_mem_take c)
   ·rcases List.mem_cons.1 c with c|c
    ·exact absurd c (by decide)
    ·exact n101 (List.mem_of_mem_drop c)
  ·exact n101
 unfold nmL;rw[cutc_app 101 _ _ hb];simp only
 by_cases hk:1<S.length
 ·rw[if_pos hk,cutc_app 46 (S.take 1) (S.drop 1) (fun c=>n46 (List.mem_of_mem_take c))]
  simp only;rw[List.take_append_drop];have hd:S.drop 1≠[]:=fun c=>by
   have:=congrArg List.length c;rw[List.length_drop,List.length_nil] at this;omega
  rw[if_neg (by rintro(c|c|c);exact h0 c;exact c hS;exact hd c.2),if_true,rpL_itoa h1 h2,List.length_drop]
  rfl
 ·rw[if_neg hk,cutc_none 46 S n46]
  simp only;rw[List.append_nil,if_neg (by rintro(c|c|c);exact h0 c;exact c hS;cases c.1),if_true,rpL_itoa h1 h2]
  have:S.length-1=0:=by omega
  rw[this];rfl
theorem dg_len0 {B n:Nat}(hB:2≤B):(Dg.dg B n).length=0↔n=0:=by rw[List.length_eq_zero_iff,Dg.dg_nil_iff B _ hB]
end Go.Proofs.YtlgkfdcmokchgaaGreatDoor
