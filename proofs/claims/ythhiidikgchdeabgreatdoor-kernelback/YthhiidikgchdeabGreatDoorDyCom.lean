/-
  What the frames of the laws on dyads have in common: the library's table, laid; a dyad that came in, opened.
-/
import Derived.Test.YthhiidikgchdeabGreatDoorChecked
import Derived.Test.YthhiidikgchdeabGreatDoorRows
import Derived.Test.YthhiidikgchdeabGreatDoorTie
import Derived.Test.YthhiidikgchdeabGreatDoorCards
import Derived.ProofKit
import Derived.ShutString
import Derived.ChangeOld
import Derived.Below
import Derived.LaidMore
import Derived.SevenTiedAt
import Derived.Lib.SmallJoins
import Derived.Lib.LaidTab
import Derived.Test.YthhiidikgchdeabGreatDoorLb01
import Derived.Test.YthhiidikgchdeabGreatDoorLb02
import Derived.Test.YthhiidikgchdeabGreatDoorLb06
import Derived.Test.YthhiidikgchdeabGreatDoorLb43
import Derived.Test.YthhiidikgchdeabGreatDoorLb07
import Derived.Test.YthhiidikgchdeabGreatDoorLb12
import Derived.Test.YthhiidikgchdeabGreatDoorLb14
import Derived.Test.YthhiidikgchdeabGreatDoorLb21
import Derived.Test.YthhiidikgchdeabGreatDoorLb08
import Derived.Test.YthhiidikgchdeabGreatDoorLb10
import Derived.Test.YthhiidikgchdeabGreatDoorLb11
import Derived.Test.YthhiidikgchdeabGreatDoorLb13
import Derived.Test.YthhiidikgchdeabGreatDoorLb17
import Derived.Test.YthhiidikgchdeabGreatDoorLb33
set_option maxRecDepth 100000
namespace Go.Proofs.YthhiidikgchdeabGreatDoor.dy
open Go.ChangeShapes Go.WideShapes Go.ChangeAt Go.RowKit Go.Joins
theorem own:ownKnob Tryz.prog.godebug=none:=by kernel_rfl
theorem laidOut:laidOutB Tryz.prog=true:=by kernel_rfl
theorem cellsD:Tryz.prog.cellsOf 25=3:=by kernel_rfl
theorem cellsT:Tryz.prog.cellsOf 133=32:=by kernel_rfl
theorem cellsU:Tryz.prog.cellsOf 5=1:=by kernel_rfl
theorem gTab:Tryz.prog.globalNamed (Rows.kernelCircleRow.laid.headD (Rows.kernelCircleRow.func,.nil)).1=some 0:=by kernel_rfl
theorem tTab:(Tryz.prog.globals[0]?).map (·.type)=some 133:=by kernel_rfl
theorem door_met (os:Os)(args:Array Value):laidMetH Tryz.prog Rows.kernelCircleRow.laid ((World.doorLaid Tryz.prog 400 os).forCall (fun _ _=>0) ⟨#[],args,[]⟩).memory:=
 laidMetH_of_parts3 (fuel:=8) (laidMet_of_run' 8 (by kernel_rfl) (by kernel_rfl)) (by kernel_rfl) (by kernel_rfl)
theorem tab_of_laid {W:World}(h:laidMetH Tryz.prog Rows.kernelCircleRow.laid W):Tab W:=by
 rw[MakeChecks.laidMetH_plain _ _ _ (by kernel_rfl)] at h;obtain⟨ps,⟨g0,t0,cs0,f0,p0,q0,hg0,ht0,hv0,hd0,_⟩,_⟩:=h;obtain rfl:=Option.some.inj (gTab.symm.trans hg0);obtain rfl:=Option.some.inj (tTab.symm.trans ht0);intro j hj;have hc:=Lib.cells_of_tab (zs:=Lib.deBruijn32tab.map (fun n:Nat=>(n:Int))) Tryz.underlying133 Tryz.underlying5 cellsU cellsT hd0
 have hv:=World.var?_cell hg0 hv0 j;have hl:j<Lib.deBruijn32tab.length:=hj;rw[hv,←Array.getElem?_toList,hc,List.getElem?_map,List.getElem?_map,List.getElem?_eq_getElem hl];simp[List.getD_eq_getElem?_getD,List.getElem?_eq_getElem hl]
theorem bool_of {H:Type}{enc:TypeId×Value→H}{P:Program}{w:World}{base:Nat}{spare:Nat→Bool}{held:Bool}{fuel:Nat}{t:TypeId}{cs:List Value}{x:DataW H×List MemPlace}(ht:P.underlying t=some .bool)(h:DataW.trod enc P w base spare held fuel t cs=some x): ∃b,cs=[.bool b]:=by
 cases fuel with
 |zero=>simp[DataW.trod] at h
 |succ n=>
  unfold DataW.trod at h;rw[ht] at h
  split at h<;>simp_all
theorem open_dyad {H:Type}{enc:TypeId×Value→H}{W:World}{base:Nat}{v:Value}{d:DataW H}{p:List MemPlace}(hv:Value.okWide Tryz.prog W .any base 25 v)(h:DataW.Trod enc Tryz.prog W 0 (fun _=>true) true 25 v d p):
  ∃(s:Bool) (ao:Option Addr) (ca:Nat) (xs:List Nat) (e:Int),v=(ydV s (.slice ao xs.length ca) e)∧Rd W .u32 (.slice ao xs.length ca) xs∧Dg.Small 4294967296 xs∧(Lit.int .i64 e).wf=true:=by
 obtain⟨c0,c1,c2,y0,y1,y2,n,rfl,-,-,h0,h1,h2⟩:=open_agg3 Tryz.underlying25 (by kernel_rfl) cellsD hv h;obtain⟨e,he,-,hw⟩:=DataW.trod_int Tryz.underlying3 h2;obtain⟨s,hs⟩:=bool_of Tryz.underlying4 h0;simp at hs;obtain⟨xs,ao,ca,hc1,hr,hsm⟩: ∃(xs:List Nat) (ao:Option Addr) (ca:Nat),c1= .slice ao xs.length ca∧Rd W .u32 (.slice ao xs.length ca) xs∧Dg.Small 4294967296 xs:=by
  rcases open_ints Tryz.underlying23 Tryz.underlying36 (by kernel_rfl) h1 with⟨hcs,_⟩| ⟨x,l,c,zs,hcs,_,hl,hm,hz,_,hcell,hwz⟩
  ·simp at hcs
   exact⟨[],none,0,hcs,aN _ _,Dg.small_nil _ (by omega)⟩
  ·simp at hcs
   obtain⟨xs,hr,hsm⟩:=uw (w:=W) (a:=some x) (len:=l) (cap:=c) (zs:=zs) (.inr ⟨x,rfl,hl,hm,by simpa using hz,hcell,hwz⟩);obtain⟨ao,ca,hv⟩:=hr.shape;exact⟨xs,ao,ca,hcs.trans hv,hv▸hr,hsm⟩
 simp at he;subst he hs hc1;exact⟨s,ao,ca,xs,e,rfl,hr,hsm,hw⟩
theorem open_int' {H:Type}{enc:TypeId×Value→H}{W:World}{base:Nat}{v:Value}{d:DataW H}{p:List MemPlace}(hv:Value.okWide Tryz.prog W .any base 3 v)(h:DataW.Trod enc Tryz.prog W 0 (fun _=>true) true 3 v d p):
  ∃n:Int,v=yi n∧(Lit.int .i64 n).wf=true:=by
 obtain⟨n,rfl,-,-,hw⟩:=open_int Tryz.underlying3 hv h;exact⟨n,rfl,hw⟩
theorem open_bool' {H:Type}{enc:TypeId×Value→H}{W:World}{base:Nat}{v:Value}{d:DataW H}{p:List MemPlace}(hv:Value.okWide Tryz.prog W .any base 4 v)(h:DataW.Trod enc Tryz.prog W 0 (fun _=>true) true 4 v d p):
  ∃b:Bool,v= .bool b:=by
 obtain⟨b,rfl,-,-⟩:=open_bool Tryz.underlying4 hv h;exact⟨b,rfl⟩
theorem and_mk {a b:Bool}(ha:a=true)(hb:b=true):(a&&b)=true:=by rw[ha,hb];rfl
theorem words_cut (a r:List Char)(h: ∀c∈a,c≠Char.ofNat 32):wordsSigns (a++Char.ofNat 32::r)=a::wordsSigns r:=by
 induction a with
 |nil=>rfl
 |cons c a ih=>
  have h1:c≠Char.ofNat 32:=h c (by simp);have h2:=ih (fun x hx=>h x (by simp[hx]))
  show wordsSigns (c::(a++Char.ofNat 32::r))=_
  rw[wordsSigns]
  ·rw[h2]
  ·intro e;exact h1 e
theorem initS:Tryz.prog.initOrder= "harness" ++(" " ++("fbe7ea0c5842408c68ea263e49b2eceaf02ad0c8eaaed8d2f836760094de999e" ++(" " ++("cut" ++(" " ++ "at slipstick/slipsticklaw.KernelCircle slipstick/slipsticklaw.KernelBack"))))):=by kernel_rfl
theorem blank:(" " :String).toList=[Char.ofNat 32]:=by decide+kernel
theorem no_blank1: ∀c∈("harness" :String).toList,c≠Char.ofNat 32:=by decide+kernel
theorem no_blank2: ∀c∈("fbe7ea0c5842408c68ea263e49b2eceaf02ad0c8eaaed8d2f836760094de999e" :String).toList,c≠Char.ofNat 32:=by decide+kernel
theorem no_blank3: ∀c∈("cut" :String).toList,c≠Char.ofNat 32:=by decide+kernel
theorem sum_signs:isSumSigns ("fbe7ea0c5842408c68ea263e49b2eceaf02ad0c8eaaed8d2f836760094de999e" :String).toList=true:=by decide+kernel
theorem words_of {P:Program}{s r:String}(h:P.initOrder= "harness" ++(" " ++(s++(" " ++("cut" ++(" " ++r))))))(hn: ∀c∈s.toList,c≠Char.ofNat 32):
  wordsSigns P.initOrder.toList=("harness" :String).toList::s.toList::("cut" :String).toList::wordsSigns r.toList:=by
 rw[h,String.toList_append,String.toList_append,String.toList_append,String.toList_append,String.toList_append,String.toList_append,blank];simp only[List.singleton_append];rw[words_cut _ _ no_blank1,words_cut _ _ hn,words_cut _ _ no_blank3]
theorem main_of {P:Program}{s:List Char}{ws:List (List Char)}(h:wordsSigns P.initOrder.toList=("harness" :String).toList::s::ws)(hs:isSumSigns s=true):P.mainIs=some (true,s):=by
 unfold Program.mainIs;rw[h];simp only[hs,Bool.not_true,Bool.false_eq_true,if_false,beq_self_eq_true,if_true]
theorem behind_of {P:Program}{s:List Char}{ws:List (List Char)}(h:wordsSigns P.initOrder.toList=("harness" :String).toList::s::ws)(hs:isSumSigns s=true):behindMainWord (wordsSigns P.initOrder.toList)=ws:=by
 rw[h];unfold behindMainWord;simp only[hs,beq_self_eq_true,Bool.true_or,Bool.and_true,if_true]
theorem strip_none (w:List Char)(ws:List (List Char)): ∀os:List String,(∀o∈os,(w==o.toList)=false)→stripLifts os (w::ws)=([],w::ws)
 | [],_=>rfl
 |o::os,h=>by
  rw[stripLifts,if_neg (by rw[h o (by simp)];decide)];exact strip_none w ws os (fun x hx=>h x (by simp[hx]))
theorem cut_none: ∀o∈liftWords,(("cut" :String).toList==o.toList)=false:=by decide+kernel
theorem cut_gc:(("cut" :String).toList==("gc" :String).toList)=false:=by decide+kernel
theorem cut_spec:(("cut" :String).toList==("spec" :String).toList)=false:=by decide+kernel
theorem cut_carried:(("cut" :String).toList==("carried" :String).toList)=false:=by decide+kernel
theorem lifts_of {P:Program}{s:List Char}{ws:List (List Char)}(h:wordsSigns P.initOrder.toList=("harness" :String).toList::s::("cut" :String).toList::ws)(hs:isSumSigns s=true):P.headLifts=[]:=by
 unfold Program.headLifts;rw[behind_of h hs,strip_none _ _ _ cut_none];simp
theorem make_of {P:Program}{s:List Char}{ws:List (List Char)}(h:wordsSigns P.initOrder.toList=("harness" :String).toList::s::("cut" :String).toList::ws)(hs:isSumSigns s=true):P.make=some .cut:=by
 unfold Program.make;rw[behind_of h hs];simp only[cut_gc,cut_spec,Bool.or_self,Bool.false_eq_true,if_false,beq_self_eq_true,Bool.true_or,if_true]
theorem final_of {P:Program}{s:List Char}{ws:List (List Char)}(h:wordsSigns P.initOrder.toList=("harness" :String).toList::s::("cut" :String).toList::ws)(hs:isSumSigns s=true):P.liftsFinal=false:=by
 unfold Program.liftsFinal;rw[behind_of h hs,lifts_of h hs];have e:((some ("cut" :String).toList:Option (List Char))==some ("carried" :String).toList)=false:=by decide+kernel
 simp only[List.head?_cons,e,Bool.false_and,List.contains_nil,Bool.or_self]
theorem enter_of {P:Program}{s:List Char}{ws:List (List Char)}(h:wordsSigns P.initOrder.toList=("harness" :String).toList::s::("cut" :String).toList::ws)(hs:isSumSigns s=true)
  (h1:P.laysLater=false) (h2:P.bearsReflect=false) (h3:P.doorFits []=true):P.mayEnter=true:=by
 unfold Program.mayEnter;rw[behind_of h hs];simp only[strip_none _ _ _ cut_none,h1,h2,h3,List.head?_cons,beq_self_eq_true,List.contains_nil,Bool.not_false,Bool.or_true,Bool.and_self]
theorem words_is:wordsSigns Tryz.prog.initOrder.toList=("harness" :String).toList::("fbe7ea0c5842408c68ea263e49b2eceaf02ad0c8eaaed8d2f836760094de999e" :String).toList::("cut" :String).toList::wordsSigns ("at slipstick/slipsticklaw.KernelCircle slipstick/slipsticklaw.KernelBack" :String).toList:=words_of initS no_blank2
theorem main_is:Tryz.prog.mainIs=some (true,("fbe7ea0c5842408c68ea263e49b2eceaf02ad0c8eaaed8d2f836760094de999e" :String).toList):=main_of words_is sum_signs
theorem make_is:Tryz.prog.make=some .cut:=make_of words_is sum_signs
theorem final_is:Tryz.prog.liftsFinal=false:=final_of words_is sum_signs
theorem enter_is:Tryz.prog.mayEnter=true:=enter_of words_is sum_signs (by kernel_rfl) (by kernel_rfl) (by kernel_rfl)
end Go.Proofs.YthhiidikgchdeabGreatDoor.dy
