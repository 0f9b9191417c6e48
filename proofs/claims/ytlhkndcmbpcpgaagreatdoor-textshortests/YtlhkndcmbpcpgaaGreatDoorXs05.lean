/- Texts laid together. -/
import Derived.Test.YtlhkndcmbpcpgaaGreatDoorRows
import Derived.Test.YtlhkndcmbpcpgaaGreatDoorTie
import Derived.Test.YtlhkndcmbpcpgaaGreatDoorCards
import Derived.ProofKit
import Derived.ShutString
import Derived.ChangeOld
import Derived.Below
import Derived.LaidMore
import Derived.SevenTiedAt
import Derived.Lib.SmallJoins
import Derived.Lib.LaidTab
import Derived.Lib.Strings
import Derived.Laws.ResultCell
import Derived.ChangeMaps4
import Derived.Deep.DeepCutAuto
import Derived.Laws.IdiomStrings
import Derived.Deep.AppendLies
import Derived.Deep.RegionWith
import Derived.Laws.OwnMore
import Derived.Deep.CutBlock
import Derived.Maps.AppendAt
import Derived.Shelf.Lay
import Derived.Shelf.Strings.Cut
import Derived.Shelf.Small.Wraps
import Derived.Shelf.Strconv.Atoi
import Derived.Shelf.Strconv.Itoa3
import Derived.Lib.AppendIntMem
import Derived.Lib.ItoaLen
import Derived.Test.YtlhkndcmbpcpgaaGreatDoorXs01
set_option maxRecDepth 100000
set_option maxHeartbeats 3200000
namespace Go.Proofs.YtlhkndcmbpcpgaaGreatDoor
open Go.RowKit
def aG (a b:ak):ak:=
 let e:=min a.e b.e
 let x:=a.n*2^ (a.e-e).toNat
 let y:=b.n*2^ (b.e-e).toNat
 if a.s=b.s then⟨a.s,x+y,e⟩ else if x<y then⟨b.s,y-x,e⟩ else⟨a.s,x-y,e⟩
theorem Y6 (s t:Bool)(x y:Nat):sz s x+sz t y=if s=t then sz s (x+y) else if x<y then sz t (y-x) else sz s (x-y):=by
 unfold sz
 cases s<;>cases t<;>simp<;>(try split)<;>omega
def dV (a:ak):ak:=⟨!a.s,a.n,a.e⟩
def sgn (z:Int):Int:=if z=0 then 0 else if z<0 then-1 else 1
def Z7 (xs ys ps:List Nat)(k c:Nat):Prop:=
 ps.length=xs.length∧Dg.Small 4294967296 ps∧c≤1∧Dg.vl 4294967296 (xs.take k)+4294967296^k*c=Dg.vl 4294967296 (ps.take k)+Dg.vl 4294967296 (ys.take k)
theorem Z8 {xs a b:List Nat}{c:Nat}(h:Z7 xs a b xs.length c)(j:a.length≤xs.length)(m:Dg.vl 4294967296 a≤Dg.vl 4294967296 xs):Dg.vl 4294967296 b=Dg.vl 4294967296 xs-Dg.vl 4294967296 a:=by
 obtain⟨d,f,l,g⟩:=h;rw[List.take_of_length_le (Nat.le_refl xs.length),List.take_of_length_le j,List.take_of_length_le (by omega)] at g;have k:=Dg.vl_lt 4294967296 b f;rw[d] at k;have i:c=0:=by
  rcases Nat.eq_zero_or_pos c with e|e
  ·exact e
  ·have:c=1:=by omega
   subst this;omega
 subst i;omega
theorem iK (b:Bool)(a:Option Addr)(n c:Nat)(e:Int)(w:World):yC 158 #[ydV b (.slice a n c) e] w (yR w (ydV b (.slice a n c) e)):=by
 go_enter Tryz.func158,Tryz.ntmps158
 go_wp2
 go_returns
 exact⟨rfl,((Below.refl _ _).alloc (Nat.le_refl _) _).alloc (by simp[World.size_alloc]) _⟩
end Go.Proofs.YtlhkndcmbpcpgaaGreatDoor
namespace Go.Proofs.YtlhkndcmbpcpgaaGreatDoor.dy
open Go.ChangeShapes Go.WideShapes Go.ChangeAt Go.RowKit Go.Joins
theorem own:ownKnob Tryz.prog.godebug=none:=by kernel_rfl
theorem laidOut:laidOutB Tryz.prog=true:=by kernel_rfl
theorem cellsT:Tryz.prog.cellsOf 252=32:=by kernel_rfl
theorem cellsU:Tryz.prog.cellsOf 5=1:=by kernel_rfl
theorem gTab:Tryz.prog.globalNamed (Rows.textShortestsRow.laid.headD (Rows.textShortestsRow.func,.nil)).1=some 2:=by kernel_rfl
theorem tTab:(Tryz.prog.globals[2]?).map (·.type)=some 252:=by kernel_rfl
theorem door_met (os:Os)(a:Array Value):laidMetH Tryz.prog Rows.textShortestsRow.laid ((World.doorLaid Tryz.prog 400 os).forCall (fun _ _=>0) ⟨#[],a,[]⟩).memory:=
 laidMetH_of_parts3 (fuel:=8) (laidMet_of_run' 8 (by kernel_rfl) (by kernel_rfl)) (by kernel_rfl) (by kernel_rfl)
theorem tab_of_laid {W:World}(h:laidMetH Tryz.prog Rows.textShortestsRow.laid W):Tab W:=by
 rw[MakeChecks.laidMetH_plain _ _ _ (by kernel_rfl)] at h;obtain⟨p,⟨m,r,k,l,o,q,a,f,i,d,_⟩,_⟩:=h;obtain rfl:=Option.some.inj (gTab.symm.trans a);obtain rfl:=Option.some.inj (tTab.symm.trans f);intro j e;have c:=Lib.cells_of_tab (zs:=Lib.deBruijn32tab.map (fun n:Nat=>(n:Int))) Tryz.underlying252 Tryz.underlying5 cellsU cellsT d
 have g:=World.var?_cell a i j;have b:j<Lib.deBruijn32tab.length:=e;rw[g,←Array.getElem?_toList,c,List.getElem?_map,List.getElem?_map,List.getElem?_eq_getElem b];simp[List.getD_eq_getElem?_getD,List.getElem?_eq_getElem b]
theorem open_int' {H:Type}{enc:TypeId×Value→H}{W:World}{base:Nat}{v:Value}{d:DataW H}{p:List MemPlace}(a:Value.okWide Tryz.prog W .any base 3 v)(h:DataW.Trod enc Tryz.prog W 0 (fun _=>true) true 3 v d p):
  ∃n:Int,v=yi n∧(Lit.int .i64 n).wf=true:=by
 obtain⟨n,rfl,-,-,b⟩:=open_int Tryz.underlying3 a h;exact⟨n,rfl,b⟩
theorem and_mk {a b:Bool}(c:a=true)(d:b=true):(a&&b)=true:=by rw[c,d];rfl
theorem words_cut (a r:List Char)(h: ∀c∈a,c≠Char.ofNat 32):wordsSigns (a++Char.ofNat 32::r)=a::wordsSigns r:=by
 induction a with
 |nil=>rfl
 |cons c a ih=>
  have b:c≠Char.ofNat 32:=h c (by simp);have d:=ih (fun x f=>h x (by simp[f]))
  show wordsSigns (c::(a++Char.ofNat 32::r))=_
  rw[wordsSigns]
  ·rw[d]
  ·intro e;exact b e
theorem initS:Tryz.prog.initOrder= "harness" ++(" " ++("b72b1fbb015a698834eb9c29836148e74bf33a4229d5e338309047ec93dc55f2" ++(" " ++("cut" ++(" " ++ "at slipstick/slipsticklaw.TextShortests"))))):=by kernel_rfl
theorem blank:(" " :String).toList=[Char.ofNat 32]:=by decide+kernel
theorem no_blank1: ∀c∈("harness" :String).toList,c≠Char.ofNat 32:=by decide+kernel
theorem no_blank2: ∀c∈("b72b1fbb015a698834eb9c29836148e74bf33a4229d5e338309047ec93dc55f2" :String).toList,c≠Char.ofNat 32:=by decide+kernel
theorem no_blank3: ∀c∈("cut" :String).toList,c≠Char.ofNat 32:=by decide+kernel
theorem sum_signs:isSumSigns ("b72b1fbb015a698834eb9c29836148e74bf33a4229d5e338309047ec93dc55f2" :String).toList=true:=by decide+kernel
theorem words_of {P:Program}{s r:String}(h:P.initOrder= "harness" ++(" " ++(s++(" " ++("cut" ++(" " ++r))))))(a: ∀c∈s.toList,c≠Char.ofNat 32):
  wordsSigns P.initOrder.toList=("harness" :String).toList::s.toList::("cut" :String).toList::wordsSigns r.toList:=by
 rw[h,String.toList_append,String.toList_append,String.toList_append,String.toList_append,String.toList_append,String.toList_append,blank];simp only[List.singleton_append];rw[words_cut _ _ no_blank1,words_cut _ _ a,words_cut _ _ no_blank3]
theorem main_of {P:Program}{s:List Char}{b:List (List Char)}(h:wordsSigns P.initOrder.toList=("harness" :String).toList::s::b)(a:isSumSigns s=true):P.mainIs=some (true,s):=by
 unfold Program.mainIs;rw[h];simp only[a,Bool.not_true,Bool.false_eq_true,if_false,beq_self_eq_true,if_true]
theorem behind_of {P:Program}{s:List Char}{a:List (List Char)}(h:wordsSigns P.initOrder.toList=("harness" :String).toList::s::a)(b:isSumSigns s=true):behindMainWord (wordsSigns P.initOrder.toList)=a:=by
 rw[h];unfold behindMainWord;simp only[b,beq_self_eq_true,Bool.true_or,Bool.and_true,if_true]
theorem strip_none (w:List Char)(a:List (List Char)): ∀os:List String,(∀o∈os,(w==o.toList)=false)→stripLifts os (w::a)=([],w::a)
 | [],_=>rfl
 |o::os,h=>by
  rw[stripLifts,if_neg (by rw[h o (by simp)];decide)];exact strip_none w a os (fun x b=>h x (by simp[b]))
theorem cut_none: ∀o∈liftWords,(("cut" :String).toList==o.toList)=false:=by decide+kernel
theorem cut_gc:(("cut" :String).toList==("gc" :String).toList)=false:=by decide+kernel
theorem cut_spec:(("cut" :String).toList==("spec" :String).toList)=false:=by decide+kernel
theorem lifts_of {P:Program}{s:List Char}{b:List (List Char)}(h:wordsSigns P.initOrder.toList=("harness" :String).toList::s::("cut" :String).toList::b)(a:isSumSigns s=true):P.headLifts=[]:=by
 unfold Program.headLifts;rw[behind_of h a,strip_none _ _ _ cut_none];simp
theorem make_of {P:Program}{s:List Char}{b:List (List Char)}(h:wordsSigns P.initOrder.toList=("harness" :String).toList::s::("cut" :String).toList::b)(a:isSumSigns s=true):P.make=some .cut:=by
 unfold Program.make;rw[behind_of h a];simp only[cut_gc,cut_spec,Bool.or_self,Bool.false_eq_true,if_false,beq_self_eq_true,Bool.true_or,if_true]
theorem final_of {P:Program}{s:List Char}{b:List (List Char)}(h:wordsSigns P.initOrder.toList=("harness" :String).toList::s::("cut" :String).toList::b)(a:isSumSigns s=true):P.liftsFinal=false:=by
 unfold Program.liftsFinal;rw[behind_of h a,lifts_of h a];have e:((some ("cut" :String).toList:Option (List Char))==some ("carried" :String).toList)=false:=by decide+kernel
 simp only[List.head?_cons,e,Bool.false_and,List.contains_nil,Bool.or_self]
theorem enter_of {P:Program}{s:List Char}{e:List (List Char)}(h:wordsSigns P.initOrder.toList=("harness" :String).toList::s::("cut" :String).toList::e)(d:isSumSigns s=true)
  (a:P.laysLater=false) (b:P.bearsReflect=false) (c:P.doorFits []=true):P.mayEnter=true:=by
 unfold Program.mayEnter;rw[behind_of h d];simp only[strip_none _ _ _ cut_none,a,b,c,List.head?_cons,beq_self_eq_true,List.contains_nil,Bool.not_false,Bool.or_true,Bool.and_self]
theorem words_is:wordsSigns Tryz.prog.initOrder.toList=("harness" :String).toList::("b72b1fbb015a698834eb9c29836148e74bf33a4229d5e338309047ec93dc55f2" :String).toList::("cut" :String).toList::wordsSigns ("at slipstick/slipsticklaw.TextShortests" :String).toList:=words_of initS no_blank2
theorem main_is:Tryz.prog.mainIs=some (true,("b72b1fbb015a698834eb9c29836148e74bf33a4229d5e338309047ec93dc55f2" :String).toList):=main_of words_is sum_signs
theorem make_is:Tryz.prog.make=some .cut:=make_of words_is sum_signs
theorem final_is:Tryz.prog.liftsFinal=false:=final_of words_is sum_signs
theorem enter_is:Tryz.prog.mayEnter=true:=enter_of words_is sum_signs (by kernel_rfl) (by kernel_rfl) (by kernel_rfl)
end Go.Proofs.YtlhkndcmbpcpgaaGreatDoor.dy
namespace Go.Proofs.YtlhkndcmbpcpgaaGreatDoor
open Go.RowKit
theorem IX (s:ByteArray)(h:s.size=0):s=⟨#[]⟩:=by
 obtain⟨d⟩:=s;simp only[ByteArray.size] at h;have:=Array.eq_empty_of_size_eq_zero h;rw[this]
theorem Qw (s:ByteArray)(h:s.size≠0):s.toList.isEmpty=false:=by
 rw[Lib.toList_data];rw[List.isEmpty_eq_false_iff];intro e;apply h;have:=congrArg List.length e;rw[Array.length_toList] at this;exact this
theorem au.cs8 {w:World}{b:Nat}{m:TypeId}{a d e f g i j k:Value}{l:List Value}(h:au w b m (a::d::e::f::g::i::j::k::l)):w.cell? ⟨b,0,none⟩=some a∧w.cell? ⟨b,1,none⟩=some d∧w.cell? ⟨b,2,none⟩=some e∧w.cell? ⟨b,3,none⟩=some f∧w.cell? ⟨b,4,none⟩=some g∧w.cell? ⟨b,5,none⟩=some i∧w.cell? ⟨b,6,none⟩=some j∧w.cell? ⟨b,7,none⟩=some k:=⟨h.c 0 rfl,h.c 1 rfl,h.c 2 rfl,h.c 3 rfl,h.c 4 rfl,h.c 5 rfl,h.c 6 rfl,h.c 7 rfl⟩
def gR (w:World)(r:ak×Int)(e:Ending)(w':World):Prop:=
 ∃s,e= .returned (.tuple #[ydV r.1.s s r.1.e,yi r.2])∧Own w' w.heap.size 105 .u32 s (Dg.dg 4294967296 r.1.n)∧yB w w'
def RVF (w:World)(c:Int)(g:Bool)(t:ak)(fl:Int)(z:Ending)(w':World):Prop:=
 ∃s,z= .returned (.tuple #[yoV c g t.s s t.e,yi fl])∧Rd w' .i64 s (Dg.dg 65536 t.n)∧yB w w'
theorem afy {P:Program}{i w:World}{n b:Nat}{f:TypeId}{q r s:Value}{d:TypeDesc}(h:au w b f [q,r,s])(k:Below n i w)(o:n≤b)(p:P.underlying f=some d)(l:d.isRow=true)(m:(P.info? f).map (·.size)=some 3)(a c e:Value):
  (loadVar f ⟨b,0,none⟩).run P (((w.setCell ⟨b,0,none⟩ a).setCell ⟨b,1,none⟩ c).setCell ⟨b,2,none⟩ e)= .ok (.agg #[a,c,e]) (((w.setCell ⟨b,0,none⟩ a).setCell ⟨b,1,none⟩ c).setCell ⟨b,2,none⟩ e)∧Below n i (((w.setCell ⟨b,0,none⟩ a).setCell ⟨b,1,none⟩ c).setCell ⟨b,2,none⟩ e)∧But b w (((w.setCell ⟨b,0,none⟩ a).setCell ⟨b,1,none⟩ c).setCell ⟨b,2,none⟩ e):=by
 have j:au (((w.setCell ⟨b,0,none⟩ a).setCell ⟨b,1,none⟩ c).setCell ⟨b,2,none⟩ e) b f [a,c,e]:=(((h.set 0 a).set 1 c).set 2 e);have g:=((ag w b 0 a).trans (ag _ b 1 c)).trans (ag _ b 2 e);exact⟨run_loadVar_mid (P:=P) _ b 0 f [a,c,e] _ j.range p l m,g.below k o,g⟩
theorem dL {P:Program}{k w:World}{n b:Nat}{i:TypeId}{s t u v x:Value}{d:TypeDesc}(h:au w b i [s,t,u,v,x])(m:Below n k w)(q:n≤b)(r:P.underlying i=some d)(o:d.isRow=true)(p:(P.info? i).map (·.size)=some 5)(a c e f g:Value):
  (loadVar i ⟨b,0,none⟩).run P (((((w.setCell ⟨b,0,none⟩ a).setCell ⟨b,1,none⟩ c).setCell ⟨b,2,none⟩ e).setCell ⟨b,3,none⟩ f).setCell ⟨b,4,none⟩ g)= .ok (.agg #[a,c,e,f,g]) (((((w.setCell ⟨b,0,none⟩ a).setCell ⟨b,1,none⟩ c).setCell ⟨b,2,none⟩ e).setCell ⟨b,3,none⟩ f).setCell ⟨b,4,none⟩ g)∧Below n k (((((w.setCell ⟨b,0,none⟩ a).setCell ⟨b,1,none⟩ c).setCell ⟨b,2,none⟩ e).setCell ⟨b,3,none⟩ f).setCell ⟨b,4,none⟩ g)∧But b w (((((w.setCell ⟨b,0,none⟩ a).setCell ⟨b,1,none⟩ c).setCell ⟨b,2,none⟩ e).setCell ⟨b,3,none⟩ f).setCell ⟨b,4,none⟩ g):=by
 have l:au (((((w.setCell ⟨b,0,none⟩ a).setCell ⟨b,1,none⟩ c).setCell ⟨b,2,none⟩ e).setCell ⟨b,3,none⟩ f).setCell ⟨b,4,none⟩ g) b i [a,c,e,f,g]:=(((((h.set 0 a).set 1 c).set 2 e).set 3 f).set 4 g);have j:=((((ag w b 0 a).trans (ag _ b 1 c)).trans (ag _ b 2 e)).trans (ag _ b 3 f)).trans (ag _ b 4 g);exact⟨run_loadVar_mid (P:=P) _ b 0 i [a,c,e,f,g] _ l.range r o p,j.below m q,j⟩
theorem afA {w:World}{b:Nat}{g:TypeId}{a d e:Value}(h:au w b g [a,d,e]):(w.cell? ⟨b,0,none⟩=some a∧w.cell? ⟨b,1,none⟩=some d∧w.cell? ⟨b,2,none⟩=some e)∧w.frozen? ⟨b,0,none⟩=false∧w.frozen? ⟨b,1,none⟩=false∧w.frozen? ⟨b,2,none⟩=false:=
 ⟨⟨h.c 0 rfl,h.c 1 rfl,h.c 2 rfl⟩,h.f 0,h.f 1,h.f 2⟩
theorem dN {w:World}{b:Nat}{j:TypeId}{a d e g i:Value}(h:au w b j [a,d,e,g,i]):(w.cell? ⟨b,0,none⟩=some a∧w.cell? ⟨b,1,none⟩=some d∧w.cell? ⟨b,2,none⟩=some e∧w.cell? ⟨b,3,none⟩=some g∧w.cell? ⟨b,4,none⟩=some i)∧w.frozen? ⟨b,0,none⟩=false∧w.frozen? ⟨b,1,none⟩=false∧w.frozen? ⟨b,2,none⟩=false∧w.frozen? ⟨b,3,none⟩=false∧w.frozen? ⟨b,4,none⟩=false:=
 ⟨⟨h.c 0 rfl,h.c 1 rfl,h.c 2 rfl,h.c 3 rfl,h.c 4 rfl⟩,h.f 0,h.f 1,h.f 2,h.f 3,h.f 4⟩
def jg (c d:Int):Int:=if c=0 then d else c
def T4 (way:Int):FuncId:=if way=1 then 170 else if way=2 then 171 else if way=3 then 172 else if way=4 then 173 else 174
theorem enter_of {P:Program}{f:FuncId}{a:Func}{c:Code}(e:P.funcs[f]? =some a)(h:(a.name== "runtime.NumGoroutine")=false)(d:a.body=some c)(b:Array Value)(w:World):Sem.run P (callFunc f b) w= .ok (.enter f b) w:=by
 have g: ¬a.name= "runtime.NumGoroutine" :=by simpa using h
 simp[callFunc,e,g,d]
theorem C4 {c d:Int}(h:jg c d=0):c=0∧d=0:=by
 unfold jg at h
 split at h
 ·exact⟨by assumption,h⟩
 ·exact absurd h (by assumption)
def tS:Nat→List Value
 |1=>[yi 2,yi 24,yi (-149),yi 104,.bool true,yi 4,yi 8,yi 1,.func (.func 120) #[] #[]]
 |2=>[yi 2,yi 53,yi (-1074),yi 971,.bool true,yi 8,yi 11,yi 1,.func (.func 120) #[] #[]]
 |3=>[yi 2,yi 64,yi (-16445),yi 16320,.bool true,yi 10,yi 15,yi 1,.func (.func 121) #[] #[]]
 |4=>[yi 16,yi 6,yi (-70),yi 57,.bool false,yi 4,yi 7,yi 2,.func (.func 120) #[] #[]]
 |5=>[yi 16,yi 14,yi (-78),yi 49,.bool false,yi 8,yi 7,yi 2,.func (.func 120) #[] #[]]
 |6=>[yi 2,yi 24,yi (-151),yi 103,.bool false,yi 4,yi 8,yi 3,.func (.func 122) #[] #[]]
 |7=>[yi 2,yi 56,yi (-183),yi 71,.bool false,yi 8,yi 8,yi 3,.func (.func 122) #[] #[]]
 |8=>[yi 2,yi 53,yi (-1076),yi 970,.bool false,yi 8,yi 11,yi 3,.func (.func 122) #[] #[]]
 |_=>(yzL 0 0 0 0 false 0 0 0)
def Ar:List Value:=[yi 0,yi 0,yi 0,yi 0,.bool false,yi 0,yi 0,yi 0,.nilFunc,yi 2,yi 24,yi (-149),yi 104,.bool true,yi 4,yi 8,yi 1,.func (.func 120) #[] #[],yi 2,yi 53,yi (-1074),yi 971,.bool true,yi 8,yi 11,yi 1,.func (.func 120) #[] #[],yi 2,yi 64,yi (-16445),yi 16320,.bool true,yi 10,yi 15,yi 1,.func (.func 121) #[] #[],yi 16,yi 6,yi (-70),yi 57,.bool false,yi 4,yi 7,yi 2,.func (.func 120) #[] #[],yi 16,yi 14,yi (-78),yi 49,.bool false,yi 8,yi 7,yi 2,.func (.func 120) #[] #[],yi 2,yi 24,yi (-151),yi 103,.bool false,yi 4,yi 8,yi 3,.func (.func 122) #[] #[],yi 2,yi 56,yi (-183),yi 71,.bool false,yi 8,yi 8,yi 3,.func (.func 122) #[] #[],yi 2,yi 53,yi (-1076),yi 970,.bool false,yi 8,yi 11,yi 3,.func (.func 122) #[] #[]]
def tC (w:World)(n:Nat)(c:Int)(e:Ending)(w':World):Prop:=
 e= .returned (.tuple #[.agg (tS n).toArray,yi c])∧yB w w'
def fmN:Nat→Nat
 |1=>1|2=>1|3=>1|4=>2|5=>2|_=>3
def wrN (k:Nat):Nat:=if k=3 then 2^63 else if k=4 then 2^5 else if k=5 then 2^13 else 0
theorem Aj (b:Bool)(w:World):yC 152 #[.bool b] w fun z w'=>z= .returned (yi (if b then 1 else 2))∧w'=w:=by
 cases b
 ·go_enter Tryz.func152,Tryz.ntmps152
  go_wp2
  go_ret
  exact⟨rfl,rfl⟩
 ·go_enter Tryz.func152,Tryz.ntmps152
  go_wp2
  go_ret
  exact⟨rfl,rfl⟩
def WI (zs cur:List Nat)(i:Nat):Prop:=
 cur.length=zs.length∧ ∀k,k<zs.length→cur.getD k 0=if k<2*i then zs.getD (k+1-2*(k % 2)) 0 else zs.getD k 0
theorem aa3 {zs a:List Nat}{i:Nat}(h:WI zs a i)(j:2*i+1<zs.length):WI zs ((a.set (2*i) (a.getD (2*i+1) 0)).set (2*i+1) (a.getD (2*i) 0)) (i+1):=by
 obtain⟨f,d⟩:=h;refine⟨by simpa using f,fun k g=> ?_⟩
 rw[Dg.getD_set _ _ _ _ (by simp;omega),Dg.getD_set _ _ _ _ (by omega)]
 by_cases b:2*i+1=k
 ·rw[if_pos b,if_pos (by omega),d _ (by omega),if_neg (by omega),←b]
  congr 1
  omega
 ·rw[if_neg b]
  by_cases c:2*i=k
  ·rw[if_pos c,if_pos (by omega),d _ (by omega),if_neg (by omega),←c]
   congr 1
   omega
  ·rw[if_neg c,d k g]
   by_cases e:k<2*i
   ·rw[if_pos e,if_pos (by omega)]
   ·rw[if_neg e,if_neg (by omega)]
theorem Ux (v:Value)(w:World):yC 120 #[v] w fun e w'=>e= .returned (.tuple #[])∧w'=w:=by
 go_enter Tryz.func120,Tryz.ntmps120
 go_wp2
 go_end0
 exact⟨rfl,rfl⟩
def C9 (k:Nat):Nat:=if k=3 then 121 else if 6≤k then 122 else 120
theorem Cx {P:Program}{f:FuncId}{a:Func}{c:Code}(e:P.funcs[f]? =some a)(h:(a.name== "runtime.NumGoroutine")=false)(d:a.body=some c)(b:Array Value)(w:World):Sem.run P (callFunc f b) w= .ok (.enter f b) w:=by
 have g: ¬a.name= "runtime.NumGoroutine" :=by simpa using h
 simp[callFunc,e,g,d]
theorem Db (k:Nat)(a:Array Value)(W:World):Sem.run Tryz.prog (callFunc (C9 k) a) W= .ok (.enter (C9 k) a) W:=by
 unfold C9
 split
 ·exact Cx Tryz.func121 (by kernel_rfl) rfl a W
 ·split
  ·exact Cx Tryz.func122 (by kernel_rfl) rfl a W
  ·exact Cx Tryz.func120 (by kernel_rfl) rfl a W
theorem NR (f:Nat)(h:f<18446744073709551616):bits .and .u64 f 0=0:=by
 have a:=u64_and_nat f 0 h (by omega);rw[Nat.and_zero] at a;exact a
def iR (k c:Nat):Bool:=c==1||(c==3||c==4)&&decide (k≤3)||c==5&&decide (6≤k)
def pI (k c:Nat):Bool:=c==5&&decide (6≤k)
def Bk (k c:Nat):Bool:=c==3||c==1&&decide (k≤5)
def qX (k c dn:Nat)(ng:Bool)(p:Int):Int:=if iR k c=false then 5 else if 0<dn∨p≠0∨ng=true∧Bk k c=false then 4 else 0
theorem jw {w:World}{s:Bool}{a:Option Addr}{b:Nat}{xs:List Nat}{e:Int}(d:Rd w .u32 (.slice a xs.length b) xs)(f:Dg.Small 4294967296 xs)(c:Dg.Norm xs):
  Dv w (ydV s (.slice a xs.length b) e) ⟨s,Dg.vl 4294967296 xs,e⟩:=by
 have h:=Dg.eq_dg 4294967296 (by omega) xs _ f c rfl;refine⟨_,rfl, ?_⟩;simp only;rw[←h];exact d
def dJ (t:ak):Int:=if t.n=0 then 0 else if t.s then-1 else 1
theorem Ad (q k:Nat)(h:q≠0):bitLen (2^k*q)=k+bitLen q:=by
 have a:2^k*q/2^k=q:=Nat.mul_div_cancel_left q (Nat.pow_pos (by omega));have:=bitLen_shift (2^k*q) k (by rw[a];exact h)
 rwa [a] at this
theorem om {x L:Nat}(h:(Dg.dg 4294967296 x).length≤L):x<4294967296^L:=by
 have a:=Dg.vl_lt 4294967296 _ (Dg.small_dg 4294967296 x (by omega));rw[Dg.vl_dg _ _ (by omega)] at a;exact Nat.lt_of_lt_of_le a (Nat.pow_le_pow_right (by omega) h)
theorem tD {x y:Nat}(h:x≤y):(Dg.dg 4294967296 x).length≤(Dg.dg 4294967296 y).length:=
 Dg.dg_len_le 4294967296 _ _ (by omega) (Nat.lt_of_le_of_lt h (om (Nat.le_refl _)))
def redF:Nat→Nat→Nat×Nat
 |m,0=>(m,0)
 |m,k+1=>if m % 5=0 then redF (m/5) k else(m,k+1)
theorem redF_le: ∀(k m:Nat),(redF m k).1≤m∧(redF m k).2≤k:=by
 intro k
 induction k with
 |zero=>intro m;exact⟨Nat.le_refl _,Nat.le_refl _⟩
 |succ k ih=>
  intro m;unfold redF
  split
  ·have:=ih (m/5)
   have:=Nat.div_le_self m 5;omega
  ·exact⟨Nat.le_refl _,Nat.le_refl _⟩
def RtZ (w:World)(z:Ending)(w':World):Prop:=
 ∃q,z= .returned (yrV false yN (.slice (some ⟨q,0,none⟩) 1 1) 0)∧au w' q 105 [.int .u32 1]∧yB w w'
def RtE (w:World)(ng:Bool)(a b:Nat)(e er:Int)(z:Ending)(w':World):Prop:=
 ∃v u,z= .returned (.tuple #[yrV ng v u e,yi er])∧Rd w' .u32 v (Dg.dg 4294967296 a)∧Rd w' .u32 u (Dg.dg 4294967296 b)∧yB w w'
theorem tparse_none (n way:Int)(e:ByteArray)(w:World)
  (a:yJ 64 #[yi n] (yi 0)):
  yC 30 #[yi n,.string e,yi way] w (yR w (.tuple #[.string ⟨#[]⟩,yi 0,yi 6])):=by
 replace a:Hid _:=a
 go_enter Tryz.func30,Tryz.ntmps30
 have b:=Below.refl w.heap.size w
 go_wp2_with fail
 refine(a.out _).mono ?_;rintro g f ⟨rfl,c⟩;have d:=aa b c;clear b c a
 go_wp2
 go_ret3
 exact⟨rfl,d⟩
theorem adB {a b:Nat}(h:0<b):0<a|||b:=Nat.lt_of_lt_of_le h Nat.right_le_or
def shF (mk:Nat→Bool):Nat→Nat→Nat
 |0,k=>k
 |f+1,k=>if mk k=true then k else shF mk f (k+1)
def ShW (w:World)(a:Nat)(cs:List Value)(v:Value)(m:Nat)(wr:World):Prop:=yB w wr∧au wr a 49 cs∧Rd wr .u32 v (Dg.dg 4294967296 m)
theorem tpower_long (af zs:ByteArray)(ng:Bool)(w:World)(h:5<zs.size)
  (a:yJ 139 #[.string af,.string ⟨#[45]⟩] (.tuple #[.string zs,.bool ng])):
  yC 141 #[.string af] w (yR w (.tuple #[yi 0,.bool false])):=by
 replace a:Hid _:=a
 go_enter Tryz.func141,Tryz.ntmps141
 have b:=Below.refl w.heap.size w
 go_wp2_with fail
 refine(a.out _).mono ?_;rintro f e ⟨rfl,c⟩;have d:=aa b c;clear b c a
 go_wp2
 go_ret2
 exact⟨rfl,d⟩
theorem tpower_no (af zs:ByteArray)(ng:Bool)(w:World)(h:zs.size≤5)
  (a:yJ 139 #[.string af,.string ⟨#[45]⟩] (.tuple #[.string zs,.bool ng]))
  (b:yJ 142 #[.string zs] (.bool false)):
  yC 141 #[.string af] w (yR w (.tuple #[yi 0,.bool false])):=by
 replace a:Hid _:=a;replace b:Hid _:=b
 go_enter Tryz.func141,Tryz.ntmps141
 have c:=Below.refl w.heap.size w
 go_wp2_with fail
 refine(a.out _).mono ?_;rintro i j ⟨rfl,e⟩;have d:=aa c e;clear c e a
 go_wp2_with fail
 refine(b.out _).mono ?_;rintro i k ⟨rfl,f⟩;have g:=aa d f;clear d f b
 go_wp2
 go_ret2
 exact⟨rfl,g⟩
theorem tpower_plus (af zs:ByteArray)(n:Int)(w:World)(h:zs.size≤5)
  (b:yJ 139 #[.string af,.string ⟨#[45]⟩] (.tuple #[.string zs,.bool false]))
  (c:yJ 142 #[.string zs] (.bool true))
  (a:yJ 167 #[.string zs] (.tuple #[yi n,.nilIface])):
  yC 141 #[.string af] w (yR w (.tuple #[yi n,.bool true])):=by
 replace b:Hid _:=b;replace c:Hid _:=c;replace a:Hid _:=a
 go_enter Tryz.func141,Tryz.ntmps141
 have d:=Below.refl w.heap.size w
 go_wp2_with fail
 refine(b.out _).mono ?_;rintro k m ⟨rfl,g⟩;have e:=aa d g;clear d g b
 go_wp2_with fail
 refine(c.out _).mono ?_;rintro k o ⟨rfl,i⟩;have f:=aa e i;clear e i c
 go_wp2_with fail
 refine(a.out _).mono ?_;rintro k p ⟨rfl,j⟩;have l:=aa f j;clear f j a
 go_wp2
 go_ret2
 exact⟨rfl,l⟩
theorem tpower_minus (af zs:ByteArray)(n m:Int)(w:World)(h:zs.size≤5)(o:IntKind.i64.wrap (-n)=m)
  (b:yJ 139 #[.string af,.string ⟨#[45]⟩] (.tuple #[.string zs,.bool true]))
  (c:yJ 142 #[.string zs] (.bool true))
  (a:yJ 167 #[.string zs] (.tuple #[yi n,.nilIface])):
  yC 141 #[.string af] w (yR w (.tuple #[yi m,.bool true])):=by
 replace b:Hid _:=b;replace c:Hid _:=c;replace a:Hid _:=a
 go_enter Tryz.func141,Tryz.ntmps141
 have d:=Below.refl w.heap.size w
 go_wp2_with fail
 refine(b.out _).mono ?_;rintro k p ⟨rfl,g⟩;have e:=aa d g;clear d g b
 go_wp2_with fail
 refine(c.out _).mono ?_;rintro k q ⟨rfl,i⟩;have f:=aa e i;clear e i c
 go_wp2_with fail
 refine(a.out _).mono ?_;rintro k r ⟨rfl,j⟩;have l:=aa f j;clear f j a
 go_wp2
 go_ret2
 exact⟨rfl,l⟩
theorem jt (B n c:Nat):Far B (.slice none n c):=fun a d b h=>by cases h
theorem t9 {w:World}{k:IntKind}{v:Value}{zs:List Nat}(h:Rd w k v zs){b:Nat}(j:w.heap.size≤b):wF b v zs:=fun f a n c m=>by
 obtain⟨o,cap,rfl,_,_,i⟩:=h;obtain⟨g,p,rfl,l⟩:=i f
 cases m
 have d:=l 0 f
 show g≠b
 intro e;subst e;unfold World.cell? at d;simp only at d;rw[Array.getElem?_eq_none j] at d
 cases d
theorem acZ (n:Int)(sz e g:Nat)(R D L G f:Int)(gr:Bool)(s:ByteArray)(w:World)
  (c:yJ 15 #[yi n] (.tuple #[yhV sz e g R D L G gr f,.bool true])):
  yC 5 #[yi n,.string s] w (yR w (yi (if s.size=sz then 0 else 1))):=by
 have d:Hid _:=c;clear c
 by_cases b:s.size=sz
 ·rw[if_pos b]
  go_enter Tryz.func5,Tryz.ntmps5
  go_wp2_with fail
  refine(d.out _).mono ?_;rintro z h ⟨rfl,a⟩
  go_wp2
  go_ret
  exact⟨rfl,aa a (af _ _)⟩
 ·rw[if_neg b]
  have i:((s.size:Int)==(sz:Int))=false:=by simp;omega
  clear b
  go_enter Tryz.func5,Tryz.ntmps5
  go_wp2_with fail
  refine(d.out _).mono ?_;rintro z h ⟨rfl,a⟩
  go_wp2
  go_ret
  exact⟨rfl,aa a (af _ _)⟩
def dB (t:ak):ak:=⟨!t.s&&decide (0<t.n),t.n,t.e⟩
theorem LU (R D L G:Int)(gr s:Bool)(a:Option Addr)(b:Nat)(e:Int)(w:World):
  yC 25 #[ydV s (.slice a 0 b) e,ygV R D L G gr] w (yR w (.bool true)):=by
 have c:=aa (af w (.cells (ydA s (.slice a 0 b) e) 28)) (af _ (.cells (ygA R D L G gr) 54))
 go_enter Tryz.func25,Tryz.ntmps25
 go_wp2
 go_ret
 exact⟨rfl,c⟩
def onC (dc gc:Int):Int:=if dc=0 then gc else dc
def Eb (ex fr:Nat)(ng:Bool)(e f:Nat)(i:Nat):Bool:=
 if i=0 then ng else if i≤ex then decide (e/2^ (ex-i) % 2=1) else decide (f/2^ (ex+fr-i) % 2=1)
theorem IZ {a b:Nat}(h:a≤b):(Dg.dg 65536 a).length≤(Dg.dg 65536 b).length:=by
 refine Dg.dg_len_le 65536 a _ (by omega) (Nat.lt_of_le_of_lt h ?_);have:=Dg.vl_lt 65536 (Dg.dg 65536 b) (Dg.small_dg 65536 b (by omega))
 rwa [Dg.vl_dg 65536 b (by omega)] at this
theorem KN {xs:List Nat}{L:Nat}(a:Dg.Small 4294967296 xs)(h:xs.length≤L):(Dg.dg 65536 (Dg.vl 4294967296 xs)).length≤2*L:=by
 refine Dg.dg_len_le 65536 _ _ (by omega) ?_;rw[Nat.pow_mul];exact Nat.lt_of_lt_of_le (Dg.vl_lt 4294967296 xs a) (Nat.pow_le_pow_right (by omega) h)
def B6 (w:World)(c:Int)(g:Bool)(m:Nat)(q fl:Int)(z:Ending)(w':World):Prop:=
 ∃v,z= .returned (.tuple #[yvV c g v q,yi fl])∧Rd w' .u32 v (Dg.dg 4294967296 m)∧yB w w'
theorem wZ {n k:Nat}(h:bitLen n≤k):n<2^k:=Nat.lt_of_lt_of_le (bitLen_spec n).1 (Nat.pow_le_pow_right (by omega) h)
abbrev mM (r:ByteArray×Int×Int)(w:World)(z:Ending)(w':World):Prop:=z= .returned (.tuple #[.string r.1,yi r.2.1,yi r.2.2])∧yB w w'
def iZ (t:ak):Prop:=t.n<2^64∧ -16500≤t.e∧t.e≤16500
theorem ne3 {c:Int}(h:c≠3):(c==3)=false:=by simpa using h
theorem ne1 {c:Int}(h:c≠1):(c==1)=false:=by simpa using h
def cutS (c:UInt8)(s:ByteArray):ByteArray×ByteArray×Bool:=(⟨(Lib.cut s.data.toList [c]).1.toArray⟩,⟨(Lib.cut s.data.toList [c]).2.1.toArray⟩,(Lib.cut s.data.toList [c]).2.2)
def nmZ:Bool×ByteArray×Int:=(false,⟨#[]⟩,0)
def NmE (w:World)(r:(Bool×ByteArray×Int)×Int)(z:Ending)(w':World):Prop:=z= .returned (.tuple #[.agg #[.bool r.1.1,.string r.1.2.1,yi r.1.2.2],yi r.2])∧yB w w'
def mL (w:World)(b:Nat)(v0 v1 v2 v3 v4 v5:Value):Prop:=
 b<w.heap.size∧(w.cell? ⟨b,0,none⟩=some v0∧w.cell? ⟨b,1,none⟩=some v1∧w.cell? ⟨b,2,none⟩=some v2∧w.cell? ⟨b,3,none⟩=some v3∧w.cell? ⟨b,4,none⟩=some v4∧w.cell? ⟨b,5,none⟩=some v5)∧
  (w.frozen? ⟨b,0,none⟩=false∧w.frozen? ⟨b,1,none⟩=false∧w.frozen? ⟨b,2,none⟩=false∧w.frozen? ⟨b,3,none⟩=false∧w.frozen? ⟨b,4,none⟩=false∧w.frozen? ⟨b,5,none⟩=false)
def bJ (a b:ak):Int:=dJ (aG a (dV b))
def hiI (x:Nat→ak):Nat→Nat
 |0=>0
 |i+1=>if 0<bJ (x (i+1)) (x (hiI x i)) then i+1 else hiI x i
def left (listed:Array Bool):Nat:=(listed.toList.filter (fun b=> !b)).length
def Ag (W:World)(base:Nat)(v:Value):Prop:= ∃p,v= .pointer (some ⟨p,0,none⟩)∧base≤p∧Loc W p (.bool false) yN (yi 0)
def RB6 (W:World)(v:Value)(x y:ak):Prop:= ∃p q,v= .agg #[.bool x.s,p,yi x.e,.bool y.s,q,yi y.e]∧Rd W .i64 p (Dg.dg 65536 x.n)∧Rd W .i64 q (Dg.dg 65536 y.n)
theorem pow10_two (a:Nat):10^a≤2^ (4*a):=by
 rw[Nat.pow_mul];exact Nat.pow_le_pow_left (by omega) a
def nrM (N:Nat)(p:Int):Nat×Nat:=if 0<p then(N*5^p.toNat,1) else((redF N (-p).toNat).1,5^ (redF N (-p).toNat).2)
theorem redF_pos: ∀(k m:Nat),m≠0→(redF m k).1≠0:=by
 intro k
 induction k with
 |zero=>intro m h;exact h
 |succ k ih=>
  intro m h;unfold redF
  split
  ·exact ih _ (by omega)
  ·exact h
def nuP (S:ByteArray):ByteArray:=if 1<S.size then S.extract 0 1++(⟨#[46]⟩++S.extract 1 S.size) else S.extract 0 1
def nuG (g:Bool)(S:ByteArray):ByteArray:=if g=true then(⟨#[45]⟩:ByteArray)++nuP S else nuP S
def nuS (g:Bool)(S ia:ByteArray):ByteArray:=nuG g S++⟨#[101]⟩++ia
theorem numeralOf_gn (p:Int)(S ia:ByteArray)(w:World)(f:1≤S.size)(g:S.size≤100)(h:ia.size≤100)(e:1<S.size)
  (a:yH w 97 #[yi p] (.string ia)):
  yC 56 #[.bool true,.string S,yi p] w (yR w (.string (nuS true S ia))):=by
 replace a:Hid _:=a
 go_enter Tryz.func56,Tryz.ntmps56
 have b:=Below.refl w.heap.size w
 go_wp2_with fail
 refine(a.out _ b).mono ?_;rintro j i ⟨rfl,c⟩;have d:=aa b c;clear b c a
 go_wp2
 go_ret
 refine⟨?_,d⟩;unfold nuS nuG nuP;simp only[if_pos e,if_true]
 try simp
theorem numeralOf_gp (p:Int)(S ia:ByteArray)(w:World)(f:1≤S.size)(g:S.size≤100)(h:ia.size≤100)(e:1<S.size)
  (a:yH w 97 #[yi p] (.string ia)):
  yC 56 #[.bool false,.string S,yi p] w (yR w (.string (nuS false S ia))):=by
 replace a:Hid _:=a
 go_enter Tryz.func56,Tryz.ntmps56
 have b:=Below.refl w.heap.size w
 go_wp2_with fail
 refine(a.out _ b).mono ?_;rintro j i ⟨rfl,c⟩;have d:=aa b c;clear b c a
 go_wp2
 go_ret
 refine⟨?_,d⟩;unfold nuS nuG nuP;simp only[if_pos e,if_neg Bool.false_ne_true]
 try simp
theorem numeralOf_ln (p:Int)(S ia:ByteArray)(w:World)(f:1≤S.size)(g:S.size≤100)(h:ia.size≤100)(e: ¬1<S.size)
  (a:yH w 97 #[yi p] (.string ia)):
  yC 56 #[.bool true,.string S,yi p] w (yR w (.string (nuS true S ia))):=by
 replace a:Hid _:=a
 go_enter Tryz.func56,Tryz.ntmps56
 have b:=Below.refl w.heap.size w
 go_wp2_with fail
 refine(a.out _ b).mono ?_;rintro j i ⟨rfl,c⟩;have d:=aa b c;clear b c a
 go_wp2
 go_ret
 refine⟨?_,d⟩;unfold nuS nuG nuP;simp only[if_neg e,if_true]
 try simp
theorem numeralOf_lp (p:Int)(S ia:ByteArray)(w:World)(f:1≤S.size)(g:S.size≤100)(h:ia.size≤100)(e: ¬1<S.size)
  (a:yH w 97 #[yi p] (.string ia)):
  yC 56 #[.bool false,.string S,yi p] w (yR w (.string (nuS false S ia))):=by
 replace a:Hid _:=a
 go_enter Tryz.func56,Tryz.ntmps56
 have b:=Below.refl w.heap.size w
 go_wp2_with fail
 refine(a.out _ b).mono ?_;rintro j i ⟨rfl,c⟩;have d:=aa b c;clear b c a
 go_wp2
 go_ret
 refine⟨?_,d⟩;unfold nuS nuG nuP;simp only[if_neg e,if_neg Bool.false_ne_true]
 try simp
theorem textBegun_W (g:ByteArray)(w:World)
  (a:yH w 30 #[yi 2,.string ⟨#[48,46,49]⟩,yi 1] (.tuple #[.string g,yi 1,yi 0]))
  (b:yH w 4 #[yi 2,.string g] (.tuple #[.string ⟨#[49,101,45,49]⟩,yi 0])):
  yC 8 #[] w (yR w (.bool true)):=by
 replace a:Hid _:=a;replace b:Hid _:=b
 go_enter Tryz.func8,Tryz.ntmps8
 have c:=Below.refl w.heap.size w
 go_wp2_with fail
 refine(a.out _ c).mono ?_;rintro i j ⟨rfl,e⟩;have d:=aa c e;clear c e a
 go_wp2_with fail
 refine(b.out _ d).mono ?_;rintro i k ⟨rfl,f⟩;have h:=aa d f;clear d f b
 go_wp2
 go_ret
 exact⟨by simp,h⟩
def tenS:ByteArray:=⟨#[63,185,153,153,153,153,153,154]⟩
theorem dg_ten {n:Nat}(h:n≠0):Dg.dg 10 n=n % 10::Dg.dg 10 (n/10):=by
 obtain⟨m,rfl⟩: ∃m,n=m+1:=⟨n-1,by omega⟩;have a:(m+1)/10≤m:=by omega
 have:=Dg.dg_vl 10 (by omega) (Dg.dgF 10 m ((m+1)/10)) (Dg.small_dgF 10 (by omega) _ _) (Dg.norm_dgF 10 (by omega) _ _ a);rw[Dg.vl_dgF 10 (by omega) _ _ a] at this;rw[this]
 show(if m+1=0 then[] else(m+1) % 10::Dg.dgF 10 m ((m+1)/10))=_
 rw[if_neg h]
theorem dec_list (n:Nat):n≠0→((Dg.dg 10 n).map (fun d=>48+d)).reverse.map (fun d=>UInt8.ofNat d)=Lib.decDigits n:=by
 induction n using Nat.strongRecOn with
 |_ n ih=>
  intro h;rw[dg_ten h]
  by_cases a:n<10
  ·rw[Lib.decDigits_one a,show n/10=0 by omega,show n % 10=n by omega,Dg.dg_zero]
   rfl
  ·rw[Lib.decDigits,dif_neg a,←ih (n/10) (by omega) (by omega)]
   simp
def cutc (c:UInt8):List UInt8→List UInt8×List UInt8×Bool
 | []=>([],[],false)
 |b::r=>if b=c then([],r,true) else(b::(cutc c r).1,(cutc c r).2.1,(cutc c r).2.2)
theorem cutc_app (c:UInt8): ∀x r,c∉x→cutc c (x++c::r)=(x,r,true):=by
 intro x
 induction x with
 |nil=>intro r _;exact if_pos rfl
 |cons b x ih=>
  intro r h;have:=ih r (fun e=>h (List.mem_cons_of_mem _ e))
  rw[List.cons_append];unfold cutc;rw[if_neg (fun e=>h (by rw[e];exact List.mem_cons_self ..)),this]
theorem cutc_none (c:UInt8): ∀x,c∉x→cutc c x=(x,[],false):=by
 intro x
 induction x with
 |nil=>intro _;rfl
 |cons b x ih=>
  intro h
  show(if b=c then _ else _)=_
  rw[if_neg (fun e=>h (by rw[e];exact List.mem_cons_self ..)),ih (fun e=>h (List.mem_cons_of_mem _ e))]
theorem cutc_true (c:UInt8): ∀l,(cutc c l).2.2=true→l=(cutc c l).1++c::(cutc c l).2.1:=by
 intro l
 induction l with
 |nil=>intro h;cases h
 |cons b r ih=>
  intro h;unfold cutc at h⊢
  split at h
  ·rename_i e
   rw[if_pos e,e];rfl
  ·rename_i e
   rw[if_neg e]
   show b::r=b::(_++_)
   rw[←ih h]
theorem cutc_false (c:UInt8): ∀l,(cutc c l).2.2=false→(cutc c l).1=l∧(cutc c l).2.1=[]:=by
 intro l
 induction l with
 |nil=>intro _;exact⟨rfl,rfl⟩
 |cons b r ih=>
  intro h;unfold cutc at h⊢
  split at h
  ·cases h
  ·rename_i e
   rw[if_neg e];exact⟨by rw[(ih h).1],(ih h).2⟩
theorem mk_list (s:ByteArray):(⟨s.data.toList.toArray⟩:ByteArray)=s:=by
 apply ByteArray.ext;exact Array.toArray_toList
theorem dec_near {b a q T K:Nat}(k:0<a)(j:T<K)(i:a*K≤b)(g:2*(q*a)≤2*b+a)(h:2*b≤2*(q*a)+a):
  q*a*(2*T)<b*(2*T+1)∧b*(2*T)<q*a*(2*T)+b:=by
 have m:a*T<b:=Nat.lt_of_lt_of_le (Nat.mul_lt_mul_of_pos_left j k) i;have c:T*(2*(q*a))≤T*(2*b+a):=Nat.mul_le_mul_left _ g;have d:T*(2*b)≤T*(2*(q*a)+a):=Nat.mul_le_mul_left _ h;have e:q*a*(2*T)=T*(2*(q*a)):=by ac_rfl
 have f:b*(2*T)=T*(2*b):=by ac_rfl
 have l:T*a=a*T:=Nat.mul_comm _ _;rw[Nat.mul_add] at c d;rw[Nat.mul_add,Nat.mul_one,e,f];omega
theorem near_move {A B d b Y T:Nat}(h:A*b=d*B*Y)(hdB:0<d*B)(c:Y*(2*T)<b*(2*T+1))(e:b*(2*T)<Y*(2*T)+b):
  A*(2*T)<d*B*(2*T)+d*B∧d*B*(2*T)<A*(2*T)+d*B:=by
 constructor
 ·refine Nat.lt_of_mul_lt_mul_right (a:=b) ?_
  calc A*(2*T)*b=A*b*(2*T):=by ac_rfl
   _=d*B*(Y*(2*T)):=by rw[h];ac_rfl
   _<d*B*(b*(2*T+1)):=Nat.mul_lt_mul_of_pos_left c hdB
   _=(d*B*(2*T)+d*B)*b:=by rw[Nat.mul_add,Nat.mul_add,Nat.add_mul,Nat.mul_one];ac_rfl
 ·refine Nat.lt_of_mul_lt_mul_right (a:=b) ?_
  calc d*B*(2*T)*b=d*B*(b*(2*T)):=by ac_rfl
   _<d*B*(Y*(2*T)+b):=Nat.mul_lt_mul_of_pos_left e hdB
   _=A*b*(2*T)+d*B*b:=by rw[h,Nat.mul_add];ac_rfl
   _=(A*(2*T)+d*B)*b:=by rw[Nat.add_mul];ac_rfl
theorem dec_digit {d:Nat}(h:d<10):(UInt8.ofNat (48+d)).toNat=48+d:=by
 rw[UInt8.toNat_ofNat'];omega
theorem decDig_five {n:Nat}(h:n<100000):(Lib.decDigits n).length≤5:=by
 rw[Lib.decDigits_length]
 rcases Nat.lt_or_ge n 10 with c|c
 ·rw[Lib.nDigits_small c];omega
 rw[Lib.nDigits_big (by omega)]
 rcases Nat.lt_or_ge (n/10) 10 with a|a
 ·rw[Lib.nDigits_small a];omega
 rw[Lib.nDigits_big (by omega)]
 rcases Nat.lt_or_ge (n/10/10) 10 with b|b
 ·rw[Lib.nDigits_small b];omega
 rw[Lib.nDigits_big (by omega)]
 rcases Nat.lt_or_ge (n/10/10/10) 10 with d|d
 ·rw[Lib.nDigits_small d];omega
 rw[Lib.nDigits_big (by omega),Lib.nDigits_small (by omega)];omega
theorem ten_move {a b:Nat}{P:Int}(h: ¬a*10^ (-P).toNat<b*10^P.toNat){k:Nat}(n:1≤k):b*10^ (-((k:Int)-1-P)).toNat*10^ (k-1)≤a*10^ ((k:Int)-1-P).toNat:=by
 obtain⟨d,g⟩: ∃k,P.toNat=k:=⟨_,rfl⟩;obtain⟨e,i⟩: ∃k,(-P).toNat=k:=⟨_,rfl⟩;obtain⟨u,l⟩: ∃j,((k:Int)-1-P).toNat=j:=⟨_,rfl⟩;obtain⟨v,m⟩: ∃j,(-((k:Int)-1-P)).toNat=j:=⟨_,rfl⟩;rw[g,i] at h;rw[l,m];have f:v+(k-1)+e=u+d:=by omega
 refine Nat.le_of_mul_le_mul_right (c:=10^d) ?_ (Nat.pow_pos (by omega))
 calc b*10^v*10^ (k-1)*10^d=b*10^d*10^ (v+(k-1)):=by rw[Nat.pow_add];ac_rfl
  _≤a*10^e*10^ (v+(k-1)):=Nat.mul_le_mul_right _ (by omega)
  _=a*10^ (v+(k-1)+e):=by rw[Nat.pow_add 10 (v+(k-1))];ac_rfl
  _=a*10^u*10^d:=by rw[f,Nat.pow_add];ac_rfl
def RqZ (w:World)(z:Ending)(w':World):Prop:=
 ∃q,z= .returned (.tuple #[yrV false yN (.slice (some ⟨q,0,none⟩) 1 1) 0,yi 0])∧au w' q 3 [yi 1]∧yB w w'
theorem five_two (n:Nat): ∀t,(n*2^t) % 5=0↔n % 5=0:=by
 intro t
 induction t with
 |zero=>rw[Nat.pow_zero,Nat.mul_one]
 |succ t ih=>
  rw[Nat.pow_succ,←Nat.mul_assoc,←ih];generalize n*2^t=m;omega
theorem redF_two: ∀k n t,redF (n*2^t) k=((redF n k).1*2^t,(redF n k).2):=by
 intro k
 induction k with
 |zero=>intro n t;rfl
 |succ k ih=>
  intro n t;unfold redF
  by_cases h:n % 5=0
  ·rw[if_pos ((five_two n t).2 h),if_pos h,←ih]
   congr 1
   obtain⟨q,rfl⟩: ∃q,n=5*q:=⟨n/5,by omega⟩;rw[Nat.mul_assoc,Nat.mul_div_cancel_left _ (by omega),Nat.mul_div_cancel_left _ (by omega)]
  ·rw[if_neg (fun c=>h ((five_two n t).1 c)),if_neg h]
theorem redF_odd: ∀k n,n % 2=1→(redF n k).1 % 2=1:=by
 intro k
 induction k with
 |zero=>intro n h;exact h
 |succ k ih=>
  intro n h;unfold redF
  split
  ·exact ih _ (by omega)
  ·exact h
theorem five_odd (n:Nat)(h:n % 2=1): ∀k,(n*5^k) % 2=1:=by
 intro k
 induction k with
 |zero=>rw[Nat.pow_zero,Nat.mul_one];exact h
 |succ k ih=>
  rw[Nat.pow_succ,←Nat.mul_assoc];generalize n*5^k=m at*;omega
def dyC (t:ak)(v:Value):List Value:=(ydL t.s v t.e)
def RowAt (w:World)(g:Option Nat)(v:Value)(zs:List Nat):Prop:=Rd w .u32 v zs∧ ∀b,g=some b→wF b v zs
theorem RowAt.new {w w':World}{g:Option Nat}{v:Value}{zs:List Nat}(h:Rd w' .u32 v zs)(e:Far w.heap.size v)(f: ∀b,g=some b→b<w.heap.size):RowAt w' g v zs:=
 ⟨h,fun b d _ a n c i=>by
  have:=e a n c i;have:=f b d;omega⟩
def DysAt (w:World)(g:Option Nat):List ak→List Value→Prop
 | [],cs=>cs=[]
 |t::ts,cs=> ∃so sc rest,cs=dyC t (yT so t.n sc)++rest∧RowAt w g (yT so t.n sc) (Dg.dg 4294967296 t.n)∧DysAt w g ts rest
def HdI (base:Nat)(ts:List ak)(lv:Value)(w:World):Prop:= ∃cs,w.ownsRow base 41 3 lv ts.length cs∧DysAt w lv.ownBlock ts cs
theorem DysAt.len {w:World}{g:Option Nat}: ∀{ts:List ak} {cs:List Value},DysAt w g ts cs→cs.length=ts.length*3
 | [],cs,hc=>by
  have:cs=[]:=hc;subst this;rfl
 |t::ts,cs,hc=>by
  obtain⟨f,e,d,a,c,b⟩:=hc;have:=DysAt.len b;subst a;simp[dyC];omega
structure DysV (w:World) (ts:List ak) (g cap:Nat):Prop where
 fit:ts.length≤cap
 most:cap≤maxLen
 each: ∀(i:Nat) t,ts[i]? =some t→ ∃so sc,w.rangeAt g (i*3) (dyC t (yT so t.n sc))∧Rd w .u32 (yT so t.n sc) (Dg.dg 4294967296 t.n)
def hdB (nb:Nat→Int→ak)(L G:Int)(d i:Nat):List ak:=[nb d (L+(i:Int)),nb d (G-(i:Int))]
def hdD (nb:Nat→Int→ak)(L G:Int)(d:Nat):Nat→List ak
 |0=>[]
 |i+1=>hdD nb L G d i++hdB nb L G d i
def hdF (nb:Nat→Int→ak)(L G:Int)(U:Nat)(ts:List ak):Nat→List ak
 |0=>ts
 |i+1=>hdF nb L G U ts i++hdD nb L G (U*2^i+1) 4
def HdW (w:World)(lv one up:Value)(U:Nat)(cs:List Value)(ts:List ak)(wr:World):Prop:=
 yB w wr∧au wr w.heap.size 54 cs∧HdI (w.heap.size+1) ts lv wr∧RowAt wr lv.ownBlock one [1]∧RowAt wr lv.ownBlock up (Dg.dg 4294967296 U)
theorem OQ (z:Int):(z<0↔sgn z<0)∧(0<z↔0<sgn z)∧(z=0↔sgn z=0):=by
 unfold sgn
 split
 ·omega
 ·split<;>omega
theorem redF_keep: ∀k n,(redF n k).1*5^k=n*5^ (redF n k).2
 |0,n=>rfl
 |k+1,n=>by
  unfold redF
  by_cases h:n % 5=0
  ·rw[if_pos h,Nat.pow_succ,←Nat.mul_assoc,redF_keep k (n/5),Nat.mul_right_comm]
   congr 1
   omega
  ·rw[if_neg h]
theorem dg_len0 {B n:Nat}(a:2≤B):(Dg.dg B n).length=0↔n=0:=by rw[List.length_eq_zero_iff,Dg.dg_nil_iff B _ a]
theorem shorts_bad (r:Int)(n:Int)(s:ByteArray)(w:World)(l:(r==0)=false)
  (c:yH w 4 #[yi n,.string s] (.tuple #[.string ⟨#[]⟩,yi r]))
  (b:yJ 5 #[yi n,.string s] (yi r))
  (a:yH w 8 #[] (.bool true)):
  yC 3 #[yi n,.string s] w (yR w (.bool true)):=by
 replace c:Hid _:=c;replace b:Hid _:=b;replace a:Hid _:=a
 go_enter Tryz.func3,Tryz.ntmps3
 have d:=Below.refl w.heap.size w
 go_wp2_with fail
 refine(c.out _ d).mono ?_;rintro j m ⟨rfl,g⟩;have f:=aa d g;clear d g c
 go_wp2_with fail
 refine(b.out _).mono ?_;rintro j o ⟨rfl,h⟩;have e:=aa f h;clear f h b
 go_wp2_with fail
 refine(a.out _ e).mono ?_;rintro j p ⟨rfl,i⟩;have k:=aa e i;clear e i a
 go_wp2
 go_ret
 exact⟨by first|rfl|simp,k⟩
end Go.Proofs.YtlhkndcmbpcpgaaGreatDoor
