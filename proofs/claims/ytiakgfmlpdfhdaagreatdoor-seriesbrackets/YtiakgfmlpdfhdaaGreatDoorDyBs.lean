/-
  A ball that came in, opened.
-/
import Derived.Test.YtiakgfmlpdfhdaaGreatDoorTa10
import Derived.Test.YtiakgfmlpdfhdaaGreatDoorTa34
import Derived.Test.YtiakgfmlpdfhdaaGreatDoorDyCs
set_option maxRecDepth 100000
namespace Go.Proofs.YtiakgfmlpdfhdaaGreatDoor.dy
open Go.ChangeShapes Go.WideShapes Go.ChangeAt Go.RowKit Go.Joins Go.Deep
theorem bool_of {H:Type}{enc:TypeId×Value→H}{P:Program}{w:World}{base:Nat}{spare:Nat→Bool}{held:Bool}{fuel:Nat}{t:TypeId}{cs:List Value}{x:DataW H×List MemPlace}(ht:P.underlying t=some .bool)(h:DataW.trod enc P w base spare held fuel t cs=some x): ∃b,cs=[.bool b]:=by
 cases fuel with
 |zero=>simp[DataW.trod] at h
 |succ n=>
  unfold DataW.trod at h;rw[ht] at h
  split at h<;>simp_all
theorem cellsB:Tryz.prog.cellsOf 27=6:=by kernel_rfl
theorem array6 {α:Type}{cs:Array α}(h:cs.size=6): ∃c0 c1 c2 c3 c4 c5,cs= #[c0,c1,c2,c3,c4,c5]:=by
 obtain⟨l⟩:=cs
 match l,h with
 | [c0,c1,c2,c3,c4,c5],_=>exact⟨c0,c1,c2,c3,c4,c5,rfl⟩
theorem open_three {H:Type}{enc:TypeId×Value→H}{W:World}{n:Nat}{c0 c1 c2:Value}{y:DataW H×List MemPlace}(h:DataW.trod enc Tryz.prog W 0 (fun _=>true) true n 25 [c0,c1,c2]=some y):
  ∃(s:Bool) (ao:Option Addr) (ca:Nat) (xs:List Nat) (e:Int),c0= .bool s∧c1= .slice ao xs.length ca∧c2=yi e∧Rd W .u32 (.slice ao xs.length ca) xs∧Dg.Small 4294967296 xs∧(Lit.int .i64 e).wf=true:=by
 obtain⟨y0,y1,y2,n,-,-,h0,h1,h2⟩:=trod_struct3 Tryz.underlying25 h;have eb:Tryz.prog.cellsOf 4=1:=by kernel_rfl
 have en:Tryz.prog.cellsOf 23=1:=by kernel_rfl
 have ei:Tryz.prog.cellsOf 3=1:=by kernel_rfl
 simp only[eb,List.drop_zero,List.take_succ_cons,List.take_zero] at h0;simp only[en,List.drop_succ_cons,List.drop_zero,List.take_succ_cons,List.take_zero] at h1;simp only[ei,List.drop_succ_cons,List.drop_zero,List.take_succ_cons,List.take_zero] at h2;obtain⟨e,he,-,hw⟩:=DataW.trod_int Tryz.underlying3 h2;obtain⟨s,hs⟩:=bool_of Tryz.underlying4 h0;simp at hs;obtain⟨xs,ao,ca,hc1,hr,hsm⟩: ∃(xs:List Nat) (ao:Option Addr) (ca:Nat),c1= .slice ao xs.length ca∧Rd W .u32 (.slice ao xs.length ca) xs∧Dg.Small 4294967296 xs:=by
  rcases open_ints Tryz.underlying23 Tryz.underlying49 (by kernel_rfl) h1 with⟨hcs,_⟩| ⟨x,l,c,zs,hcs,_,hl,hm,hz,_,hcell,hwz⟩
  ·simp at hcs
   exact⟨[],none,0,hcs,aN _ _,Dg.small_nil _ (by omega)⟩
  ·simp at hcs
   obtain⟨xs,hr,hsm⟩:=uw (w:=W) (a:=some x) (len:=l) (cap:=c) (zs:=zs) (.inr ⟨x,rfl,hl,hm,by simpa using hz,hcell,hwz⟩);obtain⟨ao,ca,hv⟩:=hr.shape;exact⟨xs,ao,ca,hcs.trans hv,hv▸hr,hsm⟩
 simp at he;exact⟨s,ao,ca,xs,e,hs,hc1,he,hr,hsm,hw⟩
theorem open_ball {H:Type}{enc:TypeId×Value→H}{W:World}{base:Nat}{v:Value}{d:DataW H}{p:List MemPlace}(hv:Value.okWide Tryz.prog W .any base 27 v)(h:DataW.Trod enc Tryz.prog W 0 (fun _=>true) true 27 v d p):
  ∃(s:Bool) (ao:Option Addr) (ca:Nat) (xs:List Nat) (e:Int) (t:Bool) (bo:Option Addr) (cb:Nat) (ys:List Nat) (f:Int),v= .agg #[.bool s,.slice ao xs.length ca,yi e,.bool t,.slice bo ys.length cb,yi f]∧
   Rd W .u32 (.slice ao xs.length ca) xs∧Dg.Small 4294967296 xs∧(Lit.int .i64 e).wf=true∧Rd W .u32 (.slice bo ys.length cb) ys∧Dg.Small 4294967296 ys∧(Lit.int .i64 f).wf=true:=by
 obtain⟨cs,rfl,hsz⟩:=okWide_struct Tryz.underlying27 hv;obtain⟨c0,c1,c2,c3,c4,c5,rfl⟩:=array6 (hsz.trans cellsB);obtain⟨fuel,hf⟩:=h;obtain⟨y0,y1,n,-,-,h0,h1⟩:=trod_struct2 Tryz.underlying27 hf;simp only[Value.cells,cellsD,List.drop_succ_cons,List.drop_zero,List.take_succ_cons,List.take_zero] at h0 h1;obtain⟨s,ao,ca,xs,e,rfl,rfl,rfl,a1,a2,a3⟩:=open_three h0;obtain⟨t,bo,cb,ys,f,rfl,rfl,rfl,b1,b2,b3⟩:=open_three h1;exact⟨s,ao,ca,xs,e,t,bo,cb,ys,f,rfl,a1,a2,a3,b1,b2,b3⟩
end Go.Proofs.YtiakgfmlpdfhdaaGreatDoor.dy
