/-
  Texts laid together: Tx23, Tx26, Oa0, Cv4, Tx27.
-/
import Derived.Test.YtpgijbdgljkeeaaGreatDoorUe06
set_option maxRecDepth 100000
set_option maxHeartbeats 25600000
namespace Go.Proofs.YtpgijbdgljkeeaaGreatDoor
open _root_.Go.Proofs.Tryz
open Go.RowKit
def NuOk (s:ByteArray)(g:Bool)(d:ByteArray)(p:Int)(ok:Bool):Prop:=
 (nuL (undash s).data.toList=none∧ok=false)∨ ∃D P,nuL (undash s).data.toList=some (D,P)∧g=dash s∧d=⟨D.toArray⟩∧p=P∧ok=true
def NuAns (s:ByteArray)(w:World)(z:Ending)(w':World):Prop:=w'=w∧ ∃g d p ok,z= .returned (.tuple #[.bool g,.string d,yi p,.bool ok])∧NuOk s g d p ok
theorem dash_cases (s:ByteArray): ∃g k0 L,RestAt s k0 L∧(undash s).data.toList=L∧dash s=g∧k0≤1∧((g=true∧k0=1∧0<s.size∧byt s 0=45)∨(g=false∧k0=0∧(s.size=0∨(0<s.size∧byt s 0≠45)))):=by
 have e0:(undash s).data.toList=Lib.trimPrefix s.data.toList [45]:=rfl;have e1:dash s=Lib.hasPrefix s.data.toList [45]:=rfl;rw[e0,e1];have hR:RestAt s 0 s.data.toList:=⟨by omega,rfl⟩;generalize hS:s.data.toList=S at*
 cases S with
 |nil=>exact⟨false,0,[],hR,rfl,rfl,by omega,.inr ⟨rfl,rfl,.inl (rest_nil hR).symm⟩⟩
 |cons b r=>
  obtain⟨h1,h2,h3,-⟩:=rest_cons hR
  by_cases hb:b=45
  ·subst hb
   exact⟨true,1,r,h3,rfl,rfl,by omega,.inl ⟨rfl,rfl,h1,h2⟩⟩
  ·have hp:Lib.hasPrefix (b::r) [45]=false:=by
    show([45].isPrefixOf (b::r))=false
    simp only[List.isPrefixOf];rw[show((45:UInt8)==b)=false from beq_eq_false_iff_ne.2 fun e=>hb e.symm]
    rfl
   refine⟨false,0,b::r,hR, ?_,hp,by omega,.inr ⟨rfl,rfl,.inr ⟨h1, ?_⟩⟩⟩
   ·unfold Lib.trimPrefix
    rw[hp];rfl
   ·rw[h2]
    intro e;exact hb (UInt8.toNat_inj.1 e)
def Dgs (L d r:List UInt8):Prop:=spD L=(d++(spD r).1,(spD r).2)
theorem dgs_start (L:List UInt8):Dgs L [] L:=rfl
theorem dgs_next {L d r:List UInt8}{b:UInt8}(h:Dgs L d (b::r))(hb:isDg b=true):Dgs L (d++[b]) r:=by
 unfold Dgs at h⊢;rw[h,spD_cons hb];simp
theorem dgs_end {L d r:List UInt8}(h:Dgs L d r)(hr:hdDg r=false):spD L=(d,r):=by
 unfold Dgs at h;rw[h,spD_stop hr];simp
theorem at_is (s:ByteArray)(k:Nat)(b:UInt8)(r:List UInt8)(h:RestAt s k (b::r)): ∀w,(Instr.index 9 (.string s) (yi k)).run Tryz.prog w= .ok (.int .u8 ((b.toNat:Nat):Int)) w:=by
 obtain⟨h1,h2,-,-⟩:=rest_cons h;have:=li s k h1;rw[h2] at this;exact this
theorem results_tmp4 {fn:Func}{t u v x:Tmp}(h:fn.results= #[.tmp t,.tmp u,.tmp v,.tmp x])(tmps:Array Value)(P:Program)(w:World):
  (results fn tmps).run P w= .ok (.tuple #[tmps.getD t undef,tmps.getD u undef,tmps.getD v undef,tmps.getD x undef]) w:=by
 simp[results,h]
theorem head_is (b c:UInt8)(r:List UInt8):(((b.toNat:Nat):Int)==((c.toNat:Nat):Int))=decide ((b::r).head? =some c):=by
 rw[List.head?_cons]
 by_cases e:b=c
 ·subst e
  rw[decide_eq_true rfl];exact beq_self_eq_true _
 ·rw[decide_eq_false (fun h=>e (by injection h))]
  rw[beq_eq_false_iff_ne];intro h;exact e (UInt8.toNat_inj.1 (by omega))
theorem nuE_at {D:List UInt8}{P:Int}{y v r:List UInt8}{m:Bool}(hD:D≠[])(hm:decide (y.head? =some 45)=m)(hs:spD (if m=true then y.tail else y)=(v,r)):
  nuE D P (101::y)=if v.length<1∨5<v.length∨r≠[] then none else some (D,P+(if m=true then-(lvD v:Int) else(lvD v:Int))):=by
 subst hm;have e0:nuE D P (101::y)=if D=[]∨(101:UInt8)≠101 then none else
  if(spD (if decide (y.head? =some 45)=true then y.tail else y)).1.length<1∨5< (spD (if decide (y.head? =some 45)=true then y.tail else y)).1.length∨(spD (if decide (y.head? =some 45)=true then y.tail else y)).2≠[] then none else some (D,P+(if decide (y.head? =some 45)=true then-(lvD (spD (if decide (y.head? =some 45)=true then y.tail else y)).1:Int) else(lvD (spD (if decide (y.head? =some 45)=true then y.tail else y)).1:Int))):=rfl
 rw[e0,if_neg (fun h=>Or.elim h hD (fun e=>e rfl)),hs]
theorem nuE_other {D:List UInt8}{P:Int}{r:List UInt8}(hD:D≠[])(h:decide (r.head? =some 101)=false):nuE D P r=if r=[] then some (D,P) else none:=by
 by_cases c:r=[]
 ·subst c
  rw[if_pos rfl,nuE_nil hD]
 ·rw[if_neg c,nuE_bad r c (of_decide_eq_false h)]
theorem lvD_lt: ∀(k:Nat) (v:List UInt8),v.length=k→(∀b∈v,isDg b=true)→lvD v<10^k:=by
 intro k
 induction k with
 |zero=>
  intro v hv _;obtain rfl:=List.length_eq_zero_iff.1 hv;exact Nat.one_pos
 |succ k ih=>
  intro v hv h
  rcases List.eq_nil_or_concat v with rfl| ⟨u,b,rfl⟩
  ·cases hv
  ·rw[List.concat_eq_append] at h hv⊢
   have h1:=ih u (by simpa using hv) fun c hc=>h c (List.mem_append.2 (.inl hc))
   have h2:=h b (List.mem_append.2 (.inr (List.mem_cons_self ..)));have h3:=of_decide_eq_true h2;rw[lvD_snoc,Nat.pow_succ];omega
theorem slice_at (s:ByteArray)(k:Nat)(b:UInt8)(r d:List UInt8)(h:RestAt s k (b::r)):(⟨d.toArray⟩:ByteArray)++s.extract k (k+1)=⟨(d++[b]).toArray⟩:=by
 obtain⟨-,-,-,h4⟩:=rest_cons h;rw[h4,str_snoc]
theorem numeral_any (s:ByteArray)(w:World)(hs:s.size≤400):
  yC 29 #[.string s] w (NuAns s w):=by
 obtain⟨g,k0,L,hR,hL,hg,hk0,hd⟩:=dash_cases s;have HI:Hid (∀(k:Nat) (r:List UInt8) (w1:World),RestAt s k r→yC 65 #[.string s,yi k] w1 fun e w'=>e= .returned (.bool (hdDg r))∧w'=w1):=fun k r w1 h=>isDigit_at s k r w1 h (by omega)
 have HQ:Hid (∀g d p ok,((nuL L=none∧ok=false)∨ ∃D P,nuL L=some (D,P)∧Value.bool g= .bool (dash s)∧d=⟨D.toArray⟩∧p=P∧ok=true)→NuOk s g d p ok):=by
  intro g d p ok h;unfold NuOk;rw[hL]
  rcases h with h| ⟨D,P,h1,h2,h3⟩
  ·exact .inl h
  ·exact .inr ⟨D,P,h1,by injection h2,h3⟩
 have HR:Hid _:=hR;have HG:Hid _:=hg;have HD:Hid _:=hd;clear hR hL hg hd
 go_enter func29,ntmps29
 go_upto_region 2 with fail
 go_cut [7] from 13 (fun v wx=>wx=w∧v= .bool g)
 case first=>
  rcases HD.out with⟨rfl,rfl,h1,h2⟩| ⟨rfl,rfl,h1| ⟨h1,h2⟩⟩
  ·have hix: ∀w,(Instr.index 9 (.string s) (yi 0)).run Tryz.prog w= .ok (.int .u8 45) w:=by
    have:=li s 0 h1;rw[h2] at this;exact this
   clear HD h2
   go_wp2_with fail
   go_meet
   exact⟨rfl,rfl⟩
  ·clear HD
   go_wp2_with fail
   go_meet
   exact⟨rfl,rfl⟩
  ·have hix: ∀w,(Instr.index 9 (.string s) (yi 0)).run Tryz.prog w= .ok (.int .u8 ((byt s 0:Nat):Int)) w:=li s 0 h1
   have hne:(((byt s 0:Nat):Int)==45)=false:=by
    rw[beq_eq_false_iff_ne];omega
   clear HD h2
   go_wp2_with fail
   go_meet
   exact⟨rfl,rfl⟩
 case rest=>
  obtain⟨rfl,rfl⟩:=hcut
  go_upto_if 21 with fail
  go_cut [6] from 13 (fun v wx=>wx=wc∧v=yi (k0:Int))
  case first=>
   rcases HD.out with⟨rfl,rfl,-,-⟩| ⟨rfl,rfl,-⟩
   ·clear HD
    go_wp2_with fail
    go_meet
    exact⟨rfl,rfl⟩
   ·clear HD
    go_wp2_with fail
    go_meet
    exact⟨rfl,rfl⟩
  case rest=>
   obtain⟨rfl,rfl⟩:=hcut;clear HD
   go_wp2_with fail
   go_loopw [6,8] (fun av dv wr=> ∃(k:Nat) (r d:List UInt8),av=yi k∧dv= .string ⟨d.toArray⟩∧RestAt s k r∧Dgs L d r∧d.length≤k∧wr=wc) (fun av _ _=>s.size-(intOf av).toNat)
   case atStart=>exact⟨k0,L,[],rfl,rfl,HR.out,dgs_start L,Nat.zero_le _,rfl⟩
   case round=>
    obtain⟨k,r,d,rfl,rfl,hr,hd,hdl,rfl⟩:=hrel;have hc:=HI.out k r wr hr
    cases hh:hdDg r
    ·rw[hh] at hc
     have hL1:=dgs_end hd hh;replace hL1:Hid _:=hL1;replace hc:Hid _:=hc;replace hr:Hid _:=hr;clear hd hh HR
     go_wp2_with fail
     refine Calls.mono hc.out ?_;rintro z w1 ⟨rfl,rfl⟩;clear hc
     go_upto_region 9 with fail
     obtain⟨pt,hpt⟩: ∃B,decide (r.head? =some 46)=B:=⟨_,rfl⟩
     go_cut [45] from 13 (fun v wx=>wx=w1∧v= .bool pt)
     case first=>
      cases r with
      |nil=>
       have hk:=rest_nil hr.out;obtain rfl:pt=false:=hpt.symm;clear hL1 hpt
       go_wp2_with fail
       go_meet
       exact⟨rfl,rfl⟩
      |cons b r=>
       have hix:=at_is s k b r hr.out;obtain⟨hk,-,-,-⟩:=rest_cons hr.out;have hv:=head_is b 46 r;rw[show(((46:UInt8).toNat:Nat):Int)=46 from rfl] at hv
       rw[hpt] at hv;clear hpt;clear hL1
       go_wp2_with fail
       go_meet
       exact⟨rfl,rfl⟩
     case rest=>
      obtain⟨rfl,rfl⟩:=hcut
      go_upto_if 45 with fail
      go_cut [6,8,9] from 13 (fun av dv pv wx=>wx=wc∧ ∃(k:Nat) (r D:List UInt8) (P:Int),av=yi k∧dv= .string ⟨D.toArray⟩∧pv=yi P∧ -500<P∧P<500∧RestAt s k r∧Hid (nuL L=nuE D P r))
      case first=>
       have hp:=hpt;clear hpt
       cases pt
       ·have hn:nuL L=nuE d 0 r:=by
         unfold nuL;rw[hL1.out];exact if_neg (of_decide_eq_false hp)
        replace hn:Hid _:=hn;clear hL1 hp
        go_wp2_with fail
        go_meet
        exact⟨rfl,k,r,d,0,rfl,rfl,rfl,by omega,by omega,hr.out,hn⟩
       ·obtain⟨r1,rfl⟩: ∃r1,r=46::r1:=⟨r.tail,head_cons (of_decide_eq_true hp)⟩
        obtain⟨hk,-,hr1,-⟩:=rest_cons hr.out;have hc:=HI.out (k+1) r1 wc hr1;replace hr1:Hid _:=hr1
        cases hh:hdDg r1
        ·have hn:nuL L=none:=by
          rw[nuL_pt hL1.out (spD_stop hh)];rfl
         rw[hh] at hc;replace hn:Hid _:=hn;replace hc:Hid _:=hc;clear hL1 hp hh hr;have e1:IntKind.i64.wrap ((k:Int)+1)=((k+1:Nat):Int):=by rw[IntWalk.i64_in _ ⟨by omega,by omega⟩];omega
         go_wp2_with fail
         refine Calls.mono hc.out ?_;rintro z w1 ⟨rfl,rfl⟩;clear hc
         go_wp2_with fail
         (try simp only[Exit.inBlock,Exit.then])
         refine bodyPost_ret (results_tmp4 rfl _ _ _) rfl ?_;exact⟨rfl,_,_,_,_,rfl,HQ.out _ _ _ _ (.inl ⟨hn.out,rfl⟩)⟩
        ·have hd0:=dgs_start r1
         rw[hh] at hc;have hn: ∀v r2,v≠[]→spD r1=(v,r2)→nuL L=nuE (d++v) (-(v.length:Int)) r2:=fun v r2 hv hs=>by
          rw[nuL_pt hL1.out hs];exact if_neg hv
         replace hn:Hid _:=hn;replace hc:Hid _:=hc;have hh1:Hid _:=hh;clear hL1 hp hh hr;have e1:IntKind.i64.wrap ((k:Int)+1)=((k+1:Nat):Int):=by rw[IntWalk.i64_in _ ⟨by omega,by omega⟩];omega
         go_wp2_with fail
         refine Calls.mono hc.out ?_;rintro z w1 ⟨rfl,rfl⟩;clear hc
         go_wp2_with fail
         go_loopw [6,8,9] (fun av dv pv wr=> ∃(j:Nat) (r v:List UInt8),av=yi j∧dv= .string ⟨(d++v).toArray⟩∧pv=yi (-(v.length:Int))∧RestAt s j r∧Dgs r1 v r∧(d++v).length≤j∧wr=w1) (fun av _ _ _=>s.size-(intOf av).toNat)
         case atStart=>exact⟨k+1,r1,[],rfl,by rw[List.append_nil],rfl,hr1.out,hd0,by rw[List.append_nil];omega,rfl⟩
         case round=>
          clear e1;obtain⟨j,r,v,rfl,rfl,rfl,hr,hd,hvl,rfl⟩:=hrel;have hc:=HI.out j r wr hr;have hj:=hr.1;have hvl0:v.length≤j:=by rw[List.length_append] at hvl;omega
          cases hh:hdDg r
          ·rw[hh] at hc
           have hv:=dgs_end hd hh;have hv0:v≠[]:=by
            rintro rfl;have h2:=hh1.out
            cases r1 with
            |nil=>cases h2
            |cons b r3=>
             have:=spD_cons (r:=r3) (show isDg b=true from h2)
             rw[hv] at this
             injection this with h3
             cases h3
           have hn2:=hn.out v r hv0 hv;replace hn2:Hid _:=hn2;replace hc:Hid _:=hc;replace hr:Hid _:=hr;clear hd hh hh1 hv hv0 hn
           go_wp2_with fail
           refine Calls.mono hc.out ?_;rintro z w1 ⟨rfl,rfl⟩;clear hc
           go_wp2_with fail
           go_meet
           exact⟨rfl,j,r,d++v,_,rfl,rfl,rfl,by omega,by omega,hr.out,hn2⟩
          ·rw[hh] at hc
           cases r with
           |nil=>cases hh
           |cons b r=>
            obtain⟨hk,-,hr2,-⟩:=rest_cons hr;have hd2:=dgs_next hd hh;have hst:=slice_at s j b r (d++v) hr;rw[List.append_assoc] at hst;have hp2: -(v.length:Int)-1= -((v++[b]).length:Int):=by simp;omega
            have e2:IntKind.i64.wrap (-(v.length:Int)-1)= -((v++[b]).length:Int):=by rw[IntWalk.i64_in _ ⟨by omega,by omega⟩];exact hp2
            have hz1:(⟨(d++v).toArray⟩:ByteArray).size≤400:=by rw[mk_size];omega
            have hz2:(s.extract j (j+1)).size≤1:=by rw[(rest_cons hr).2.2.2];exact Nat.le_refl _
            have hdl2:(d++(v++[b])).length≤j+1:=by rw[←List.append_assoc,List.length_append];simp only[List.length_singleton];omega
            have hl2:(v++[b]).length≤j+1:=by simp;omega
            generalize hVL:(v++[b]).length=VL at e2 hl2;replace hdl2:Hid _:=hdl2;replace hVL:Hid _:=hVL;replace hd2:Hid _:=hd2;replace hc:Hid _:=hc;replace hr2:Hid _:=hr2;replace hst:Hid _:=hst;clear hr hd hh hp2
            go_wp2_with fail
            refine Calls.mono hc.out ?_;rintro z w1 ⟨rfl,rfl⟩;clear hc
            go_wp2
            go_roundw
            case rel=>exact⟨j+1,r,v++[b],by go_num,by rw[←hst.out],by rw[hVL.out],hr2.out,hd2.out,hdl2.out,trivial⟩
            case measure=>simp[intOf];omega
      case rest=>
       obtain⟨rfl,k2,r2,D,P,rfl,rfl,rfl,p1,p2,hr2,hn⟩:=hcut;clear hr hL1;replace hr2:Hid _:=hr2
       by_cases hD:D=[]
       ·have hn2:nuL L=none:=by
         rw[hn.out,hD];exact nuE_none _
        subst hD;replace hn2:Hid _:=hn2;clear hn
        go_wp2_with fail
        (try simp only[Exit.inBlock,Exit.then])
        refine bodyPost_ret (results_tmp4 rfl _ _ _) rfl ?_;exact⟨rfl,_,_,_,_,rfl,HQ.out _ _ _ _ (.inl ⟨hn2.out,rfl⟩)⟩
       have hne:D.isEmpty=false:=List.isEmpty_eq_false_iff.2 hD;replace hD:Hid _:=hD
       go_upto_region 19 with fail
       clear hne;obtain⟨pe,hpe⟩: ∃B,decide (r2.head? =some 101)=B:=⟨_,rfl⟩
       go_cut [77] from 13 (fun v wx=>wx=wc∧v= .bool pe)
       case first=>
        clear hn
        cases r2 with
        |nil=>
         have hk:=rest_nil hr2.out;obtain rfl:pe=false:=hpe.symm;clear hpe
         go_wp2_with fail
         go_meet
         exact⟨rfl,rfl⟩
        |cons b r=>
         have hix:=at_is s k2 b r hr2.out;obtain⟨hk,-,-,-⟩:=rest_cons hr2.out;have hv:=head_is b 101 r;rw[show(((101:UInt8).toNat:Nat):Int)=101 from rfl] at hv
         rw[hpe] at hv;clear hpe
         go_wp2_with fail
         go_meet
         exact⟨rfl,rfl⟩
       case rest=>
        obtain⟨rfl,rfl⟩:=hcut
        go_upto_if 77 with fail
        go_cut [6,9] from 13 (fun av pv wx=>wx=wc∧ ∃(k:Nat) (r:List UInt8) (Q:Int),av=yi k∧pv=yi Q∧RestAt s k r∧Hid (nuL L=if r=[] then some (D,Q) else none))
        case first=>
         have hp:=hpe;clear hpe
         cases pe
         ·have hn2:=hn.out
          rw[nuE_other hD.out hp] at hn2;replace hn2:Hid _:=hn2;clear hn hp
          go_wp2_with fail
          go_meet
          exact⟨rfl,k2,r2,P,rfl,rfl,hr2.out,hn2⟩
         ·obtain⟨y,rfl⟩: ∃y,r2=101::y:=⟨r2.tail,head_cons (of_decide_eq_true hp)⟩
          obtain⟨hk,-,hy,-⟩:=rest_cons hr2.out;obtain⟨m,hm⟩: ∃m,decide (y.head? =some 45)=m:=⟨_,rfl⟩;have hn2: ∀v r,spD (if m=true then y.tail else y)=(v,r)→nuL L=if v.length<1∨5<v.length∨r≠[] then none else some (D,P+(if m=true then-(lvD v:Int) else(lvD v:Int))):=fun v r hs=>by
           rw[hn.out];exact nuE_at hD.out hm hs
          replace hn2:Hid _:=hn2;replace hy:Hid _:=hy;replace hm:Hid _:=hm;have e1:IntKind.i64.wrap ((k2:Int)+1)=((k2+1:Nat):Int):=by rw[IntWalk.i64_in _ ⟨by omega,by omega⟩];omega
          clear hn hp hr2
          go_upto_region 21 with fail
          go_cut [10] from 13 (fun v wx=>wx=wc∧v= .bool m)
          case first=>
           have hm2:=hm.out;have hy2:=hy.out
           cases y with
           |nil=>
            have hk3:=rest_nil hy2;obtain rfl:m=false:=by rw[←hm2];rfl
            clear hm2 hy2
            go_wp2_with fail
            go_meet
            exact⟨rfl,rfl⟩
           |cons b r=>
            have hix:=at_is s (k2+1) b r hy2;rw[show((k2+1:Nat):Int)=(k2:Int)+1 from by omega] at hix
            obtain⟨hk3,-,-,-⟩:=rest_cons hy2;have hv:=head_is b 45 r;rw[show(((45:UInt8).toNat:Nat):Int)=45 from rfl,hm2] at hv
            clear hm2 hy2
            go_wp2_with fail
            go_meet
            exact⟨rfl,rfl⟩
          case rest=>
           obtain⟨rfl,rfl⟩:=hcut;clear e1
           go_upto_if 90 with fail
           go_cut [6] from 13 (fun v wx=>wx=wc∧ ∃k:Nat,v=yi k∧RestAt s k (if m=true then y.tail else y))
           case first=>
            cases m
            ·clear hm hn2
             go_wp2_with fail
             go_meet
             exact⟨rfl,k2+1,rfl,hy.out⟩
            ·have hm2:=head_cons (of_decide_eq_true hm.out)
             have hy2:=hy.out;rw[hm2] at hy2;obtain⟨hk3,-,hy3,-⟩:=rest_cons hy2;replace hy3:Hid _:=hy3;have e1:IntKind.i64.wrap (((k2+1:Nat):Int)+1)=((k2+1+1:Nat):Int):=by rw[IntWalk.i64_in _ ⟨by omega,by omega⟩];omega
             clear hm hn2 hm2 hy2
             go_wp2_with fail
             go_meet
             exact⟨rfl,k2+1+1,by first|rfl|rw[←e1],hy3.out⟩
           case rest=>
            obtain⟨rfl,k3,rfl,hr3⟩:=hcut;generalize hz:(if m=true then y.tail else y)=z at hr3 hn2
            clear hy hz hm;have HR3:Hid _:=hr3;clear hr3
            go_wp2_with fail
            go_loopw [6,11,12] (fun av nv mv wr=> ∃(j n:Nat) (r v:List UInt8),av=yi j∧nv=yi n∧n<1000000∧Hid (n=lvD (v.take 6))∧mv=yi (v.length:Int)∧v.length≤j∧RestAt s j r∧Dgs z v r∧wr=wc) (fun av _ _ _=>s.size-(intOf av).toNat)
            case atStart=>exact⟨k3,0,z,[],rfl,rfl,by omega,rfl,rfl,by simp,HR3.out,dgs_start z,rfl⟩
            case round=>
             obtain⟨j,n,r,v,rfl,rfl,hn6,hnv,rfl,hvl,hr,hd,rfl⟩:=hrel;have hc:=HI.out j r wr hr;have hj:=hr.1
             cases hh:hdDg r
             ·rw[hh] at hc
              have hv:=dgs_end hd hh;have hn3:=hn2.out v r hv;replace hc:Hid _:=hc;replace hr:Hid _:=hr;clear hd hh hv hn2
              by_cases c1:v.length<1
              ·rw[if_pos (.inl c1)] at hn3
               replace hn3:Hid _:=hn3;clear hnv
               go_wp2_with fail
               refine Calls.mono hc.out ?_;rintro z w1 ⟨rfl,rfl⟩;clear hc
               go_wp2_with fail
               (try simp only[Exit.inBlock,Exit.then])
               refine bodyPost_ret (results_tmp4 rfl _ _ _) rfl ?_;exact⟨rfl,_,_,_,_,rfl,HQ.out _ _ _ _ (.inl ⟨hn3.out,rfl⟩)⟩
              by_cases c5:5<v.length
              ·rw[if_pos (.inr (.inl c5))] at hn3
               replace hn3:Hid _:=hn3;clear hnv
               go_wp2_with fail
               refine Calls.mono hc.out ?_;rintro z w1 ⟨rfl,rfl⟩;clear hc
               go_wp2_with fail
               (try simp only[Exit.inBlock,Exit.then])
               refine bodyPost_ret (results_tmp4 rfl _ _ _) rfl ?_;exact⟨rfl,_,_,_,_,rfl,HQ.out _ _ _ _ (.inl ⟨hn3.out,rfl⟩)⟩
              have hnl:lvD v=n:=by rw[hnv.out,List.take_of_length_le (by omega)]
              rw[hnl] at hn3;have hn4:nuL L=if r=[] then some (D,P+(if m=true then-(n:Int) else n)) else none:=by
               rw[hn3]
               by_cases c:r=[]
               ·rw[if_pos c,if_neg (fun h=>by rcases h with h|h|h;exact c1 h;exact c5 h;exact h c)]
               ·rw[if_neg c,if_pos (.inr (.inr c))]
              replace hn4:Hid _:=hn4;clear hn3 hnl hnv
              cases m
              ·have e2:IntKind.i64.wrap (P+(n:Int))=P+(n:Int):=IntWalk.i64_in _ ⟨by omega,by omega⟩
               go_wp2_with fail
               refine Calls.mono hc.out ?_;rintro z w1 ⟨rfl,rfl⟩;clear hc
               go_wp2_with fail
               go_meet
               exact⟨rfl,j,r,_,rfl,rfl,hr.out,hn4⟩
              ·have e2:IntKind.i64.wrap (-(n:Int))= -(n:Int):=IntWalk.i64_in _ ⟨by omega,by omega⟩
               have e3:IntKind.i64.wrap (P+ -(n:Int))=P+ -(n:Int):=IntWalk.i64_in _ ⟨by omega,by omega⟩
               go_wp2_with fail
               refine Calls.mono hc.out ?_;rintro z w1 ⟨rfl,rfl⟩;clear hc
               go_wp2_with fail
               go_meet
               exact⟨rfl,j,r,_,rfl,rfl,hr.out,hn4⟩
             ·rw[hh] at hc
              cases r with
              |nil=>cases hh
              |cons b r=>
               obtain⟨hk,-,hr2,-⟩:=rest_cons hr;have hix:=at_is s j b r hr;have hd2:=dgs_next hd hh;have hb:=of_decide_eq_true (show isDg b=true from hh)
               have hll:(v++[b]).length=v.length+1:=by simp
               obtain⟨x,hx⟩: ∃x,b.toNat=x:=⟨_,rfl⟩;have ec:IntKind.i64.wrap (x:Int)=(x:Int):=IntWalk.i64_in _ ⟨by omega,by omega⟩;have eN:v.length<6→n*10+(x-48)<1000000∧n*10+(x-48)=lvD ((v++[b]).take 6):=fun c=>by
                have hnl:n=lvD v:=by rw[hnv.out,List.take_of_length_le (by omega)]
                have hlt:=lvD_lt _ (v++[b]) rfl (by
                 have:=spD_dig z;unfold Dgs at hd2;rw[hd2] at this;exact fun c hc=>this c (List.mem_append.2 (.inl hc)))
                have h6:10^ (v++[b]).length≤10^6:=Nat.pow_le_pow_right (by omega) (by omega);rw[List.take_of_length_le (by omega),lvD_snoc,←hnl,hx];rw[lvD_snoc,←hnl,hx] at hlt;exact⟨by omega,rfl⟩
               have eT: ¬v.length<6→n=lvD ((v++[b]).take 6):=fun c=>by
                rw[hnv.out,List.take_append_of_le_length (by omega)]
               rw[hx] at hix hb;replace hx:Hid _:=hx;replace hd2:Hid _:=hd2;replace hc:Hid _:=hc;replace hr2:Hid _:=hr2;replace hll:Hid _:=hll;replace eN:Hid _:=eN;replace eT:Hid _:=eT;clear hr hd hh hn2 hnv
               by_cases c6:v.length<6
               ·obtain⟨f1,f2⟩:=eN.out c6
                obtain⟨q,hq⟩: ∃q,n*10+(x-48)=q:=⟨_,rfl⟩;rw[hq] at f1 f2;have g1:10*(n:Int)+(x:Int)-48=(q:Int):=by omega
                have g2:IntKind.i64.wrap (10*(n:Int)+(x:Int))=10*(n:Int)+(x:Int):=IntWalk.i64_in _ ⟨by omega,by omega⟩;have g3:IntKind.i64.wrap (10*(n:Int))=10*(n:Int):=IntWalk.i64_in _ ⟨by omega,by omega⟩;have g4:IntKind.i64.wrap (q:Int)=(q:Int):=IntWalk.i64_in _ ⟨by omega,by omega⟩;replace f2:Hid _:=f2;clear hq eN eT
                go_wp2_with fail
                refine Calls.mono hc.out ?_;rintro z w1 ⟨rfl,rfl⟩;clear hc
                go_wp2
                go_roundw
                case rel=>exact⟨j+1,q,r,v++[b],by go_num,by go_num,f1,f2,by rw[hll.out];go_num,by rw[hll.out];omega,hr2.out,hd2.out,trivial⟩
                case measure=>simp[intOf];omega
               ·have f2:Hid _:=eT.out c6
                clear eN eT
                go_wp2_with fail
                refine Calls.mono hc.out ?_;rintro z w1 ⟨rfl,rfl⟩;clear hc
                go_wp2
                go_roundw
                case rel=>exact⟨j+1,n,r,v++[b],by go_num,rfl,hn6,f2,by rw[hll.out];go_num,by rw[hll.out];omega,hr2.out,hd2.out,trivial⟩
                case measure=>simp[intOf];omega
        case rest=>
         obtain⟨rfl,k4,r4,Q,rfl,rfl,hr4,hn4⟩:=hcut;clear hn hr2
         cases r4 with
         |nil=>
          have hk:=rest_nil hr4;have hn5:=hn4.out;rw[if_pos rfl] at hn5;replace hn5:Hid _:=hn5;clear hn4 hr4;subst hk
          go_wp2_with fail
          (try simp only[Exit.inBlock,Exit.then])
          refine bodyPost_ret (results_tmp4 rfl _ _ _) rfl ?_;exact⟨rfl,_,_,_,_,rfl,HQ.out _ _ _ _ (.inr ⟨D,Q,hn5.out,by rw[HG.out],rfl,rfl,by simp⟩)⟩
         |cons b r=>
          obtain⟨hk,-,-,-⟩:=rest_cons hr4;have hn5:=hn4.out;rw[if_neg (by simp)] at hn5;replace hn5:Hid _:=hn5;have hb:((k4:Int)==(s.size:Int))=false:=by rw[beq_eq_false_iff_ne];omega
          clear hn4 hr4
          go_wp2_with fail
          (try simp only[Exit.inBlock,Exit.then])
          refine bodyPost_ret (results_tmp4 rfl _ _ _) rfl ?_;exact⟨rfl,_,_,_,_,rfl,HQ.out _ _ _ _ (.inl ⟨hn5.out,by first|rfl|simp[hb]⟩)⟩
    ·rw[hh] at hc
     cases r with
     |nil=>cases hh
     |cons b r=>
      obtain⟨hk,-,hr2,-⟩:=rest_cons hr;have hd2:=dgs_next hd hh;have hst:=slice_at s k b r d hr;have hz1:(⟨d.toArray⟩:ByteArray).size≤400:=by rw[mk_size];omega
      have hz2:(s.extract k (k+1)).size≤1:=by rw[(rest_cons hr).2.2.2];exact Nat.le_refl _
      have hdl2:(d++[b]).length≤k+1:=by simp;omega
      replace hdl2:Hid _:=hdl2;replace hd2:Hid _:=hd2;replace hc:Hid _:=hc;replace hr2:Hid _:=hr2;replace hst:Hid _:=hst;clear hr hd hh
      go_wp2_with fail
      refine Calls.mono hc.out ?_;rintro z w1 ⟨rfl,rfl⟩;clear hc
      go_wp2
      go_roundw
      case rel=>exact⟨k+1,r,d++[b],by go_num,by rw[←hst.out],hr2.out,hd2.out,hdl2.out,trivial⟩
      case measure=>simp[intOf];omega
theorem byt_list (x:List UInt8)(i:Nat)(h:i<x.length):byt ⟨x.toArray⟩ i=(x[i]).toNat:=by
 rw[←KD ⟨x.toArray⟩ i (by rw[mk_size];exact h)];rfl
theorem digB_list (x:List UInt8):digB ⟨x.toArray⟩=true↔x≠[]∧ ∀b∈x,isDg b=true:=by
 rw[digB_iff,mk_size]
 constructor
 ·rintro⟨h1,h2⟩
  refine⟨fun e=>h1 (by rw[e];rfl),fun b hb=> ?_⟩
  obtain⟨i,hi,rfl⟩:=List.getElem_of_mem hb;have:=h2 i hi;rw[byt_list x i hi] at this;exact decide_eq_true this
 ·rintro⟨h1,h2⟩
  refine⟨fun e=>h1 (List.length_eq_zero_iff.1 e),fun i hi=> ?_⟩
  rw[byt_list x i hi];exact of_decide_eq_true (h2 _ (List.getElem_mem hi))
theorem pv_list (x:List UInt8): ∀k,k≤x.length→pv ⟨x.toArray⟩ k=lvD (x.take k):=by
 intro k
 induction k with
 |zero=>intro _;rfl
 |succ k ih=>
  intro h;have e:x.take (k+1)=x.take k++[x[k]]:=by rw[List.take_succ_eq_append_getElem (by omega)]
  rw[e,lvD_snoc,←ih (by omega)]
  show pv _ k*10+(byt _ k-48)=_
  rw[byt_list x k (by omega)]
theorem pv_all (x:List UInt8):pv ⟨x.toArray⟩ x.length=lvD x:=by
 rw[pv_list x _ (Nat.le_refl _),List.take_length]
theorem dash_list (x:List UInt8):dash ⟨x.toArray⟩=decide (x.head? =some 45)∧(undash ⟨x.toArray⟩).data.toList=if decide (x.head? =some 45)=true then x.tail else x:=by
 have e1:dash ⟨x.toArray⟩=Lib.hasPrefix x [45]:=rfl;have e2:(undash ⟨x.toArray⟩).data.toList=Lib.trimPrefix x [45]:=rfl;rw[e1,e2]
 cases x with
 |nil=>exact⟨rfl,rfl⟩
 |cons b r=>
  have hp:Lib.hasPrefix (b::r) [45]=decide ((b::r).head? =some 45):=by
   rw[List.head?_cons]
   by_cases hb:b=45
   ·subst hb
    rfl
   ·rw[decide_eq_false (fun h=>hb (by injection h))]
    show([45].isPrefixOf (b::r))=false
    simp only[List.isPrefixOf];rw[show((45:UInt8)==b)=false from beq_eq_false_iff_ne.2 fun e=>hb e.symm]
    rfl
  refine⟨hp, ?_⟩;unfold Lib.trimPrefix;rw[hp]
  split
  ·rfl
  ·rfl
theorem mk_list (s:ByteArray):(⟨s.data.toList.toArray⟩:ByteArray)=s:=by
 apply ByteArray.ext;exact Array.toArray_toList
theorem rp_list (y:List UInt8):rpV ⟨y.toArray⟩=match rpL y with|some p=>(p,true)|none=>(0,false):=by
 obtain⟨d1,d2⟩:=dash_list y;obtain⟨m,hm⟩: ∃m,decide (y.head? =some 45)=m:=⟨_,rfl⟩;rw[hm] at d1 d2;obtain⟨x,hx⟩: ∃x,(if m=true then y.tail else y)=x:=⟨_,rfl⟩
 rw[hx] at d2;have hu:undash ⟨y.toArray⟩=⟨x.toArray⟩:=by rw[←d2,mk_list]
 unfold rpV rpL;simp only;rw[hm,hx,hu,d1,mk_size,pv_all]
 by_cases h:x.length≤5∧x≠[]∧(∀b∈x,isDg b=true)
 ·rw[if_pos h,if_pos ⟨h.1,(digB_list x).2 h.2⟩]
 ·rw[if_neg h,if_neg (fun c=>h ⟨c.1,(digB_list x).1 c.2⟩)]
theorem nm_list (t:ByteArray)(ht:t.size≤400):
  nmV t=match nmL (undash t).data.toList with
   |none=>(nmZ,1)
   |some (d,p)=>if p< -6000∨6000<p then(nmZ,3) else((dash t,⟨d.toArray⟩,p),0):=by
 obtain⟨l,hl⟩: ∃l,(undash t).data.toList=l:=⟨_,rfl⟩;have hC:nmC t=(⟨(cutc 101 l).1.toArray⟩,⟨(cutc 101 l).2.1.toArray⟩,(cutc 101 l).2.2):=by
  unfold nmC cutS;rw[hl,cut_is]
 have hD:nmD t=(⟨(cutc 46 (cutc 101 l).1).1.toArray⟩,⟨(cutc 46 (cutc 101 l).1).2.1.toArray⟩,(cutc 46 (cutc 101 l).1).2.2):=by
  unfold nmD cutS;rw[hC];simp only;rw[cut_is]
 have hP:nmP t=if(cutc 101 l).2.2=true then rpV ⟨(cutc 101 l).2.1.toArray⟩ else(0,true):=by
  unfold nmP;rw[hC]
 rw[hl];unfold nmV nmQ;rw[if_neg (by omega),hP,hD,rp_list];unfold nmL;simp only;generalize cutc 101 l=c;generalize cutc 46 c.1=d;obtain⟨c1,c2,c3⟩:=c;obtain⟨d1,d2,d3⟩:=d;simp only;have hcat:(⟨d1.toArray⟩:ByteArray)++⟨d2.toArray⟩=⟨(d1++d2).toArray⟩:=by
  apply ByteArray.ext;rw[ByteArray.data_append];simp
 rw[hcat,mk_size];have hdg:=digB_list (d1++d2);have hz:d2.length=0↔d2=[]:=List.length_eq_zero_iff
 by_cases hbad:d1++d2=[]∨ ¬(∀b∈d1++d2,isDg b=true)∨(d3=true∧d2=[])
 ·rw[if_pos hbad,if_pos]
  rcases hbad with h|h|h
  ·refine .inr (.inl ?_)
   cases hb:digB ⟨(d1++d2).toArray⟩
   ·rfl
   ·exact absurd h (hdg.1 hb).1
  ·refine .inr (.inl ?_)
   cases hb:digB ⟨(d1++d2).toArray⟩
   ·rfl
   ·exact absurd (hdg.1 hb).2 h
  ·exact .inr (.inr ⟨h.1,hz.2 h.2⟩)
 ·have g:digB ⟨(d1++d2).toArray⟩=true:=hdg.2 ⟨fun e=>hbad (.inl e),Classical.byContradiction fun e=>hbad (.inr (.inl e))⟩
  have g3: ¬(d3=true∧d2.length=0):=fun e=>hbad (.inr (.inr ⟨e.1,hz.1 e.2⟩))
  rw[if_neg hbad]
  cases c3 with
  |false=>
   simp only[Bool.false_eq_true,if_false];rw[if_neg (fun h=>by
    rcases h with h|h|h
    ·cases h
    ·rw[g] at h;cases h
    ·exact g3 h),Int.zero_sub]
  |true=>
   rw[if_pos rfl,if_pos rfl]
   cases rpL c2 with
   |none=>
    simp only[Option.map_none];rw[if_pos (.inl trivial)]
   |some q=>
    simp only[Option.map_some];rw[if_neg (fun h=>by
     rcases h with h|h|h
     ·cases h
     ·rw[g] at h;cases h
     ·exact g3 h)]
theorem Jo {k:Nat}(hk:1≤k∧k≤8){g:Bool}{xs:List Nat}{p:Int}(sa:Dg.Small 4294967296 xs)(hc:chk xs=0)(h:enE k g xs p=0):
  ¬(p< -20000∨20000<p)∧dA (rdN k) (dgN k) (lsI k) (gsI k) (decide (k≤3)) (bare ⟨g,Dg.vl 4294967296 xs,(ai (rdN k):Int)*p⟩).n (bare ⟨g,Dg.vl 4294967296 xs,(ai (rdN k):Int)*p⟩).e=true∧aS (Dg.dg 4294967296 (bare ⟨g,Dg.vl 4294967296 xs,(ai (rdN k):Int)*p⟩).n) (bare ⟨g,Dg.vl 4294967296 xs,(ai (rdN k):Int)*p⟩).e=0:=by
 obtain⟨-,-,-,-,-,-,lg,-,-,-,-,hg⟩:=eR hk;obtain⟨g1,g2⟩:=Gm hk;have hp: ¬(p< -20000∨20000<p):=fun c=>by
  unfold enE at h;rw[if_pos c] at h;exact absurd h (by decide)
 have hx:xs.length≠0:=fun c=>by
  unfold enE at h;rw[if_neg hp,if_pos c] at h;exact absurd h (by decide)
 have hn:=mY hk (ng:=g) hc hx hp;rw[h] at hn;have hi:inR (rdN k) (dgN k) (lsI k) (gsI k) (decide (k≤3)) (bare ⟨g,Dg.vl 4294967296 xs,(ai (rdN k):Int)*p⟩).n (bare ⟨g,Dg.vl 4294967296 xs,(ai (rdN k):Int)*p⟩).e=true:=by
  by_cases c:inR (rdN k) (dgN k) (lsI k) (gsI k) (decide (k≤3)) (bare ⟨g,Dg.vl 4294967296 xs,(ai (rdN k):Int)*p⟩).n (bare ⟨g,Dg.vl 4294967296 xs,(ai (rdN k):Int)*p⟩).e=true
  ·exact c
  ·rw[if_neg c] at hn
   exact absurd hn (by decide)
 have hvn:Dg.vl 4294967296 xs≠0:=fun h=>by
  obtain⟨n1,-⟩:=aF hc;exact Dg.vl_ne_zero 4294967296 (by omega) xs (by intro e;subst e;simp at hx) n1 h
 have hb:=(gN (t:=⟨g,Dg.vl 4294967296 xs,(ai (rdN k):Int)*p⟩) hvn).1;refine⟨hp, ?_, ?_⟩
 ·rw[nN _ _ lg,←jK _ _ lg]
  exact hi
 ·unfold inR at hi
  rcases of_decide_eq_true hi with c| ⟨c1,c2,-,-⟩
  ·exact absurd c hb
  refine nt ?_ (by omega) (by omega);refine Nat.le_trans (jq (L:=1200) (wZ (Nat.le_refl _)) ?_) (Nat.le_refl _);omega
theorem RK {R D L G:Int}{gr s:Bool}{n:Nat}{e way:Int}(h1:1≤D)(hLG:L≤G)(h0:n≠0)(hh:dA R D L G gr n e=true):(cI R D L G gr s n 1 e way).ex=true∧L≤cP R D L gr n e:=by
 have hs:L≤cP R D L gr n e∧cP R D L gr n e≤G∧(ai R:Int)*cP R D L gr n e≤e+(tz n:Int):=by
  unfold dA at hh
  rcases of_decide_eq_true hh with h|h
  ·exact absurd h h0
  ·exact h
 have hc:dj R D L gr n 1 e=cP R D L gr n e:=by
  unfold dj cP;rw[lU h0]
 refine⟨?_,hs.1⟩;rw[kJ gr s n 1 e way h1 hLG h0 (by omega)];refine decide_eq_true ?_;unfold gF shP;rw[hc];exact(nV s n e _ hs.2.2).1
theorem OC {k:Nat}(hk:1≤k∧k≤8)(way:Int)(g:Bool)(t:ak)(fl:Int)(h0:t.n≠0)(hh:dA (rdN k) (dgN k) (lsI k) (gsI k) (decide (k≤3)) t.n t.e=true)
  {xs:List Nat} {p:Int} (sa:Dg.Small 4294967296 xs) (hc:chk xs=0) (he:enE k t.s xs p=0) (hb:bare ⟨t.s,Dg.vl 4294967296 xs,(ai (rdN k):Int)*p⟩=bare t):
  m8 k way 2 g t fl=(fq k 2 t.s xs p,bits .or .i64 fl 0,0):=by
 obtain⟨-,-,d1,-,-,-,lg,-,w64,-,-,hg⟩:=eR hk;have hD:(1:Int)≤(dgN k:Int):=by omega
 obtain⟨o1,o2,o3⟩:=mC (s:=t.s) (way:=way) hD lg h0 hh;obtain⟨q1,q2,q3,q4⟩:=oj (s:=t.s) (way:=way) hD lg h0 hh;obtain⟨ex,hL⟩:=RK (s:=t.s) (way:=way) hD lg h0 hh;have hsp:ia (rdN k) (dgN k) (lsI k) (gsI k) (decide (k≤3)) (fY k way t).d (fY k way t).p:=nW hD lg h0 (by omega) o1 o2;obtain⟨l15,p1,p2,-,-,-⟩:=qj hg hsp;have hd:(fY k way t).d≠0:=fun c=>q4 (q2.symm.trans c)
 have hs:(fY k way t).s=t.s:=q1;have hset:pG k way (fY k way t)=(2,t.s,(fY k way t).d,(fY k way t).p,0):=by
  unfold pG;rw[if_neg (fun c=>by rw[show(fY k way t).ov=false from o1] at c;cases c),if_neg (fun c=>by have:=c.2;rw[show(fY k way t).p=cP (rdN k) (dgN k) (lsI k) (decide (k≤3)) t.n t.e from q3] at this;omega),if_neg hd,if_pos (show(fY k way t).ex=true from ex),hs]
 have hcd:chk (Dg.dg 4294967296 (fY k way t).d)=0:=pJ (Dg.norm_dg _ _ (by omega)) (by omega);have hl0:(Dg.dg 4294967296 (fY k way t).d).length≠0:=fun c=>hd ((Dg.dg_nil_iff 4294967296 _ (by omega)).1 (List.length_eq_zero_iff.1 c))
 have hv:=Dg.vl_dg 4294967296 (fY k way t).d (by omega);have hb2:bare ⟨t.s,Dg.vl 4294967296 (Dg.dg 4294967296 (fY k way t).d),(ai (rdN k):Int)*(fY k way t).p⟩=bare t:=by
  rw[hv];have:=o3;rw[q1] at this;exact this
 have hE:enE k t.s (Dg.dg 4294967296 (fY k way t).d) (fY k way t).p=0:=by
  rw[mY hk hcd hl0 (by omega),hb2,jK _ _ lg,hh,if_pos rfl]
 unfold m8 Dw;rw[if_pos rfl,hset];simp only;rw[(xH hk hcd).1,hE,if_pos rfl,(xH hk hcd).2,(xH hk hc).2];rw[Oe sa (Dg.small_dg _ _ (by omega)) hc hcd he hE (hb2.trans hb.symm)]
def mvV (c:Int)(g:Bool)(fm:Int):Int×Bool×Int:=if c=1 then(1,g&&decide (fm=1),0) else if c≠5∧fm=1 then(c,g,0) else(AZ fm,false,16)
def cvT (k:Nat)(way c:Int)(g:Bool)(x:ak):ByteArray×Int×Int:=
 if c=2 then fitT k way x.s (Dg.dg 4294967296 x.n) [1] x.e else Dw k (mvV c g (dK k)).1 (mvV c g (dK k)).2.1 0 0 (mvV c g (dK k)).2.2
theorem fit_num {k:Nat}(hk:1≤k∧k≤8){way:Int}(hw:1≤way∧way≤5){x:ak}(sx:iZ x)(h0:x.n≠0):
  fitT k way x.s (Dg.dg 4294967296 x.n) [1] x.e=Dw k (pG k way (fY k way x)).1 (pG k way (fY k way x)).2.1 (pG k way (fY k way x)).2.2.1 (pG k way (fY k way x)).2.2.2.1 (pG k way (fY k way x)).2.2.2.2:=by
 have hg:=(eR hk).2.2.2.2.2.2.2.2.2.2.2;have hl:(Dg.dg 4294967296 x.n).length≤1200:=jq sx.1 (by omega);have hne: ¬(Dg.dg 4294967296 x.n).length=0:=fun c=>h0 ((Dg.dg_nil_iff 4294967296 _ (by omega)).1 (List.length_eq_zero_iff.1 c))
 have hq:eA (Dg.dg 4294967296 x.n) [1] x.e=0:=by
  unfold eA;rw[if_pos (pJ (Dg.norm_dg _ _ (by omega)) hl),if_pos (show chk [1]=0 from rfl),if_neg]
  rintro(c|c)
  ·cases c
  ·unfold eJ at c
   simp at c;have:=sx.2;omega
 have hC:eE (Dg.dg 4294967296 x.n) [1] x.e (rdN k) (dgN k) (lsI k) (gsI k) way=0:=by rw[Bq hq hg,if_pos (way_is.2 hw)]
 have hP:df (Dg.dg 4294967296 x.n) [1] x.e (rdN k) (dgN k) (lsI k) (gsI k) (decide (k≤3)) x.s way=fY k way x:=by
  unfold df;rw[if_pos hC,if_neg hne,Dg.vl_dg _ _ (by omega)];rfl
 unfold fitT;rw[if_pos hC,hP]
theorem five_odd (n:Nat)(h:n % 2=1): ∀k,(n*5^k) % 2=1:=by
 intro k
 induction k with
 |zero=>rw[Nat.pow_zero,Nat.mul_one];exact h
 |succ k ih=>
  rw[Nat.pow_succ,←Nat.mul_assoc];generalize n*5^k=m at*;omega
theorem odd_two {m t:Nat}(h:m % 2=1):tz (m*2^t)=t∧m*2^t/2^tz (m*2^t)=m:=by
 have e:tz (m*2^t)=t:=F8 (m:=m/2) (by rw[Nat.mul_comm];congr 1;omega);refine⟨e, ?_⟩;rw[e,Nat.mul_div_cancel _ (Nat.pow_pos (by omega))]
theorem odd_of {N:Nat}(h:N≠0):N/2^tz N % 2=1∧N=N/2^tz N*2^tz N:=by
 obtain⟨m,hm⟩:=fO h;have hp:0<2^tz N:=Nat.pow_pos (by omega);have e:N/2^tz N=2*m+1:=by
  conv=>lhs;lhs;rw[hm]
  exact Nat.mul_div_cancel_left _ hp
 rw[e];exact⟨by omega,by rw[Nat.mul_comm];exact hm⟩
end Go.Proofs.YtpgijbdgljkeeaaGreatDoor
