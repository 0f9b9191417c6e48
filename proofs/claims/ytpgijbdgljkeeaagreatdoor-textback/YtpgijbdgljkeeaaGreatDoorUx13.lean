/-
  Texts laid together: DecW, Minus, Ref2, Dy3, Read2, Roo1, Gr1, Dy5, Dy7, Dy9, Gr6, Tx4, Tx7, Co16, Co18, Ar1, Tx1, Read3, Gh3, Ce9, As4, Bl6, BlN, Tx12, Tx14.
-/
import Derived.Test.YtpgijbdgljkeeaaGreatDoorUx06
import Derived.Test.YtpgijbdgljkeeaaGreatDoorUx07
import Derived.Test.YtpgijbdgljkeeaaGreatDoorUx08
import Derived.Test.YtpgijbdgljkeeaaGreatDoorUx09
set_option maxRecDepth 100000
set_option maxHeartbeats 3200000
namespace Go.Proofs.YtpgijbdgljkeeaaGreatDoor
open _root_.Go.Proofs.Tryz
open Go.RowKit
theorem wX {B:Nat}{w w1 w2:World}{g:Nat}(h:Below B w w1)(hB:B≤w1.heap.size)(hg:w1.grownBy w2 (some g))(hle:B≤g):Below B w w2:=
 h.grown hg hB (fun k hk=>by cases hk;exact hle)
theorem Own.shapeOf {w:World}{base e:Nat}{k:IntKind}{v:Value}{zs:List Nat}(h:Own w base e k v zs)(hp:zs≠[]): ∃g cap,v= .slice (some ⟨g,0,none⟩) zs.length cap∧base≤g∧g<w.heap.size:=by
 rcases h.2 with⟨hv,hn⟩| ⟨g,cap,cur,hv,hb,hh,_⟩
 ·exact absurd (List.eq_nil_of_length_eq_zero hn) hp
 ·exact⟨g,cap,hv,hb,by rw[Array.getElem?_eq_some_iff] at hh;exact hh.1⟩
def afn (w:World)(L n m:Nat)(lv rv:Value)(wr:World):Prop:=
 ∃ds len,rv= .slice (some ⟨w.heap.size,0,none⟩) len L∧Own wr w.heap.size 138 .u32 (.slice (some ⟨w.heap.size,0,none⟩) len L) (Dg.dg 4294967296 m)∧Own wr (w.heap.size+1) 5 .u8 lv (ds.map (fun d=>48+d))∧L5 n ds m∧yB w wr∧w.heap.size<wr.heap.size∧len≤L∧ds.length≤32*L+9
def afo (w:World)(L n m len base0:Nat)(qs:List Nat)(lv gv jv:Value)(wr:World):Prop:=
 ∃ds j g,gv= .int .u32 ((g:Nat):Int)∧jv=yi ((j:Nat):Int)∧j≤9∧ds.length=base0+j∧g<1000000000∧Own wr w.heap.size 138 .u32 (.slice (some ⟨w.heap.size,0,none⟩) len L) qs∧Own wr (w.heap.size+1) 5 .u8 lv (ds.map (fun d=>48+d))∧Xp n m ds j g∧yB w wr∧w.heap.size<wr.heap.size
theorem Qb {w wr w3:World}{L len g:Nat}{qs es:List Nat}{lv v':Value}(bel:yB w wr)(hsz:w.heap.size<wr.heap.size)
  (ownQ:Own wr w.heap.size 138 .u32 (.slice (some ⟨w.heap.size,0,none⟩) len L) qs) (ownL:Own wr (w.heap.size+1) 5 .u8 lv (es.map (fun d=>48+d)))
  (hown':w3.ownsRow (w.heap.size+1) 5 1 v' (es.length+1) ((es.map ((fun n:Nat=>Value.int .u8 (n:Int))∘fun d=>48+d))++[.int .u8 (48+(g:Int) % 10)]))
  (hgrow:(wr.alloc (.cells #[.int .u8 (48+(g:Int) % 10)] 5)).grownBy w3 lv.ownBlock):
  Own w3 w.heap.size 138 .u32 (.slice (some ⟨w.heap.size,0,none⟩) len L) qs∧Own w3 (w.heap.size+1) 5 .u8 v' ((es++[g % 10]).map (fun d=>48+d))∧yB w w3∧w.heap.size<w3.heap.size:=by
 have b1:yB wr (wr.alloc (.cells #[.int .u8 (48+(g:Int) % 10)] 5)):=(Below.refl _ _).alloc (Nat.le_refl _) _;refine⟨(ownQ.l b1).keep2 (ownL.l b1) (by omega) hgrow, ?_, ?_, ?_⟩
 ·unfold Own
  have e:(48+(g:Int) % 10)=((48+g % 10:Nat):Int):=by omega
  rw[e] at hown'
  simpa using hown'
 ·refine(aa bel b1).grown hgrow (Nat.le_trans bel.size b1.size) (fun k hk=> ?_)
  have:=(World.ownsRow.lt ownL k hk).1;omega
 ·exact Nat.lt_of_lt_of_le hsz (Nat.le_trans b1.size hgrow.size)
theorem Jq {xs ys ps:List Nat}{k c x y:Nat}(h:Z7 xs ys ps k c)(hk:k<xs.length)(hx:xs.getD k 0=x)(hy:ys.getD k 0=y)(hxl:x<4294967296)(hyl:y<4294967296):
  Z7 xs ys (ps.set k ((x+4294967296-y-c) % 4294967296)) (k+1) (brw x y c):=by
 obtain⟨h1,h2,h3,h4⟩:=h;refine⟨by simpa using h1,Dg.small_set h2 _ _ (Nat.mod_lt _ (by omega)),RN _ _ _, ?_⟩;rw[sQ _ _ _ (by omega),pO xs,pO ys,hx,hy];have e:x+4294967296*brw x y c=(x+4294967296-y-c) % 4294967296+y+c:=by unfold brw;split<;>omega
 have e2:4294967296^k*(x+4294967296*brw x y c)=4294967296^k*((x+4294967296-y-c) % 4294967296+y+c):=by rw[e]
 have e3:4294967296^ (k+1)*brw x y c=4294967296^k*(4294967296*brw x y c):=by rw[Nat.pow_succ,Nat.mul_assoc]
 rw[Nat.mul_add,Nat.mul_add,Nat.mul_add] at e2;rw[e3];omega
theorem zL (va vb:Value)(xs ys:List Nat)(w:World)(ha:Rd w .u32 va xs)(hb:Rd w .u32 vb ys)(sa:Dg.Small 4294967296 xs)(sb:Dg.Small 4294967296 ys)(hla:xs.length≤1000000)(hlb:ys.length≤xs.length)(hv:Dg.vl 4294967296 ys≤Dg.vl 4294967296 xs):
  yC 206 #[va,vb] w (Num w (Dg.vl 4294967296 xs-Dg.vl 4294967296 ys)):=by
 obtain⟨i0,hi,hz0,hz1,hz2⟩:=info_parts Tryz.infoU32;obtain⟨ao,ca,rfl,-,-,hca⟩:=ha;obtain⟨bo,cb,rfl,-,-,hcb⟩:=hb;have HV:Hid _:=hv;clear hv
 go_enter func206,ntmps206
 go_wp2_with (at_make;refine wpList_make_full _ rfl _ _ 100 rfl w.heap.size 138 i0 (.int .u32 0) 1 underlying100 hi hz0 hz1 _ _ _ _ xs.length rfl rfl (by omega) (by omega) ?b2 ?b3 (Nat.le_refl _) ?_)
 case b2=>rw[hz2];omega
 case b3=>unfold maxLen;omega
 intro w0 hown0 hgrow0;have own0:=gL hown0;have bel0:yB w w0:=(Below.refl _ _).grown hgrow0 (Nat.le_refl _) (fun k h=>by cases h)
 clear hown0 hgrow0
 go_wp2
 go_loopw [6,15] (fun cv kv wr=> ∃(k c:Nat) (ps:List Nat),k≤ys.length∧kv=yi k∧cv= .int .u32 c∧Own wr w.heap.size 138 .u32 (.slice (some ⟨w.heap.size,0,none⟩) xs.length xs.length) ps∧Z7 xs ys ps k c∧yB w wr)
  (fun _ kv _=>ys.length-(intOf kv).toNat)
 case atStart=>exact⟨0,0,_,Nat.zero_le _,rfl,rfl,own0,⟨by simp,Dg.small_replicate _ _ (by omega),by omega,by simp[Dg.vl]⟩,bel0⟩
 case round=>
  clear own0 bel0;obtain⟨k,c,ps,hkl,rfl,rfl,own,hI,bel⟩:=hrel;have hpl:=hI.1;have hcl:=hI.2.2.1
  by_cases hlt:k<ys.length
  ·obtain⟨b,off,rfl,hcell⟩:=hca (by omega)
   obtain⟨b2,off2,rfl,hcell2⟩:=hcb (by omega);have hx:=cell_later bel (hcell k (by omega));have hy:=cell_later bel (hcell2 k (by omega));have hp:=own.c k (by omega);have hf:=own.f k;have hxl:=sa k;have hyl:=sb k;obtain⟨x,ex⟩: ∃x,xs.getD k 0=x:=⟨_,rfl⟩;obtain⟨y,ey⟩: ∃y,ys.getD k 0=y:=⟨_,rfl⟩;have hst:=Jq hI (by omega) ex ey (by omega) (by omega);rw[ex] at hx hxl;rw[ey] at hy hyl;clear ex ey hcell hcell2 hca hcb
   go_wp2_with fail
   refine(zA x y c _ hxl hyl hcl).mono ?_;rintro e w' ⟨rfl,rfl⟩
   go_wp2
   go_roundw
   case rel=>exact⟨k+1,_,_,by omega,by go_num,rfl,own.store k _,hst,bel.setCell (by exact Nat.le_refl _) _⟩
   case measure=>simp[intOf];omega
  ·have hk:k=ys.length:=by omega
   subst hk
   go_wp2
   go_loopw [6,9] (fun cv kv wr=> ∃(k c:Nat) (ps:List Nat),ys.length≤k∧k≤xs.length∧kv=yi k∧cv= .int .u32 c∧Own wr w.heap.size 138 .u32 (.slice (some ⟨w.heap.size,0,none⟩) xs.length xs.length) ps∧Z7 xs ys ps k c∧yB w wr)
    (fun _ kv _=>xs.length-(intOf kv).toNat)
   case atStart=>exact⟨ys.length,c,ps,Nat.le_refl _,by omega,rfl,rfl,own,hI,bel⟩
   case round=>
    clear own hI bel hpl hcl;obtain⟨k,c,ps,hky,hkl,rfl,rfl,own,hI,bel⟩:=hrel;have hpl:=hI.1;have hcl:=hI.2.2.1
    by_cases hlt:k<xs.length
    ·obtain⟨b,off,rfl,hcell⟩:=hca (by omega)
     have hx:=cell_later bel (hcell k (by omega));have hp:=own.c k (by omega);have hf:=own.f k;have hxl:=sa k;obtain⟨x,ex⟩: ∃x,xs.getD k 0=x:=⟨_,rfl⟩;have hst:=Jq hI (by omega) ex (Dg.getD_of_le ys k hky) (by omega) (by omega);rw[ex] at hx hxl;clear ex hcell hca hcb
     go_wp2_with fail
     refine(zA x 0 c _ hxl (by omega) hcl).mono ?_;rintro e w' ⟨rfl,rfl⟩
     go_wp2
     go_roundw
     case rel=>exact⟨k+1,_,_,by omega,by omega,by go_num,rfl,own.store k _,hst,bel.setCell (by exact Nat.le_refl _) _⟩
     case measure=>simp[intOf];omega
    ·have hk:k=xs.length:=by omega
     subst hk;have hen:=Z8 hI (by omega) HV.out;have rd:=own.rd
     go_wp2_with fail
     refine(jD _ _ _ _ _ rd).mono ?_;rintro e w' ⟨m,rfl,hm,rfl⟩;have ht:=jW 4294967296 (by omega) own hI.2.1 hm;rw[hen] at ht;clear rd hen own
     go_wp2
     go_ret
     exact⟨_,rfl,ht,bel⟩
theorem iW {w wr w3:World}{e x:Nat}{k:IntKind}{es:List Nat}{lv v':Value}(bel:yB w wr)(ownL:Own wr w.heap.size e k lv es)
  (hown':w3.ownsRow w.heap.size e 1 v' (es.length+1) ((es.map (fun n:Nat=>Value.int k (n:Int)))++[.int k x]))
  (hgrow:(wr.alloc (.cells #[.int k x] e)).grownBy w3 lv.ownBlock):
  Own w3 w.heap.size e k v' (es++[x])∧yB w w3:=by
 have b1:yB wr (wr.alloc (.cells #[.int k x] e)):=(Below.refl _ _).alloc (Nat.le_refl _) _;refine⟨?_, ?_⟩
 ·unfold Own
  simpa using hown'
 ·refine(aa bel b1).grown hgrow (Nat.le_trans bel.size b1.size) (fun k hk=> ?_)
  exact(World.ownsRow.lt ownL k hk).1
def gR (w:World)(r:ak×Int)(e:Ending)(w':World):Prop:=
 ∃s,e= .returned (.tuple #[ydV r.1.s s r.1.e,yi r.2])∧Own w' w.heap.size 138 .u32 s (Dg.dg 4294967296 r.1.n)∧yB w w'
theorem Ts {w0 wr w3:World}{e x:Nat}{k:IntKind}{es:List Nat}{lv v':Value}(bel:yB w0 wr)(ownL:Own wr w0.heap.size e k lv es)
  (hown':w3.ownsRow w0.heap.size e 1 v' (es.length+1) ((es.map (fun n:Nat=>Value.int k (n:Int)))++[.int k x]))
  (hgrow:(wr.alloc (.cells #[.int k x] e)).grownBy w3 lv.ownBlock):
  Own w3 w0.heap.size e k v' (es++[x])∧yB w0 w3:=iW bel ownL hown' hgrow
theorem Xf (va:Value)(m sc mo:Nat)(w0 w:World)(ho:Own w w0.heap.size 138 .u32 va (Dg.dg 4294967296 m))(hb:yB w0 w)(hsc:1≤sc)(hsc2:sc<4294967296)(hmo:mo<4294967296)(hl:(Dg.dg 4294967296 m).length≤1000000):
  yC 124 #[va,.int .u32 sc,.int .u32 mo] w fun e w'=> ∃v',e= .returned v'∧Own w' w0.heap.size 138 .u32 v' (Dg.dg 4294967296 (m*sc+mo))∧yB w0 w':=by
 obtain⟨i0,hi,hz0,hz1,hz2⟩:=info_parts Tryz.infoU32;obtain⟨zs,hzs⟩: ∃zs,Dg.dg 4294967296 m=zs:=⟨_,rfl⟩;have hsm:Dg.Small 4294967296 zs:=by rw[←hzs];exact Dg.small_dg _ _ (by omega)
 rw[hzs] at ho hl;have HZ:Hid _:=hzs.symm;have hen:=fun cur c (h:LI zs cur sc mo zs.length c)=>Xe h hzs.symm hsc (by omega)
 have HEN:Hid _:=hen;clear hzs hen;obtain⟨ao,ca,rfl⟩:=ho.rd.shape
 go_enter func124,ntmps124
 go_wp2
 go_loopw [7,14] (fun cv kv wr=> ∃(k c:Nat) (cur:List Nat),k≤zs.length∧kv=yi k∧cv= .int .u64 c∧Own wr w0.heap.size 138 .u32 (.slice ao zs.length ca) cur∧LI zs cur sc mo k c∧yB w0 wr) (fun _ kv _=>zs.length-(intOf kv).toNat)
 case atStart=>exact⟨0,mo,zs,Nat.zero_le _,rfl,rfl,ho,⟨rfl,hsm,hmo,fun _ _=>rfl,by simp[Dg.vl]⟩,hb⟩
 case round=>
  clear ho hb;obtain⟨k,c,cur,hk,rfl,rfl,own,hI,bel⟩:=hrel;have hcl:=hI.1;have hc32:=hI.2.2.1
  by_cases hlt:k<zs.length
  ·obtain⟨g,cap,hv,hg1,hg2⟩:=own.shapeOf (by intro e;rw[e] at hcl;simp at hcl;omega)
   simp only[Value.slice.injEq] at hv;obtain⟨rfl,-,rfl⟩:=hv;have hx:=own.c k (by omega);have hf:=own.f k;rw[hI.2.2.2.1 k (Nat.le_refl _)] at hx;have hxl:=hsm k;obtain⟨x,ex⟩: ∃x,zs.getD k 0=x:=⟨_,rfl⟩;rw[ex] at hx hxl;have hst:=Tr hI hlt ex hxl hsc2;have hxy:=uf hxl hsc2;have hxyI:(x:Int)*(sc:Int)≤18446744065119617025:=by rw[←Int.natCast_mul];omega
   have hxy0:0≤(x:Int)*(sc:Int):=by rw[←Int.natCast_mul];omega
   clear ex hcl
   go_wp2
   go_roundw
   case rel=>
    rw[Sd,Se];exact⟨k+1,_,_,by omega,by go_num,rfl,own.store k _,hst,bel.setCell hg1 _⟩
   case measure=>simp[intOf];omega
  ·have hke:k=zs.length:=by omega
   subst hke;have hen:=HEN.out cur c hI;have hcur:cur.length≤1000000:=by omega
   have hbs:=bel.size
   by_cases hc0:c=0
   ·subst hc0
    rw[if_pos rfl] at hen;have own2:=own;rw[hen] at own2;clear hen hcl
    go_wp2
    go_ret
    exact⟨_,rfl,own2,bel⟩
   ·rw[if_neg hc0] at hen
    have HE:Hid _:=hen;have hcp:(0:Int)< (c:Int):=by omega
    clear hen hcl
    go_wp2_with (at_builtin;refine wpList_append_own _ rfl _ _ 100 rfl w0.heap.size 138 i0 (.int .u32 0) 1 4 underlying100 hi hz0 hz1 hz2 rfl (by decide) _ _ _ rfl (World.ownsRow.alloc own _) ⟨wr.heap.size,0,none⟩ 1 1 [.int .u32 c] rfl rfl ?c1 ?c2 ?c3 ?c4 ?c5 ?_)
    case c1=>exact cell_one_new _ _ _
    case c2=>intro u hu;simp at hu;subst hu;rfl
    case c3=>unfold maxLen;omega
    case c4=>omega
    case c5=>simp;omega
    intro v' w3 hown' hgrow _;have R:=Ts bel own hown' hgrow;clear hown' hgrow own;rw[HE.out] at R
    go_wp2
    go_ret
    exact⟨_,rfl,R.1,R.2⟩
def aex (w:World)(n k bl:Nat)(pv iv:Value)(wr:World):Prop:=
 ∃j:Nat,j≤bl∧iv=yi ((j:Int)-1)∧Own wr w.heap.size 138 .u32 pv (Dg.dg 4294967296 (n^ (k/2^j)))∧yB w wr
theorem MY (qs:Bool)(ao:Option Addr)(ca la:Nat)(bo:Option Addr)(cb lb:Nat)(E R D L G:Int)(gr:Bool)(cx cy:Int)(fe:Bool)(gc:Int)(w:World)
  (H1: ∀w1,yB w w1→yC 112 #[.slice ao la ca] w1 fun z w'=>z= .returned (yi cx)∧w'=w1)
  (H2: ∀w1,yB w w1→yC 112 #[.slice bo lb cb] w1 fun z w'=>z= .returned (yi cy)∧w'=w1)
  (H3: ∀w1,yC 160 #[yi E,yi 20000] w1 fun z w'=>z= .returned (.bool fe)∧w'=w1)
  (H4:yJ 161 #[ygV R D L G gr] (yi gc)):
  yC 129 #[yrV qs (.slice ao la ca) (.slice bo lb cb) E,ygV R D L G gr] w (yR w (yi (nL cx cy lb fe gc))):=by
 replace H1:Hid _:=H1;replace H2:Hid _:=H2;replace H3:Hid _:=H3;replace H4:Hid _:=H4;have b1:=aa (af w (.cells (yrA qs (.slice ao la ca) (.slice bo lb cb) E) 25)) (af _ (.cells (ygA R D L G gr) 40))
 by_cases hx:cx=0
 ·subst hx
  by_cases hy:cy=0
  ·subst hy
   by_cases hl:lb=0
   ·subst hl
    rw[show nL 0 0 0 fe gc=3 from by unfold nL;simp]
    go_enter func129,ntmps129
    go_wp2_with fail
    refine(H1.out _ b1).mono ?_;rintro z w2 ⟨rfl,rfl⟩
    go_wp2_with fail
    refine(H2.out _ b1).mono ?_;rintro z w2 ⟨rfl,rfl⟩
    go_wp2
    go_ret
    exact⟨rfl,b1⟩
   ·have hlf:((lb:Int)==0)=false:=by simp;exact hl
    cases fe
    ·rw[show nL 0 0 lb false gc=gc from by unfold nL;simp[hl]]
     go_enter func129,ntmps129
     go_wp2_with fail
     refine(H1.out _ b1).mono ?_;rintro z w2 ⟨rfl,rfl⟩
     go_wp2_with fail
     refine(H2.out _ b1).mono ?_;rintro z w2 ⟨rfl,rfl⟩
     go_wp2_with fail
     refine(H3.out _).mono ?_;rintro z w2 ⟨rfl,rfl⟩
     go_wp2_with fail
     refine(H4.out _).mono ?_;rintro z w4 ⟨rfl,b4⟩;have b04:=aa b1 b4
     go_wp2
     go_ret
     exact⟨rfl,b04⟩
    ·rw[show nL 0 0 lb true gc=3 from by unfold nL;simp]
     go_enter func129,ntmps129
     go_wp2_with fail
     refine(H1.out _ b1).mono ?_;rintro z w2 ⟨rfl,rfl⟩
     go_wp2_with fail
     refine(H2.out _ b1).mono ?_;rintro z w2 ⟨rfl,rfl⟩
     go_wp2_with fail
     refine(H3.out _).mono ?_;rintro z w2 ⟨rfl,rfl⟩
     go_wp2
     go_ret
     exact⟨rfl,b1⟩
  ·have hyf:(cy==0)=false:=by simp;exact hy
   rw[show nL 0 cy lb fe gc=cy from by unfold nL;simp[hy]]
   go_enter func129,ntmps129
   go_wp2_with fail
   refine(H1.out _ b1).mono ?_;rintro z w2 ⟨rfl,rfl⟩
   go_wp2_with fail
   refine(H2.out _ b1).mono ?_;rintro z w2 ⟨rfl,rfl⟩
   go_wp2
   go_ret
   exact⟨rfl,b1⟩
 ·have hxf:(cx==0)=false:=by simp;exact hx
  rw[show nL cx cy lb fe gc=cx from by unfold nL;simp[hx]]
  go_enter func129,ntmps129
  go_wp2_with fail
  refine(H1.out _ b1).mono ?_;rintro z w2 ⟨rfl,rfl⟩
  go_wp2
  go_ret
  exact⟨rfl,b1⟩
theorem nS (s:Bool)(ao:Option Addr)(ca:Nat)(xs:List Nat)(e:Int)(w:World)(hr:Rd w .u32 (.slice ao xs.length ca) xs):
  yC 214 #[ydV s (.slice ao xs.length ca) e] w (yR w (yi (aS xs e))):=by
 have bA:=af w (.cells (ydA s (.slice ao xs.length ca) e) 95);have hk:=jC _ xs _ (hr.l bA);unfold aS;obtain⟨c,hc⟩: ∃c,chk xs=c:=⟨_,rfl⟩;rw[hc] at hk⊢;clear hc hr
 by_cases h:c=0
 ·subst h
  rw[if_pos rfl]
  by_cases h1:e< -20000
  ·rw[if_pos (Or.inl h1)]
   go_enter func214,ntmps214
   go_wp2_with fail
   refine hk.mono ?_;rintro z w' ⟨rfl,rfl⟩;clear hk
   go_wp2
   go_ret
   exact⟨rfl,bA⟩
  ·by_cases h2:20000<e
   ·rw[if_pos (Or.inr h2)]
    go_enter func214,ntmps214
    go_wp2_with fail
    refine hk.mono ?_;rintro z w' ⟨rfl,rfl⟩;clear hk
    go_wp2
    go_ret
    exact⟨rfl,bA⟩
   ·rw[if_neg (by omega)]
    go_enter func214,ntmps214
    go_wp2_with fail
    refine hk.mono ?_;rintro z w' ⟨rfl,rfl⟩;clear hk
    go_wp2
    go_ret
    exact⟨rfl,bA⟩
 ·rw[if_neg h]
  go_enter func214,ntmps214
  go_wp2_with fail
  refine hk.mono ?_;rintro z w' ⟨rfl,rfl⟩;clear hk
  go_wp2
  go_ret
  exact⟨rfl,bA⟩
theorem jw {w:World}{s:Bool}{ao:Option Addr}{ca:Nat}{xs:List Nat}{e:Int}(hr:Rd w .u32 (.slice ao xs.length ca) xs)(sa:Dg.Small 4294967296 xs)(hn:Dg.Norm xs):
  Dv w (ydV s (.slice ao xs.length ca) e) ⟨s,Dg.vl 4294967296 xs,e⟩:=by
 have h:=Dg.eq_dg 4294967296 (by omega) xs _ sa hn rfl;refine⟨_,rfl, ?_⟩;simp only;rw[←h];exact hr
theorem qB (v:Value)(t:ak)(w:World)(hv:Dv w v t):yC 230 #[v] w (yR w (yi (dJ t))):=by
 obtain⟨s0,rfl,hr⟩:=hv;obtain⟨ao,ca,rfl⟩:=hr.shape;obtain⟨ts,n,e⟩:=t;have hnl:=Dg.dg_nil_iff 4294967296 n (by omega);simp only at hr⊢;unfold dJ;simp only;obtain⟨m,hm⟩: ∃m,(Dg.dg 4294967296 n).length=m:=⟨_,rfl⟩;have hz:m=0↔n=0:=by rw[←hm,List.length_eq_zero_iff];exact hnl
 rw[hm];have bA:=af w (.cells (ydA ts (.slice ao m ca) e) 242);clear hm hr hnl
 by_cases h:n=0
 ·rw[if_pos h]
  have hm0:=hz.2 h;subst hm0;clear hz h
  go_enter func230,ntmps230
  go_wp2
  go_ret
  exact⟨rfl,bA⟩
 ·rw[if_neg h]
  have hm0:((m:Int)==0)=false:=by
   have: ¬m=0:=fun e=>h (hz.1 e)
   simp;exact this
  clear hz h
  cases ts
  ·go_enter func230,ntmps230
   go_wp2
   go_ret
   exact⟨rfl,bA⟩
  ·go_enter func230,ntmps230
   go_wp2
   go_ret
   exact⟨rfl,bA⟩
def sq (w:World)(c:Int)(t:fz)(e:Ending)(w':World):Prop:=
 ∃v,e= .returned (.tuple #[ypV t.s v t.p t.ex t.ov t.un,yi c])∧Own w' w.heap.size 138 .u32 v (Dg.dg 4294967296 t.d)∧yB w w'
def RtR (w:World)(ng:Bool)(a b:Nat)(e:Int)(z:Ending)(w':World):Prop:=
 ∃v u,z= .returned (yrV ng v u e)∧Rd w' .u32 v (Dg.dg 4294967296 a)∧Rd w' .u32 u (Dg.dg 4294967296 b)∧yB w w'
def RtZ (w:World)(z:Ending)(w':World):Prop:=
 ∃q,z= .returned (yrV false yN (.slice (some ⟨q,0,none⟩) 1 1) 0)∧au w' q 138 [.int .u32 1]∧yB w w'
def DcR (w:World)(s:Bool)(h:Nat)(c p:Int)(z:Ending)(w':World):Prop:= ∃v,z= .returned (.agg #[.bool s,v,yi c,yi p])∧Rd w' .u32 v (Dg.dg 4294967296 h)∧yB w w'
theorem pbelow_any (n:Int)(w:World)(h1: -100000≤n)(h2:n≤100000):yC 95 #[yi n] w (yR w (yi (pbV n))):=by
 have hb1: -40000≤(n*30103).tdiv 100000:=by
  rw[pb_is n]
  split<;>omega
 have hb2:(n*30103).tdiv 100000≤40000:=by
  rw[pb_is n]
  split<;>omega
 go_enter func95,ntmps95
 go_wp2
 go_ret
 exact⟨rfl,Below.refl _ _⟩
def iT (w:World)(c:Int)(ng:Bool)(m:Nat)(p:Int)(z:Ending)(w':World):Prop:=
 ∃v,z= .returned (yvV c ng v p)∧Rd w' .u32 v (Dg.dg 4294967296 m)∧yB w w'
def eP (w:World)(c:Int)(ng:Bool)(m:Nat)(p:Int)(er:Int)(z:Ending)(w':World):Prop:=
 ∃v,z= .returned (.tuple #[yvV c ng v p,yi er])∧Rd w' .u32 v (Dg.dg 4294967296 m)∧yB w w'
def acy (w:World)(t:ak)(z:Ending)(w':World):Prop:=
 ∃v,z= .returned (ydV t.s v t.e)∧Rd w' .u32 v (Dg.dg 4294967296 t.n)∧Far w.heap.size v∧yB w w'
def Ys (w:World)(c:Int)(ng:Bool)(m:Nat)(p:Int)(t:ak)(er:Int)(z:Ending)(w':World):Prop:=
 ∃v x,z= .returned (.tuple #[yvV c ng v p,ydV t.s x t.e,yi er])∧Rd w' .u32 v (Dg.dg 4294967296 m)∧Rd w' .u32 x (Dg.dg 4294967296 t.n)∧Far w.heap.size x∧yB w w'
theorem tdecimals_any (s:ByteArray)(w:World)(hs:s.size≤12000):
  yC 69 #[.string s] w (yR w (.bool (digB s))):=by
 obtain⟨B,hB⟩: ∃b,digB s=b:=⟨_,rfl⟩;rw[hB];replace hB:Hid _:=hB
 go_enter func69,ntmps69
 go_wp2
 go_loop [6] (fun iv=> ∃k:Nat,k≤s.size∧iv=yi k∧Hid (∀i,i<k→48≤byt s i∧byt s i≤57)) (fun iv=>s.size-(intOf iv).toNat)
 case atStart=>exact⟨0,Nat.zero_le _,rfl,fun i hi=>by omega⟩
 case round=>
  obtain⟨k,hk,rfl,hall⟩:=hrel
  by_cases hlt:k<s.size
  ·have hik:=li s k hlt
   obtain⟨y,hy⟩: ∃y,byt s k=y:=⟨_,rfl⟩;rw[hy] at hik;have HY:Hid (byt s k=y):=hy;have hy8:y<256:=by rw[←hy];exact Ay s k
   clear hy
   by_cases h1:y<48
   ·go_wp2
    go_ret
    have e:B=false:=by
     rw[←hB.out,←Bool.not_eq_true,digB_iff];intro h;have:=(h.2 k hlt).1;rw[HY.out] at this;omega
    rw[e];exact⟨rfl,Below.refl _ _⟩
   ·by_cases h2:57<y
    ·go_wp2
     go_ret
     have e:B=false:=by
      rw[←hB.out,←Bool.not_eq_true,digB_iff];intro h;have:=(h.2 k hlt).2;rw[HY.out] at this;omega
     rw[e];exact⟨rfl,Below.refl _ _⟩
    ·go_wp2
     go_round
     case rel=>exact⟨k+1,by omega,by go_num,fun i hi=>by
      by_cases c:i=k
      ·rw[c,HY.out];omega
      ·exact hall.out i (by omega)⟩
     case measure=>simp[intOf];omega
  ·obtain rfl:k=s.size:=by omega
   by_cases h0:s.size=0
   ·have:=IX s h0
    subst this
    go_wp2
    go_ret
    rw[←hB.out];exact⟨rfl,Below.refl _ _⟩
   ·have hemp:=Qw s h0
    go_wp2
    go_ret
    rw[←hB.out,(digB_iff s).2 ⟨h0,hall.out⟩];exact⟨rfl,Below.refl _ _⟩
def ae3 (w:World)(s:ByteArray)(r:Nat)(tv av:Value)(wr:World):Prop:=
 ∃(p:Nat) (T:ByteArray),tv= .string T∧adS s T p∧T.size=r∧Own wr w.heap.size 138 .u32 av (Dg.dg 4294967296 (pv s p))∧yB w wr
theorem DF (s:ByteArray)(w:World)(hs:s.size≤12000)(hd: ∀i,i<s.size→48≤byt s i∧byt s i≤57):
  yC 70 #[.string s] w (Num w (pv s s.size)):=by
 have HD:Hid _:=hd;clear hd
 go_enter func70,ntmps70
 go_wp2
 go_loopg [0,3] s.size (fun r tv av wr=>ae3 w s r tv av wr)
 case atStart=>exact⟨0,s,rfl,⟨by omega,fun i _=>by rw[Nat.zero_add]⟩,rfl,aQ _ _ _ _,Below.refl _ _⟩
 case round=>
  obtain⟨p,T,rfl,hT,hTs,own,bel⟩:=hrel;have hp1:=hT.1;rw[hTs] at hp1
  by_cases hz:gk=0
  ·have hps:p=s.size:=by omega
   subst hz hps;clear hp1;have hTz: ¬((0:Int)< (T.size:Int)):=by omega
   go_wp2
   go_ret
   exact⟨_,rfl,own,bel⟩
  ·have hps:p≤s.size:=by omega
   have hnum:=Wb s HD.out hs p hps;obtain⟨n,hn⟩: ∃n,(gk-1) % 9+1=n:=⟨_,rfl⟩;have hnI:((T.size:Int)-1) % 9+1=(n:Int):=by omega
   have hn9:n≤9:=by omega
   have hnT:n≤T.size:=by omega
   have HTS:Hid (T.size=gk):=hTs;have hTl:T.size≤12000:=by omega
   have hTp:0<T.size:=by omega
   have HP:Hid (p+gk=s.size):=hp1;clear hn hTs hp1
   go_wp2
   go_loop [5,6,17] (fun gv cv iv=> ∃i g sc:Nat,i≤n∧iv=yi i∧gv= .int .u32 g∧cv= .int .u32 sc∧g<1000000000∧sc≤1000000000∧Hid (ack s p i g sc)) (fun _ _ iv=>n-(intOf iv).toNat)
   case atStart=>exact⟨0,0,1,Nat.zero_le _,rfl,rfl,rfl,by omega,by omega,⟨by simp,by simp,by simp⟩⟩
   case round=>
    obtain⟨i,g,sc,hin,rfl,rfl,rfl,hg9,hsc9,hI⟩:=hrel
    by_cases hlt:i<n
    ·have hix:=li T i (by omega)
     have hby:=hT.2 i (by omega);have hdg:=HD.out (p+i) (by have:=HP.out;have:=HTS.out;omega);have hp8:10^i≤10^8:=Nat.pow_le_pow_right (by omega) (by omega);have hgb:=hI.2.1;have hsb:=hI.2.2;have hst:=Z5 hI rfl hdg.1 hdg.2;rw[hby] at hix;obtain⟨x,ex⟩: ∃x,byt s (p+i)=x:=⟨_,rfl⟩;rw[ex] at hix hdg hst;have hg8:g<100000000:=by omega
     have hs8:sc≤100000000:=by omega
     have hx1:=hdg.1;have hx2:=hdg.2;have HST:Hid (ack s p (i+1) (g*10+(x-48)) (sc*10)):=hst;clear hby ex hp8 hgb hsb hst hdg
     go_wp2
     go_round
     case rel=>exact⟨i+1,g*10+(x-48),sc*10,by omega,by go_num,by go_num,by go_num,by omega,by omega,HST⟩
     case measure=>simp[intOf];omega
    ·have hie:i=n:=by omega
     subst hie;have hsb:=hI.2.2;have hsp:1≤sc:=by rw[hsb];exact Nat.pow_pos (by omega)
     have hpv:=hI.1;have hgr:=Xf _ (pv s p) sc g w wr own bel hsp (by omega) (by omega) (by omega);rw[show pv s p*sc+g=pv s (p+i) from by rw[hpv,hsb]] at hgr
     have hts:=Wa hT hnT;clear hsb hpv hI
     go_wp2_with fail
     refine hgr.mono ?_;rintro e w2 ⟨v',rfl,own2,bel2⟩;clear hgr
     go_wp2
     go_roundg (gk-i)
     case measure=>omega
     case rel=>exact⟨p+i,_,rfl,hts,by have:=HTS.out;simp;omega,own2,bel2⟩
def DM (w:World)(h:Bool)(d:Nat)(k c:Int)(e:Ending)(w':World):Prop:=
 ∃u,e= .returned (.tuple #[.agg #[u,yi k],.bool h,yi c])∧Own w' w.heap.size 138 .u32 u (Dg.dg 4294967296 d)∧yB w w'
theorem fS (zs : List Nat) : (cF zs).size = zs.length := by
 unfold cF
 show (zs.map (fun n => UInt8.ofNat n)).toArray.size = _
 simp
def B6 (w:World)(c:Int)(g:Bool)(m:Nat)(q fl:Int)(z:Ending)(w':World):Prop:=
 ∃v,z= .returned (.tuple #[yvV c g v q,yi fl])∧Rd w' .u32 v (Dg.dg 4294967296 m)∧yB w w'
def ZB6 (w:World)(b:Nat):Prop:=b<w.heap.size∧ ∃ty,w.heap[b]? =some (.cells #[.bool false,yN,yi 0,.bool false,yN,yi 0] ty (0,0))
def Ag (W:World)(base:Nat)(v:Value):Prop:= ∃p,v= .pointer (some ⟨p,0,none⟩)∧base≤p∧Loc W p (.bool false) yN (yi 0)
theorem decS_le {n k:Nat}(h:n<10^k)(hk:1≤k):(oW n).size≤k:=by
 unfold oW
 split
 ·exact hk
 ·rw[fS,List.length_reverse,List.length_map]
  exact Dg.dg_len_le 10 n k (by omega) h
def dcC (x:ak):Nat:=(oW (dcW x)).size
theorem dc_in {x:ak}(hx:x.n<2^64)(e1: -16500≤x.e)(e2:x.e≤16500)(h0:x.n≠0):(-5000≤dcG x∧dcG x≤5000)∧(∃c,c=36964∧dcW x<2^c)∧dcC x≤36964:=by
 have hb:=bF x.n 64 hx;have hb1:=Gq h0;have hG: -5000≤dcG x∧dcG x≤5000:=pb_in (by omega) (by omega);obtain⟨a,ha⟩: ∃a,a=64:=⟨_,rfl⟩;obtain⟨c,hc⟩: ∃c,c=36964:=⟨_,rfl⟩;rw[←ha] at hx;have hW:dcW x<2^c:=Nat.lt_of_le_of_lt (Nat.div_le_self _ _) (sc_in ha hc hx e2 (n:=60-dcG x) (by omega)).1;refine⟨hG,⟨c,hc,hW⟩, ?_⟩;rw[←hc];exact decS_le (Nat.lt_of_lt_of_le hW (Nat.pow_le_pow_left (by omega) c)) (by omega)
def prN (H C:Nat)(P:Int)(k:Nat):Int:=if k< (oW (prQ H C k)).size then P+1 else P
def prR (g:Bool)(H C:Nat)(P:Int)(k:Nat):ByteArray:=tpS g (oW (prQ H C k)) k ⟨(Lib.itoa (prN H C P k)).toArray⟩
theorem decS_one (n:Nat):1≤(oW n).size:=by
 unfold oW
 split
 ·exact Nat.le_refl _
 ·rename_i h
  rw[fS,List.length_reverse,List.length_map]
  rcases Nat.eq_zero_or_pos (Dg.dg 10 n).length with c|c
  ·exact absurd ((Dg.dg_nil_iff 10 _ (by omega)).1 (List.length_eq_zero_iff.1 c)) h
  ·exact c
end Go.Proofs.YtpgijbdgljkeeaaGreatDoor
