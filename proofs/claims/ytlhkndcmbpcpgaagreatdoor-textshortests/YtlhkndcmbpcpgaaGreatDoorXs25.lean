/- Texts laid together. -/
import Derived.Test.YtlhkndcmbpcpgaaGreatDoorXs18
import Derived.Test.YtlhkndcmbpcpgaaGreatDoorXs20
import Derived.Test.YtlhkndcmbpcpgaaGreatDoorXs21
set_option maxRecDepth 100000
set_option maxHeartbeats 19200000
namespace Go.Proofs.YtlhkndcmbpcpgaaGreatDoor
open _root_.Go.Proofs.Tryz
open Go.RowKit
theorem Qe (qs:Bool)(c:Option Addr)(f:Nat)(xs:List Nat)(e:Option Addr)(g:Nat)(b:List Nat)(E R D L G:Int)(gr:Bool)(w:World)(h:Rd w .u32 (.slice c xs.length f) xs)(i:Rd w .u32 (.slice e b.length g) b):
  yC 146 #[yrV qs (.slice c xs.length f) (.slice e b.length g) E,ygV R D L G gr] w (yR w (yi (jg (eA xs b E) (bk R D L G)))):=by
 rw[Uu];exact MY qs c f xs.length e g b.length E R D L G gr _ _ _ _ w (fun a d=>jC _ _ a (h.l d)) (fun a d=>jC _ _ a (i.l d)) (fun a=>nK E 20000 a (by omega) (by omega)) (fun a=>vE R D L G gr a)
theorem tm (k:Nat)(a:1≤k∧k≤8)(w:World):yC 129 #[.agg (tS k).toArray] w (yR w (yi ((frN k:Nat):Int))):=by
 have b:=cD
 rcases bO a with rfl|rfl|rfl|rfl|rfl|rfl|rfl|rfl
 all_goals
  change Calls _ _ #[.agg #[_,_,_,_,_,_,_,_,_]] _ _
  go_enter func129,ntmps129
  go_wp2
  go_ret
  exact⟨rfl,af _ _⟩
theorem jy (k:Nat)(a:1≤k∧k≤8)(w:World):yC 125 #[.agg (tS k).toArray] w (yR w (yi ((kp k:Nat):Int))):=by
 have b:=cD
 rcases bO a with rfl|rfl|rfl|rfl|rfl|rfl|rfl|rfl
 all_goals
  change Calls _ _ #[.agg #[_,_,_,_,_,_,_,_,_]] _ _
  go_enter func125,ntmps125
  go_wp2
  go_ret
  exact⟨rfl,af _ _⟩
theorem xX (k:Nat)(a:1≤k∧k≤8)(w:World):yC 127 #[.agg (tS k).toArray] w (yR w (.int .u64 ((gW k:Nat):Int))):=by
 have b:=cD
 rcases bO a with rfl|rfl|rfl|rfl|rfl|rfl|rfl|rfl
 all_goals
  change Calls _ _ #[.agg #[_,_,_,_,_,_,_,_,_]] _ _
  go_enter func127,ntmps127
  go_wp2
  go_ret
  exact⟨rfl,af _ _⟩
theorem gj (k:Nat)(a:1≤k∧k≤8)(w:World):yC 126 #[.agg (tS k).toArray] w (yR w (.int .u64 ((wrN k:Nat):Int))):=by
 have c:=fun b=>tm k a b
 have d:=fun b=>xX k a b
 rcases bO a with rfl|rfl|rfl|rfl|rfl|rfl|rfl|rfl
 all_goals first|exact L6 _ _ _ _ _ _ _ _ _ _ w (by decide) c|exact L7 _ _ _ _ _ _ _ _ _ _ _ w (by decide) c d
theorem T8 (g cap m:Nat)(zs:List Nat)(w:World)(t:ik w g zs)(F:zs.length≤1000000000)(s:zs.length=2*m):
  yC 122 #[.slice (some ⟨g,0,none⟩) zs.length cap] w fun e w'=>
   e= .returned (.tuple #[])∧ik w' g (Bg zs)∧w.grownBy w' (some g):=by
 go_enter func122,ntmps122
 go_wp2
 go_loopw [2] (fun l wr=> ∃(i:Nat) (b:List Nat),l=yi ((2*i:Nat):Int)∧ik wr g b∧WI zs b i∧i≤m∧w.grownBy wr (some g))
  (fun l _=>((zs.length:Int)-intOf l).toNat)
 case atStart=>exact⟨0,zs,rfl,t,⟨rfl,fun k E=>by rw[if_neg (by omega)]⟩,by omega,ib _ _⟩
 case round=>
  obtain⟨i,b,rfl,own,d,D,gr⟩:=hrel;have z:=d.1
  by_cases C:i<m
  ·obtain⟨a,j⟩: ∃a,2*i=a:=⟨_,rfl⟩
   have q:=own.c a (by omega);have r:=own.c (a+1) (by omega);have u:=own.f a (by omega);have v:=own.f (a+1) (by omega);have h:=aa3 d (by omega);rw[j] at h⊢;have A:a+1<zs.length:=by omega
   have p:Hid _:=j;obtain⟨x,n⟩: ∃x,b.getD a 0=x:=⟨_,rfl⟩;obtain⟨y,o⟩: ∃y,b.getD (a+1) 0=y:=⟨_,rfl⟩;rw[n] at q h;rw[o] at r h;clear j n o d s
   go_wp2
   go_region
   all_goals go_wp2
   all_goals go_roundw
   case rel=>exact⟨i+1,_,by have:=p.out;go_num,((own.store a y).store (a+1) x).drew,h,by omega,eF (eF gr (bI _ _ _ _)) ((eF (bI _ _ _ _) (vm _ _)))⟩
   case measure=>simp[intOf];omega
  ·have B: ¬(((2*i:Nat):Int)+1< (zs.length:Int)):=by omega
   go_wp2
   go_end0
   rw[←ac1 d (by omega)];exact⟨rfl,own,gr⟩
abbrev Mw:=cwrite_true_mg.1
abbrev Km:=cwrite_true_mg.2
theorem Ku (R D L G b:Int)(gr:Bool)(sz a:Nat)(F:Nat)(w:World):yC 74 #[ylV R D L G gr sz a b F,yi 1] w (yR w (.tuple #[yfV false 0 0,.bool true])):=by
 have m:=cD;have g:=af (w.alloc (.cells (ylA R D L G gr sz a b F) 93)) (.cells (yfA false 0 0) 134);have j:=(ah w (ylL R D L G gr sz a b F) 93).l g;have c:=ah (w.alloc (.cells (ylA R D L G gr sz a b F) 93)) (yfL false 0 0) 134;have k:=aa (af w (.cells (ylA R D L G gr sz a b F) 93)) g;rw[World.size_alloc] at c;clear g;obtain⟨t,u,v,x,y,z,A,B,C⟩:=j.cs9;obtain⟨q,r,s⟩:=c.cs3;have n:=c.f 0;have o:=c.f 1;have p:=c.f 2;have h:=ah (w.alloc (.cells (ylA R D L G gr sz a b F) 93)) (yfL false 0 0) 134;rw[World.size_alloc] at h;have d:=aa (af w (.cells (ylA R D L G gr sz a b F) 93)) (af _ (.cells (yfA false 0 0) 134));have e:=run_loadVar_mid (P:=Tryz.prog) _ (w.heap.size+1) 0 134 (yfL false 0 0) _ h.range underlying134 rfl (by kernel_rfl);have i:Hid (_∧_):=⟨e,d⟩;clear e d h
 go_enter func74,ntmps74
 go_wp2
 obtain⟨e,d⟩:=i.out;exact bodyPost_ret (aj results74 rfl rfl e) rfl ⟨rfl,d⟩
abbrev MO:=special_nan_mg.1
abbrev MN:=special_nan_mg.2
theorem nS (s:Bool)(d:Option Addr)(f:Nat)(xs:List Nat)(e:Int)(w:World)(i:Rd w .u32 (.slice d xs.length f) xs):
  yC 156 #[ydV s (.slice d xs.length f) e] w (yR w (yi (aS xs e))):=by
 have b:=af w (.cells (ydA s (.slice d xs.length f) e) 41);have a:=jC _ xs _ (i.l b);unfold aS;obtain⟨c,g⟩: ∃c,chk xs=c:=⟨_,rfl⟩;rw[g] at a⊢;clear g i
 by_cases h:c=0
 ·subst h
  rw[if_pos rfl]
  by_cases j:e< -20000
  ·rw[if_pos (Or.inl j)]
   go_enter func156,ntmps156
   go_wp2_with fail
   refine a.mono ?_;rintro z w' ⟨rfl,rfl⟩;clear a
   go_wp2
   go_ret
   exact⟨rfl,b⟩
  ·by_cases k:20000<e
   ·rw[if_pos (Or.inr k)]
    go_enter func156,ntmps156
    go_wp2_with fail
    refine a.mono ?_;rintro z w' ⟨rfl,rfl⟩;clear a
    go_wp2
    go_ret
    exact⟨rfl,b⟩
   ·rw[if_neg (by omega)]
    go_enter func156,ntmps156
    go_wp2_with fail
    refine a.mono ?_;rintro z w' ⟨rfl,rfl⟩;clear a
    go_wp2
    go_ret
    exact⟨rfl,b⟩
 ·rw[if_neg h]
  go_enter func156,ntmps156
  go_wp2_with fail
  refine a.mono ?_;rintro z w' ⟨rfl,rfl⟩;clear a
  go_wp2
  go_ret
  exact⟨rfl,b⟩
def cC (c:Int)(t:ak):ak×Int:=if c=0 then bU t else(⟨false,0,0⟩,c)
theorem jK {R D L G:Int}(gr:Bool)(t:ak)(m:L≤G):inR R D L G gr (bare t).n (bare t).e=dA R D L G gr t.n t.e:=by
 unfold inR dA;refine decide_eq_decide.2 ?_
 by_cases h:t.n=0
 ·have:(bare t).n=0:=by unfold bare;rw[if_pos h]
  simp only[h,this,true_or]
 ·obtain⟨a,b,c⟩:=gN h
  rw[c];simp only[a,h,false_or,b];unfold cP;rw[show t.e+(bitLen t.n:Int)-1=(bitLen t.n:Int)-1+t.e by omega]
  obtain⟨p,f⟩: ∃p,(bitLen t.n:Int)-1+t.e=p:=⟨_,rfl⟩;rw[show t.e+(bitLen t.n:Int)=p+1 by omega,f]
  clear a b c h;obtain⟨z,i⟩: ∃z,t.e+(tz t.n:Int)=z:=⟨_,rfl⟩;rw[i];have g:aT R D p=p/(ai R:Int)-(D-1):=rfl;obtain⟨k,d⟩: ∃k,aT R D p=k:=⟨_,rfl⟩;rw[d] at g⊢;clear f i d;unfold ai at*
  cases gr<;>by_cases j:R=16<;>simp only[j,if_true,if_false] at g⊢ <;>by_cases l:k<L<;>simp[l]<;>omega
theorem mC {R D L G:Int}{gr s:Bool}{n:Nat}{e way:Int}(g:1≤D)(r:L≤G)(a:n≠0)(k:dA R D L G gr n e=true):
  (cI R D L G gr s n 1 e way).ov=false∧((cI R D L G gr s n 1 e way).un=false∨gr=true)∧bare ⟨(cI R D L G gr s n 1 e way).s,(cI R D L G gr s n 1 e way).d,(ai R:Int)*(cI R D L G gr s n 1 e way).p⟩=bare ⟨s,n,e⟩:=by
 have i:(1:Nat)≠0:=by omega
 have v:L≤cP R D L gr n e∧cP R D L gr n e≤G∧(ai R:Int)*cP R D L gr n e≤e+(tz n:Int):=by
  unfold dA at k
  rcases of_decide_eq_true k with h|h
  ·exact absurd h a
  ·exact h
 have f:dj R D L gr n 1 e=cP R D L gr n e:=by
  unfold dj cP;rw[lU a]
 obtain⟨w,o⟩:=nV s n e ((ai R:Int)*cP R D L gr n e) v.2.2;have u:gF R D L gr n 1 e=0:=by
  unfold gF shP;rw[f];exact w
 have t:fM R D L gr s n 1 e way=cH R D L gr n 1 e:=by
  unfold fM;rw[if_neg];rintro⟨c,-⟩;exact of_decide_eq_false c u
 obtain⟨q,b⟩:=uh R D L gr n 1 e g a i (dj R D L gr n 1 e);have l:cH R D L gr n 1 e=eZ n (e-(ai R:Int)*cP R D L gr n e)/dX 1 (e-(ai R:Int)*cP R D L gr n e):=by
  unfold cH shP;rw[f]
 rw[kJ gr s n 1 e way g r a i,t,q,b,f];refine⟨decide_eq_false (by omega), ?_, ?_⟩
 ·by_cases j:gr=true
  ·exact .inr j
  ·refine .inl (decide_eq_false fun c=> ?_)
   have x:cP R D L gr n e=aT R D (dY n 1 e):=by
    unfold cP;rw[lU a,if_neg];intro b;exact j (Bool.and_eq_true_iff.1 b).2
   omega
 ·show bare ⟨s,cH R D L gr n 1 e,(ai R:Int)*(if cH R D L gr n 1 e=0 then 0 else cP R D L gr n e)⟩=_
  by_cases m:cH R D L gr n 1 e=0
  ·rw[←o,←l,m]
   simp[bare]
  ·rw[if_neg m,l,o]
def plT (k:Nat)(s:Bool)(n:Nat)(E:Int):fz:=cI (rdN k) (dgN k) (lsI k) (gsI k) (decide (k≤3)) s n 1 E 3
abbrev tratio_up:=tratio_up_mg.1
abbrev tratio_down:=tratio_up_mg.2
abbrev tdecOf_t:=tdecOf_t_mg.1
abbrev tdecOf_f:=tdecOf_t_mg.2
theorem tdecimals_any (s:ByteArray)(w:World)(u:s.size≤12000):
  yC 142 #[.string s] w (yR w (.bool (digB s))):=by
 obtain⟨B,a⟩: ∃b,digB s=b:=⟨_,rfl⟩;rw[a];replace a:Hid _:=a
 go_enter func142,ntmps142
 go_wp2
 go_loop [6] (fun l=> ∃k:Nat,k≤s.size∧l=yi k∧Hid (∀i,i<k→48≤byt s i∧byt s i≤57)) (fun l=>s.size-(intOf l).toNat)
 case atStart=>exact⟨0,Nat.zero_le _,rfl,fun i n=>by omega⟩
 case round=>
  obtain⟨k,t,rfl,m⟩:=hrel
  by_cases j:k<s.size
  ·have o:=li s k j
   obtain⟨y,d⟩: ∃y,byt s k=y:=⟨_,rfl⟩;rw[d] at o;have f:Hid (byt s k=y):=d;have v:y<256:=by rw[←d];exact Ay s k
   clear d
   by_cases p:y<48
   ·go_wp2
    go_ret
    have e:B=false:=by
     rw[←a.out,←Bool.not_eq_true,digB_iff];intro h;have:=(h.2 k j).1;rw[f.out] at this;omega
    rw[e];exact⟨rfl,Below.refl _ _⟩
   ·by_cases q:57<y
    ·go_wp2
     go_ret
     have e:B=false:=by
      rw[←a.out,←Bool.not_eq_true,digB_iff];intro h;have:=(h.2 k j).2;rw[f.out] at this;omega
     rw[e];exact⟨rfl,Below.refl _ _⟩
    ·go_wp2
     go_round
     case rel=>exact⟨k+1,by omega,by go_num,fun i n=>by
      by_cases c:i=k
      ·rw[c,f.out];omega
      ·exact m.out i (by omega)⟩
     case measure=>simp[intOf];omega
  ·obtain rfl:k=s.size:=by omega
   by_cases g:s.size=0
   ·have:=IX s g
    subst this
    go_wp2
    go_ret
    rw[←a.out];exact⟨rfl,Below.refl _ _⟩
   ·have r:=Qw s g
    go_wp2
    go_ret
    rw[←a.out,(digB_iff s).2 ⟨g,m.out⟩];exact⟨rfl,Below.refl _ _⟩
theorem tread_okt_e_mg:
  (∀(c:Int) (d g f af b a:ByteArray) (ng:Bool) (e:Int) (w:World) (_:d.size≤400) (_:b.size+a.size≤400) (_:a.toList.isEmpty=false) (_:IntKind.i64.wrap (e-(a.size:Int))=c) (_: ¬c< -6000) (_: ¬6000<c)
  (_:yJ 139 #[.string d,.string ⟨#[45]⟩] (.tuple #[.string g,.bool ng]))
  (_:yH w 140 #[.string g,.string ⟨#[101]⟩] (.tuple #[.string f,.string af,.bool true]))
  (_:yJ 141 #[.string af] (.tuple #[yi e,.bool true]))
  (_:yH w 140 #[.string f,.string ⟨#[46]⟩] (.tuple #[.string b,.string a,.bool true]))
  (_:yJ 142 #[.string (b++a)] (.bool true)),
  yC 106 #[.string d] w (yR w (.tuple #[.agg #[.bool ng,.string (b++a),yi c],yi 0])))∧
  (∀(c:Int) (d g f af b a:ByteArray) (ng:Bool) (e:Int) (w:World) (_:d.size≤400) (_:b.size+a.size≤400) (_:IntKind.i64.wrap (e-(a.size:Int))=c) (_: ¬c< -6000) (_: ¬6000<c)
  (_:yJ 139 #[.string d,.string ⟨#[45]⟩] (.tuple #[.string g,.bool ng]))
  (_:yH w 140 #[.string g,.string ⟨#[101]⟩] (.tuple #[.string f,.string af,.bool true]))
  (_:yJ 141 #[.string af] (.tuple #[yi e,.bool true]))
  (_:yH w 140 #[.string f,.string ⟨#[46]⟩] (.tuple #[.string b,.string a,.bool false]))
  (_:yJ 142 #[.string (b++a)] (.bool true)),
  yC 106 #[.string d] w (yR w (.tuple #[.agg #[.bool ng,.string (b++a),yi c],yi 0])))∧
  (∀(c:Int) (d g f af b a:ByteArray) (ng:Bool) (e:Int) (w:World) (_:d.size≤400) (_:b.size+a.size≤400) (_:a.toList.isEmpty=false) (_:IntKind.i64.wrap (e-(a.size:Int))=c) (_: ¬c< -6000) (_:6000<c)
  (_:yJ 139 #[.string d,.string ⟨#[45]⟩] (.tuple #[.string g,.bool ng]))
  (_:yH w 140 #[.string g,.string ⟨#[101]⟩] (.tuple #[.string f,.string af,.bool true]))
  (_:yJ 141 #[.string af] (.tuple #[yi e,.bool true]))
  (_:yH w 140 #[.string f,.string ⟨#[46]⟩] (.tuple #[.string b,.string a,.bool true]))
  (_:yJ 142 #[.string (b++a)] (.bool true)),
  yC 106 #[.string d] w (yR w (.tuple #[.agg #[.bool false,.string ⟨#[]⟩,yi 0],yi 3])))∧
  (∀(c:Int) (d g f af b a:ByteArray) (ng:Bool) (e:Int) (w:World) (_:d.size≤400) (_:b.size+a.size≤400) (_:IntKind.i64.wrap (e-(a.size:Int))=c) (_: ¬c< -6000) (_:6000<c)
  (_:yJ 139 #[.string d,.string ⟨#[45]⟩] (.tuple #[.string g,.bool ng]))
  (_:yH w 140 #[.string g,.string ⟨#[101]⟩] (.tuple #[.string f,.string af,.bool true]))
  (_:yJ 141 #[.string af] (.tuple #[yi e,.bool true]))
  (_:yH w 140 #[.string f,.string ⟨#[46]⟩] (.tuple #[.string b,.string a,.bool false]))
  (_:yJ 142 #[.string (b++a)] (.bool true)),
  yC 106 #[.string d] w (yR w (.tuple #[.agg #[.bool false,.string ⟨#[]⟩,yi 0],yi 3])))∧
  (∀(c:Int) (d g f af b a:ByteArray) (ng:Bool) (e:Int) (w:World) (_:d.size≤400) (_:b.size+a.size≤400) (_:a.toList.isEmpty=false) (_:IntKind.i64.wrap (e-(a.size:Int))=c) (_:c< -6000)
  (_:yJ 139 #[.string d,.string ⟨#[45]⟩] (.tuple #[.string g,.bool ng]))
  (_:yH w 140 #[.string g,.string ⟨#[101]⟩] (.tuple #[.string f,.string af,.bool true]))
  (_:yJ 141 #[.string af] (.tuple #[yi e,.bool true]))
  (_:yH w 140 #[.string f,.string ⟨#[46]⟩] (.tuple #[.string b,.string a,.bool true]))
  (_:yJ 142 #[.string (b++a)] (.bool true)),
  yC 106 #[.string d] w (yR w (.tuple #[.agg #[.bool false,.string ⟨#[]⟩,yi 0],yi 3])))∧
  (∀(c:Int) (d g f af b a:ByteArray) (ng:Bool) (e:Int) (w:World) (_:d.size≤400) (_:b.size+a.size≤400) (_:IntKind.i64.wrap (e-(a.size:Int))=c) (_:c< -6000)
  (_:yJ 139 #[.string d,.string ⟨#[45]⟩] (.tuple #[.string g,.bool ng]))
  (_:yH w 140 #[.string g,.string ⟨#[101]⟩] (.tuple #[.string f,.string af,.bool true]))
  (_:yJ 141 #[.string af] (.tuple #[yi e,.bool true]))
  (_:yH w 140 #[.string f,.string ⟨#[46]⟩] (.tuple #[.string b,.string a,.bool false]))
  (_:yJ 142 #[.string (b++a)] (.bool true)),
  yC 106 #[.string d] w (yR w (.tuple #[.agg #[.bool false,.string ⟨#[]⟩,yi 0],yi 3]))):=by
 refine⟨?_, ?_, ?_, ?_, ?_, ?_⟩;have _z:Mgk 0:=mgkI 0
 rotate_left
 have _z:Mgk 1:=mgkI 1
 rotate_left
 have _z:Mgk 2:=mgkI 2
 rotate_left
 have _z:Mgk 3:=mgkI 3
 rotate_left
 have _z:Mgk 4:=mgkI 4
 rotate_left
 rotate_left
 all_goals
  first| (rename Mgk 0=>_z;intro c d g f af b a ng e w r t I s q E j i m k h)| (rename Mgk 1=>_z;intro c d g f af b a ng e w r t s q E j i m k h)| (rename Mgk 2=>_z;intro c d g f af b a ng e w r t I s q E j i m k h)| (rename Mgk 3=>_z;intro c d g f af b a ng e w r t s q E j i m k h)| (rename Mgk 4=>_z;intro c d g f af b a ng e w r t I s q j i m k h)| (intro c d g f af b a ng e w r t s q j i m k h)
  replace j:Hid _:=j;replace i:Hid _:=i;replace m:Hid _:=m;replace k:Hid _:=k;replace h:Hid _:=h;obtain⟨R,u,J,G⟩:=cA w [.bool false,.string ⟨#[]⟩,yi 0] 170;replace u:Hid _:=u
  go_enter func106,ntmps106
  go_upto_region 1 with fail
  rw[u.out];clear u
  go_wp2_with fail
  refine(j.out _).mono ?_;rintro v W ⟨rfl,D⟩;have N:=J.l D;have y:=aa G D;clear J G D j
  go_wp2_with fail
  refine(i.out _ y).mono ?_;rintro v X ⟨rfl,z⟩;have K:=N.l z;have F:=aa y z;clear N y z i
  go_wp2_with fail
  refine(m.out _).mono ?_;rintro v S ⟨rfl,A⟩;have L:=K.l A;have x:=aa F A;clear K F A m
  go_wp2_with fail
  refine(k.out _ x).mono ?_;rintro v T ⟨rfl,B⟩;have M:=L.l B;have H:=aa x B;clear L x B k
  go_wp2_with fail
  refine(h.out _).mono ?_;rintro v U ⟨rfl,C⟩;have o:=M.l C;have p:=aa H C;clear M H C h
  first| (rename Mgk 0=>_z;have n:=afy (P:=Tryz.prog) o p (by omega) underlying170 rfl (by kernel_rfl) (.bool ng) (.string (b++a)) (yi c))| (rename Mgk 1=>_z;have n:=afy (P:=Tryz.prog) o p (by omega) underlying170 rfl (by kernel_rfl) (.bool ng) (.string (b++a)) (yi c))| (rename Mgk 2=>_z;have n:=afy (P:=Tryz.prog) o p (by omega) underlying170 rfl (by kernel_rfl) (.bool false) (.string ⟨#[]⟩) (yi 0))| (rename Mgk 3=>_z;have n:=afy (P:=Tryz.prog) o p (by omega) underlying170 rfl (by kernel_rfl) (.bool false) (.string ⟨#[]⟩) (yi 0))| (rename Mgk 4=>_z;have n:=afy (P:=Tryz.prog) o p (by omega) underlying170 rfl (by kernel_rfl) (.bool false) (.string ⟨#[]⟩) (yi 0))| (have n:=afy (P:=Tryz.prog) o p (by omega) underlying170 rfl (by kernel_rfl) (.bool false) (.string ⟨#[]⟩) (yi 0))
  have O:Hid (_∧_):=⟨n.1,n.2.1⟩;obtain⟨⟨z0,z1,z2⟩,Y,Z,y2⟩:=afA o;clear n o p
  go_wp2
  obtain⟨q,Q⟩:=O.out;exact bodyPost_ret (aj results106 rfl rfl q) rfl ⟨rfl,Q⟩
theorem tread_okt_n_mg:
  (∀(c e d af b a:ByteArray) (ng:Bool) (w:World) (_:c.size≤400) (_:b.size+a.size≤400) (_:a.toList.isEmpty=false)
  (_:yJ 139 #[.string c,.string ⟨#[45]⟩] (.tuple #[.string e,.bool ng]))
  (_:yH w 140 #[.string e,.string ⟨#[101]⟩] (.tuple #[.string d,.string af,.bool false]))
  (_:yH w 140 #[.string d,.string ⟨#[46]⟩] (.tuple #[.string b,.string a,.bool true]))
  (_:yJ 142 #[.string (b++a)] (.bool true)),
  yC 106 #[.string c] w (yR w (.tuple #[.agg #[.bool ng,.string (b++a),yi (-(a.size:Int))],yi 0])))∧
  (∀(c e d af b a:ByteArray) (ng:Bool) (w:World) (_:c.size≤400) (_:b.size+a.size≤400)
  (_:yJ 139 #[.string c,.string ⟨#[45]⟩] (.tuple #[.string e,.bool ng]))
  (_:yH w 140 #[.string e,.string ⟨#[101]⟩] (.tuple #[.string d,.string af,.bool false]))
  (_:yH w 140 #[.string d,.string ⟨#[46]⟩] (.tuple #[.string b,.string a,.bool false]))
  (_:yJ 142 #[.string (b++a)] (.bool true)),
  yC 106 #[.string c] w (yR w (.tuple #[.agg #[.bool ng,.string (b++a),yi (-(a.size:Int))],yi 0])))∧
  (∀(c e d af b a:ByteArray) (ng A:Bool) (w:World) (_:c.size≤400) (_:b.size+a.size≤400)
  (_:yJ 139 #[.string c,.string ⟨#[45]⟩] (.tuple #[.string e,.bool ng]))
  (_:yH w 140 #[.string e,.string ⟨#[101]⟩] (.tuple #[.string d,.string af,.bool false]))
  (_:yH w 140 #[.string d,.string ⟨#[46]⟩] (.tuple #[.string b,.string a,.bool A]))
  (_:yJ 142 #[.string (b++a)] (.bool false)),
  yC 106 #[.string c] w (yR w (.tuple #[.agg #[.bool false,.string ⟨#[]⟩,yi 0],yi 1])))∧
  (∀(c e d af b:ByteArray) (ng:Bool) (w:World) (_:c.size≤400) (_:b.size≤400)
  (_:yJ 139 #[.string c,.string ⟨#[45]⟩] (.tuple #[.string e,.bool ng]))
  (_:yH w 140 #[.string e,.string ⟨#[101]⟩] (.tuple #[.string d,.string af,.bool false]))
  (_:yH w 140 #[.string d,.string ⟨#[46]⟩] (.tuple #[.string b,.string ⟨#[]⟩,.bool true]))
  (_:yJ 142 #[.string (b++⟨#[]⟩)] (.bool true)),
  yC 106 #[.string c] w (yR w (.tuple #[.agg #[.bool false,.string ⟨#[]⟩,yi 0],yi 1]))):=by
 refine⟨?_, ?_, ?_, ?_⟩;have _z:Mgk 0:=mgkI 0
 rotate_left
 have _z:Mgk 1:=mgkI 1
 rotate_left
 have _z:Mgk 2:=mgkI 2
 rotate_left
 rotate_left
 all_goals
  first| (rename Mgk 0=>_z;intro c e d af b a ng w u v J h g i f)| (rename Mgk 1=>_z;intro c e d af b a ng w u v h g i f)| (rename Mgk 2=>_z;intro c e d af b a ng A w u v h g i f)| (intro c e d af b ng w u v h g i f)
  replace h:Hid _:=h;replace g:Hid _:=g;replace i:Hid _:=i;replace f:Hid _:=f;obtain⟨I,n,B,z⟩:=cA w [.bool false,.string ⟨#[]⟩,yi 0] 170;replace n:Hid _:=n
  go_enter func106,ntmps106
  go_upto_region 1 with fail
  rw[n.out];clear n
  go_wp2_with fail
  refine(h.out _).mono ?_;rintro x M ⟨rfl,t⟩;have E:=B.l t;have p:=aa z t;clear B z t h
  go_wp2_with fail
  refine(g.out _ p).mono ?_;rintro x N ⟨rfl,q⟩;have C:=E.l q;have o:=aa p q;clear E p q g
  go_wp2_with fail
  refine(i.out _ o).mono ?_;rintro x K ⟨rfl,r⟩;have D:=C.l r;have y:=aa o r;clear C o r i
  go_wp2_with fail
  refine(f.out _).mono ?_;rintro x L ⟨rfl,s⟩;have k:=D.l s;have m:=aa y s;clear D y s f
  first| (rename Mgk 0=>_z;have j:=afy (P:=Tryz.prog) k m (by omega) underlying170 rfl (by kernel_rfl) (.bool ng) (.string (b++a)) (yi (-(a.size:Int))))| (rename Mgk 1=>_z;have j:=afy (P:=Tryz.prog) k m (by omega) underlying170 rfl (by kernel_rfl) (.bool ng) (.string (b++a)) (yi (-(a.size:Int))))| (rename Mgk 2=>_z;have j:=afy (P:=Tryz.prog) k m (by omega) underlying170 rfl (by kernel_rfl) (.bool false) (.string ⟨#[]⟩) (yi 0))| (have j:=afy (P:=Tryz.prog) k m (by omega) underlying170 rfl (by kernel_rfl) (.bool false) (.string ⟨#[]⟩) (yi 0))
  have F:Hid (_∧_):=⟨j.1,j.2.1⟩;obtain⟨⟨S,T,U⟩,O,Q,R⟩:=afA k;clear j k m
  go_wp2
  obtain⟨H,G⟩:=F.out;exact bodyPost_ret (aj results106 rfl rfl H) rfl ⟨rfl,G⟩
theorem uI (v:Value)(t:ak)(w:World)(c:Rv w v t):yC 63 #[v] w (dr w (dB t)):=by
 obtain⟨d,rfl,a⟩:=c;refine(ja d t w a).mono ?_;rintro z w' ⟨rfl,b⟩;exact⟨_,rfl,a.l b,b⟩
theorem VU (R D L G:Int)(gr s:Bool)(f:Option Addr)(g n:Nat)(e:Int)(w:World)(p:bk R D L G=0)(j:Rd w .u32 (.slice f (Dg.dg 4294967296 n).length g) (Dg.dg 4294967296 n))(r:(Dg.dg 4294967296 n).length≤1200)(C: -20000≤e)(E:e≤20000)(A:Tab w):
  Calls Tryz.prog 157 #[.agg #[.int .i64 R,.int .i64 D,.int .i64 L,.int .i64 G,.bool gr],.agg #[.bool s,.slice f (Dg.dg 4294967296 n).length g,.int .i64 e]] w (D7 w (dA R D L G gr n e) (fD R D L G gr n e) (fK R D L G gr n e)):=by
 have i:Dv w (.agg #[.bool s,.slice f (Dg.dg 4294967296 n).length g,.int .i64 e]) ⟨s,n,e⟩:=⟨_,rfl,j⟩;obtain⟨I,x,y,Q,T,F,H,U,S⟩:=cB p
 by_cases d:n=0
 ·have B:dA R D L G gr n e=true:=decide_eq_true (.inl d)
  rw[B,show fD R D L G gr n e=0 from if_pos d,show fK R D L G gr n e=L from if_pos d]
  refine RT R D L G gr s f _ g e w (fun a b=> ?_)
  have:=qB _ _ a (i.l b)
  rwa [show dJ ⟨s,n,e⟩=0 from if_pos d] at this
 ·have J:bitLen n≤32*1200:=oP r
  have K:=gZ n 1200 r;obtain⟨M,N,O,P⟩:=Og (gr:=gr) (n:=n) (e:=e) p (by omega) (by omega) (by omega);have m:(bare ⟨s,n,e⟩).e=e+(tz n:Int):=(gN (t:=⟨s,n,e⟩) d).2.1;obtain⟨⟨v,bn,u⟩,o⟩: ∃b,bare ⟨s,n,e⟩=b:=⟨_,rfl⟩;rw[o] at m;simp only at m;have q:=GK (R:=R) (D:=D) (L:=L) (G:=G) (gr:=gr) (e:=e) d;refine adT R D L G gr s f _ g e (dJ ⟨s,n,e⟩) (bitLen n) (aT R D ((bitLen n:Int)-1+e)) (cP R D L gr n e) (ai R) v bn u (decide (aT R D ((bitLen n:Int)-1+e)<L)) (decide (aT R D ((bitLen n:Int)-1+e)<L)&&gr) (dA R D L G gr n e) (fD R D L G gr n e) (fK R D L G gr n e) w ?_ ?_ ?_ ?_ ?_ rfl rfl ?_ ?_ ?_ ?_ ?_ ?_ ?_ ?_ ?_ ?_ ?_ ?_ ?_
  ·have:dJ ⟨s,n,e⟩≠0:=by
    unfold dJ;rw[if_neg d]
    split<;>decide
   simpa using this
  ·exact IntWalk.i64_in _ ⟨by omega,by omega⟩
  ·exact IntWalk.i64_in _ ⟨by omega,by omega⟩
  ·exact IntWalk.i64_in _ ⟨by omega,by omega⟩
  ·exact IntWalk.i64_in _ ⟨by omega,by omega⟩
  ·intro h
   exact if_pos h
  ·intro h
   exact if_neg (by rw[h];decide)
  ·intro h
   have:=q.1 h;omega
  ·intro h
   have: ¬(L≤cP R D L gr n e∧cP R D L gr n e≤G∧(ai R:Int)*cP R D L gr n e≤e+(tz n:Int)):=fun c=>by
    rw[q.2 c] at h
    cases h
   omega
  ·intro h
   exact(if_neg d).trans (if_pos h)
  ·intro h
   have k: ¬dA R D L G gr n e=true:=by rw[h];decide
   exact⟨(if_neg d).trans (if_neg k),(if_neg d).trans (if_neg k)⟩
  ·intro a b
   exact qB _ _ a (i.l b)
  ·intro a
   exact cN s f _ g e a
  ·intro a b
   have:=kE _ _ a (j.l b) (Dg.small_dg _ _ (by omega)) (Dg.norm_dg _ _ (by omega)) (by omega);rw[Dg.vl_dg _ _ (by omega)] at this;refine this.mono ?_;rintro z w' ⟨rfl,rfl⟩;exact⟨rfl,Below.refl _ _⟩
  ·intro a
   exact FE R D L G gr _ a x y (by omega) (by omega)
  ·intro a
   have:=tY R D L G gr a
   rwa [jf] at this
  ·intro a b
   have:=II _ ⟨s,n,e⟩ a (i.l b) (by simp only;omega) ⟨by simp only;omega,by simp only;omega⟩ (A.l b) (by simp only;omega)
   rwa [o] at this
  ·intro h a b
   have:=eO _ _ (e-(ai R:Int)*cP R D L gr n e) a (j.l b) (Dg.small_dg _ _ (by omega)) (by omega) (by omega) (by omega);rw[Dg.vl_dg _ _ (by omega)] at this;rw[show fD R D L G gr n e=shN n (e-(ai R:Int)*cP R D L gr n e) from(if_neg d).trans (if_pos h)]
   exact this
def um (xs:List Nat)(e R D L G:Int)(gr:Bool):Bool:=if onC (aS xs e) (bk R D L G)=0 then dA R D L G gr (Dg.vl 4294967296 xs) e else false
def Zo (xs:List Nat)(e R D L G:Int)(gr:Bool):Nat:=if onC (aS xs e) (bk R D L G)=0 then fD R D L G gr (Dg.vl 4294967296 xs) e else 0
def Zp (xs:List Nat)(e R D L G:Int)(gr:Bool):Int:=if onC (aS xs e) (bk R D L G)=0 then fK R D L G gr (Dg.vl 4294967296 xs) e else 0
theorem Ja (R D L G:Int)(gr s:Bool)(g:Option Addr)(i:Nat)(xs:List Nat)(e:Int)(w:World)(n:Rd w .u32 (.slice g xs.length i) xs)(v:Dg.Small 4294967296 xs)(r:Tab w):
  yC 123 #[ydV s (.slice g xs.length i) e,ygV R D L G gr] w (DM w (um xs e R D L G gr) (Zo xs e R D L G gr) (Zp xs e R D L G gr) (onC (aS xs e) (bk R D L G))):=by
 have m: ¬onC (aS xs e) (bk R D L G)=0→um xs e R D L G gr=false∧Zo xs e R D L G gr=0∧Zp xs e R D L G gr=0:=fun h=>⟨if_neg h,if_neg h,if_neg h⟩
 refine acT R D L G gr s g _ i e (aS xs e) (bk R D L G) _ _ _ _ w ?_ ?_ ?_ ?_ ?_ ?_ ?_
 ·intro h
  have d:onC (aS xs e) (bk R D L G)=aS xs e:=if_neg h;obtain⟨a,b,c⟩:=m (by rw[d];exact h);exact⟨a,b,c,d⟩
 ·intro h j
  have d:onC (aS xs e) (bk R D L G)=bk R D L G:=if_pos h;obtain⟨a,b,c⟩:=m (by rw[d];exact j);exact⟨a,b,c,d⟩
 ·intro h j
  exact(if_pos h).trans j
 ·intro f b
  exact nS s g i xs e f (n.l b)
 ·intro f
  exact vE R D L G gr f
 ·intro f
  exact iK s g _ i e f
 ·intro h j f b
  have d:onC (aS xs e) (bk R D L G)=0:=(if_pos h).trans j;rw[show um xs e R D L G gr=_ from if_pos d,show Zo xs e R D L G gr=_ from if_pos d,show Zp xs e R D L G gr=_ from if_pos d]
  obtain⟨o,p,q⟩:=bL h;obtain⟨u,t⟩:=aF o;have k:Dg.dg 4294967296 (Dg.vl 4294967296 xs)=xs:=Dg.dg_vl _ (by omega) _ v u;have:=VU R D L G gr s g i (Dg.vl 4294967296 xs) e f j (by rw[k];exact n.l b) (by rw[k];exact t) p q (r.l b)
  rwa [k] at this
theorem Xw {c:Int}(h: ¬c=0)(t:ak):cC c t=(⟨false,0,0⟩,c):=if_neg h
theorem wK {t:ak}(a:(Dg.dg 4294967296 (bare t).n).length≤1200)(b: -20000≤(bare t).e)(c:(bare t).e≤20000):bU t=(bare t,0):=by
 unfold bU;rw[if_neg (by omega),if_neg (by omega)]
theorem qj {R D L G:Int}{gr:Bool}{d:Nat}{p:Int}(c:bk R D L G=0)(h:ia R D L G gr d p):
  (Dg.dg 4294967296 d).length≤15∧ -17000≤p∧p≤17000∧ -17000≤(ai R:Int)*p∧(ai R:Int)*p≤17000∧tz d≤480:=by
 obtain⟨m,e,f,o,r,g,i,s,q⟩:=cB c
 rcases h with⟨rfl,rfl⟩| ⟨j,k,l,b,-⟩
 ·refine⟨Nat.zero_le _,by omega,by omega,by simp,by simp, ?_⟩
  exact Nat.le_trans (gZ 0 0 (Nat.le_refl _)) (by omega)
 ·have n:=Nat.mul_le_mul (eN R).2 (show D.toNat≤120 by omega)
  have a:(Dg.dg 4294967296 d).length≤15:=jq b (by omega);have:=gZ d 15 a;refine⟨a,by omega,by omega, ?_, ?_,by omega⟩<;>(unfold ai;split<;>simp<;>omega)
theorem aa8 (R D L G:Int)(gr s:Bool)(a:Option Addr)(d b:Nat)(e c:Int)(j:Bool)(m:Nat)(n:Int)(w:World)
  (f: ∀g,yB w g→yC 123 #[ydV s (.slice a d b) e,ygV R D L G gr] g (DM g j m n c)):
  yC 72 #[ydV s (.slice a d b) e,ygV R D L G gr] w (yR w (.tuple #[.bool j,yi c])):=by
 replace f:Hid _:=f;have h:=aa (af w (.cells (ydA s (.slice a d b) e) 41)) (af _ (.cells (ygA R D L G gr) 54));have t:=(ah w (ydL s (.slice a d b) e) 41).l (af _ (.cells (ygA R D L G gr) 54));have i:=ah (w.alloc (.cells (ydA s (.slice a d b) e) 41)) (ygL R D L G gr) 54;simp only[World.size_alloc] at i;obtain⟨A,B,C,E,F⟩:=i.cs5;obtain⟨H,I,J⟩:=t.cs3
 go_enter func72,ntmps72
 go_wp2_with fail
 refine(f.out _ h).mono ?_;rintro z y ⟨u,rfl,k,q⟩;obtain⟨x,v,r⟩:=k.rd.shape;subst r;clear k A B C E F H I J;have o:=aa h q;have p:=aa o (af y (.cells #[yT x m v,yi n] 196))
 go_wp2
 go_ret2
 exact⟨rfl,p⟩
theorem qR (R D L G:Int)(gr s:Bool)(a:Option Addr)(c:Nat)(xs:List Nat)(e:Int)(w:World)(f:Rd w .u32 (.slice a xs.length c) xs)(g:Dg.Small 4294967296 xs)(d:Tab w):
  yC 72 #[ydV s (.slice a xs.length c) e,ygV R D L G gr] w (yR w (.tuple #[.bool (um xs e R D L G gr),yi (onC (aS xs e) (bk R D L G))])):=
 aa8 R D L G gr s a _ c e _ _ _ _ w (fun h b=>Ja R D L G gr s a c xs e h (f.l b) g (d.l b))
theorem Je (R D L G j:Int)(gr:Bool)(sz i:Nat)(F:Nat)(c p:Int)(ng:Bool)(d:Option Addr)(h g:Nat)(r:ak×Int)(w:World)
  (B: ∀b,yB w b→yC 69 #[ypV ng (.slice d h g) p false false false,ygV R D L G gr] b (gR b r)):
  yC 71 #[ylV R D L G gr sz i j F,yvV c ng (.slice d h g) p] w (gR w r):=by
 have O:=cD;have M:Hid _:=B;have H:=af w (.cells (ylA R D L G gr sz i j F) 93);have I:=af (w.alloc (.cells (ylA R D L G gr sz i j F) 93)) (.cells (yvA c ng (.slice d h g) p) 39);have E:=af ((w.alloc (.cells (ylA R D L G gr sz i j F) 93)).alloc (.cells (yvA c ng (.slice d h g) p) 39)) (.cells (ydA false yN 0) 41);have y:=ah ((w.alloc (.cells (ylA R D L G gr sz i j F) 93)).alloc (.cells (yvA c ng (.slice d h g) p) 39)) (ydL false yN 0) 41;have o:=aa (aa H I) E;rw[World.size_alloc,World.size_alloc] at y;clear B H I E
 go_enter func71,ntmps71
 go_wp2_with fail
 refine(M.out _ o).mono ?_;rintro z b ⟨U,rfl,A,v⟩;obtain⟨m,k,N⟩:=A.rd.shape;subst N;have a:=y.l v;have C:=aa o v;have x:=((ag b (w.heap.size+1+1) 0 (.bool r.1.s)).trans (ag _ (w.heap.size+1+1) 1 (yT m r.1.n k))).trans (ag _ (w.heap.size+1+1) 2 (yi r.1.e));have J:au (((b.setCell ⟨w.heap.size+1+1,0,none⟩ (.bool r.1.s)).setCell ⟨w.heap.size+1+1,1,none⟩ (yT m r.1.n k)).setCell ⟨w.heap.size+1+1,2,none⟩ (yi r.1.e)) (w.heap.size+1+1) 41 (ydL r.1.s (yT m r.1.n k) r.1.e):=(((a.set 0 (.bool r.1.s)).set 1 (yT m r.1.n k)).set 2 (yi r.1.e));have u:=(x.own A a (by decide)).lower o.size;have q:=x.below C (by omega);have t:=run_loadVar_mid (P:=Tryz.prog) _ (w.heap.size+1+1) 0 41 (ydL r.1.s (yT m r.1.n k) r.1.e) _ J.range underlying41 rfl (by kernel_rfl);have K:Hid (_∧_∧_):=⟨t,u,q⟩;obtain⟨W,X,Y⟩:=a.cs3;have Q:=a.f 0;have S:=a.f 1;have T:=a.f 2;clear t u q J x a y C v A o
 go_wp2
 obtain⟨t,u,q⟩:=K.out;exact bodyPost_ret (aj results71 rfl rfl t) rfl ⟨_,rfl,u,q⟩
theorem encNum_low_mg:
  (∀(R D L G b:Int) (gr:Bool) (sz a:Nat) (F:Nat) (c p:Int) (ng:Bool) (d:Option Addr) (f e:Nat) (w:World) (_:p< -20000),
  yC 37 #[ylV R D L G gr sz a b F,yvV c ng (.slice d f e) p] w (yR w (.tuple #[.string ⟨#[]⟩,yi 3])))∧
  (∀(R D L G b:Int) (gr:Bool) (sz a:Nat) (F:Nat) (c p:Int) (ng:Bool) (d:Option Addr) (f e:Nat) (w:World) (_:20000<p),
  yC 37 #[ylV R D L G gr sz a b F,yvV c ng (.slice d f e) p] w (yR w (.tuple #[.string ⟨#[]⟩,yi 3]))):=by
 refine⟨?_, ?_⟩;have _z:Mgk 0:=mgkI 0
 all_goals
  intro R D L G b gr sz a F c p ng d f e w k
  first| (rename Mgk 0=>_z)| (have m: ¬p< -20000:=by omega)
  have n:=cD;have g:=af (w.alloc (.cells (ylA R D L G gr sz a b F) 93)) (.cells (yvA c ng (.slice d f e) p) 39);have j:=(ah w (ylL R D L G gr sz a b F) 93).l g;have h:=ah (w.alloc (.cells (ylA R D L G gr sz a b F) 93)) (yvL c ng (.slice d f e) p) 39;have i:=aa (af w (.cells (ylA R D L G gr sz a b F) 93)) g;rw[World.size_alloc] at h;clear g;obtain⟨t,u,v,x,y,z,A,B,C⟩:=j.cs9;obtain⟨o,q,r,s⟩:=h.cs4
  go_enter func37,ntmps37
  go_wp2
  go_ret2
  exact⟨rfl,i⟩
abbrev Q7:=encNum_low_mg.1
abbrev NN:=encNum_low_mg.2
theorem KO (R D L G b:Int)(gr:Bool)(sz a:Nat)(F:Nat)(c p:Int)(ng:Bool)(d:Option Addr)(g f:Nat)(w:World)(o: -20000≤p)(q:p≤20000)(j:g=0):
  yC 37 #[ylV R D L G gr sz a b F,yvV c ng (.slice d g f) p] w (yR w (.tuple #[.string ⟨#[]⟩,yi 4])):=by
 subst j;have m: ¬p< -20000:=by omega
 have n: ¬20000<p:=by omega
 have r:=cD;have e:=af (w.alloc (.cells (ylA R D L G gr sz a b F) 93)) (.cells (yvA c ng (.slice d 0 f) p) 39);have k:=(ah w (ylL R D L G gr sz a b F) 93).l e;have h:=ah (w.alloc (.cells (ylA R D L G gr sz a b F) 93)) (yvL c ng (.slice d 0 f) p) 39;have i:=aa (af w (.cells (ylA R D L G gr sz a b F) 93)) e;rw[World.size_alloc] at h;clear e;obtain⟨x,y,z,A,B,C,E,H,I⟩:=k.cs9;obtain⟨s,t,u,v⟩:=h.cs4
 go_enter func37,ntmps37
 go_wp2
 go_ret2
 exact⟨rfl,i⟩
theorem Q8 (R D L G d:Int)(gr:Bool)(sz b:Nat)(F:Nat)(c p:Int)(ng:Bool)(f:Option Addr)(a h:Nat)(w:World)
  (r:ak) (k:Int) (q: ∀e,yB w e→yC 71 #[ylV R D L G gr sz b d F,yvV c ng (.slice f a h) p] e (gR e (r,k))) (a1: -20000≤p) (a2:p≤20000) (W:0<a) (M:k≠0):
  yC 37 #[ylV R D L G gr sz b d F,yvV c ng (.slice f a h) p] w (yR w (.tuple #[.string ⟨#[]⟩,yi 4])):=by
 have Z: ¬p< -20000:=by omega
 have a0: ¬20000<p:=by omega
 have J:Hid _:=q;have X:((a:Int)==0)=false:=by simp;omega
 clear q;have Y:(k==0)=false:=by simpa using M
 have a3:=cD;have j:=af (w.alloc (.cells (ylA R D L G gr sz b d F) 93)) (.cells (yvA c ng (.slice f a h) p) 39);have m:=(ah w (ylL R D L G gr sz b d F) 93).l j;have n:=ah (w.alloc (.cells (ylA R D L G gr sz b d F) 93)) (yvL c ng (.slice f a h) p) 39;have s:=aa (af w (.cells (ylA R D L G gr sz b d F) 93)) j;rw[World.size_alloc] at n;clear j;obtain⟨v,x,y,A,B,C,E,H,I⟩:=m.cs9;obtain⟨Q,S,T,U⟩:=n.cs4
 go_enter func37,ntmps37
 go_wp2_with fail
 refine(J.out _ s).mono ?_;rintro z e ⟨s1,rfl,o,i⟩;obtain⟨u,t,N⟩:=o.rd.shape;subst N;simp only;have g:=af e (.cells (yDA r u t) 41);have O:=(m.l i).l g;have P:=ah e (yDL r u t) 41;have r1:=o.rd.l g;have K:=aa (aa s i) g;clear o i g m n v x y A B C E H I Q S T U;obtain⟨v,x,y,A,B,C,E,H,I⟩:=O.cs9;obtain⟨q0,a4,q2⟩:=P.cs3
 go_wp2
 go_ret2
 exact⟨rfl,K⟩
def enH (k:Nat)(t:ak):Bool:=um (Dg.dg 4294967296 t.n) t.e (rdN k) (dgN k) (lsI k) (gsI k) (decide (k≤3))
theorem oj {R D L G:Int}{gr s:Bool}{n:Nat}{e way:Int}(f:1≤D)(k:L≤G)(a:n≠0)(i:dA R D L G gr n e=true):
  (cI R D L G gr s n 1 e way).s=s∧(cI R D L G gr s n 1 e way).d=shN n (e-(ai R:Int)*cP R D L gr n e)∧(cI R D L G gr s n 1 e way).p=cP R D L gr n e∧shN n (e-(ai R:Int)*cP R D L gr n e)≠0:=by
 have l:(1:Nat)≠0:=by omega
 have q:=(mC (s:=s) (way:=way) f k a i).2.2;have u:L≤cP R D L gr n e∧cP R D L gr n e≤G∧(ai R:Int)*cP R D L gr n e≤e+(tz n:Int):=by
  unfold dA at i
  rcases of_decide_eq_true i with h|h
  ·exact absurd h a
  ·exact h
 have g:dj R D L gr n 1 e=cP R D L gr n e:=by
  unfold dj cP;rw[lU a]
 obtain⟨x,-⟩:=nV s n e ((ai R:Int)*cP R D L gr n e) u.2.2;have t:gF R D L gr n 1 e=0:=by
  unfold gF shP;rw[g];exact x
 have r:fM R D L gr s n 1 e way=cH R D L gr n 1 e:=by
  unfold fM;rw[if_neg];rintro⟨c,-⟩;exact of_decide_eq_false c t
 obtain⟨m,o⟩:=uh R D L gr n 1 e f a l (dj R D L gr n 1 e);have v:cH R D L gr n 1 e=shN n (e-(ai R:Int)*cP R D L gr n e):=by
  unfold cH shP;rw[g,Jv]
 have b:(cI R D L G gr s n 1 e way).d≠0:=fun w=>by
  have j:(bare ⟨(cI R D L G gr s n 1 e way).s,(cI R D L G gr s n 1 e way).d,(ai R:Int)*(cI R D L G gr s n 1 e way).p⟩).n=0:=(fI _).2 w;rw[q] at j;exact a ((fI _).1 j)
 rw[kJ gr s n 1 e way f k a l,r,m,o,g] at b⊢;simp only at b⊢;rw[if_neg b];rw[v] at b⊢;exact⟨trivial,rfl,rfl,b⟩
theorem vJ (m:Nat)(a:m≤200)(w:World):yC 18 #[yi m] w (cG w (2^m)):=
 pf m (m/16) (m % 16) w (by omega) (Nat.mod_lt _ (by omega)) (by omega)
theorem JN {xs:List Nat}(a:chk xs=0)(b:xs.length≠0):Dg.vl 4294967296 xs≠0:=fun h=>by
 obtain⟨c,-⟩:=aF a;exact Dg.vl_ne_zero 4294967296 (by omega) xs (by intro e;subst e;simp at b) c h
theorem qr {s:Bool}{n:Nat}{e:Int}(h:n≠0):(bare ⟨s,n,e⟩).s=s:=by
 unfold bare;rw[if_neg h]
theorem NQ {s:Bool}{a:ak}(h:a.n≠0)(b:a.s=s):(⟨s,(bare a).n,(bare a).e⟩:ak)=bare a:=by
 unfold bare;rw[if_neg h,←b]
theorem GI (r:Nat): ∀(n d:Nat) (p:Int),(lJ r n d p).1≤d
 |0,d,p=>Nat.le_refl _
 |n+1,d,p=>by
  unfold lJ
  split
  ·exact Nat.le_trans (GI r n _ _) (Nat.div_le_self _ _)
  ·exact Nat.le_refl _
theorem Cu (k:Nat)(s:ByteArray):aR k s<2^exN k∧aU k s<2^frN k:=⟨gh _ _ _,gh _ _ _⟩
theorem uR (s:Bool)(e:Int):bU ⟨s,0,e⟩=(⟨false,0,0⟩,0):=by
 have a:bare ⟨s,0,e⟩=⟨false,0,0⟩:=by simp[bare]
 unfold bU;rw[a];simp only;rw[show Dg.dg 4294967296 0=[] from(Dg.dg_nil_iff _ _ (by omega)).2 rfl]
 rfl
theorem afx (n b i R D L G o:Int)(gr qs:Bool)(T:Option Addr)(la ca:Nat)(bo:Option Addr)(lb cb:Nat)(E:Int)(x:Bool)(e:Nat)(v:Int)(r t y:Bool)(c:Int)(g:Bool)(m:Nat)(q fl:Int)(st:ByteArray)(f1 e1:Int)(X:Value)(w:World)
  (M:o≠0→X= .tuple #[.string ⟨#[]⟩,yi 0,yi o]) (N:o=0→X= .tuple #[.string st,yi f1,yi e1])
  (P:yJ 108 #[yi n] (.tuple #[ykV n 0 i R D L G gr,yi 0]))
  (Q: ∀a,yB w a→yC 109 #[yrV qs (.slice T la ca) (.slice bo lb cb) E,ygV R D L G gr,yi b] a fun z w'=> ∃h d,z= .returned (.tuple #[ypV x (yT h e d) v r t y,yi o])∧Rd w' .u32 (yT h e d) (Dg.dg 4294967296 e)∧yB a w')
  (B:o=0→ ∀h d a,yB w a→Rd a .u32 (yT h e d) (Dg.dg 4294967296 e)→yC 111 #[ykV n b i R D L G gr,ypV x (yT h e d) v r t y] a (B6 a c g m q fl))
  (A:o=0→ ∀vo vc a,yB w a→Rd a .u32 (yT vo m vc) (Dg.dg 4294967296 m)→yC 110 #[ykV n b i R D L G gr,yvV c g (yT vo m vc) q,yi fl] a (yR a (.tuple #[.string st,yi f1,yi e1]))):
  yC 66 #[yi n,yrV qs (.slice T la ca) (.slice bo lb cb) E,yi b] w fun z w'=>z= .returned X∧yB w w':=by
 replace P:Hid _:=P;replace Q:Hid _:=Q;replace B:Hid _:=B;replace A:Hid _:=A;replace M:Hid _:=M;replace N:Hid _:=N;have a0:=af w (.cells (yrA qs (.slice T la ca) (.slice bo lb cb) E) 128);have q0:=ah w (yrL qs (.slice T la ca) (.slice bo lb cb) E) 128
 go_enter func66,ntmps66
 go_wp2_with fail
 refine(P.out _).mono ?_;rintro z a ⟨rfl,U⟩;have k:=af a (.cells (ykA n 0 i R D L G gr) 175);have F:=ah a (ykL n 0 i R D L G gr) 175;have q1:=(q0.l U).l k;have b2:=aa (aa a0 U) k;have a6:w.heap.size<a.heap.size:=(q0.l U).lt;clear a0 U k q0 P
 go_upto_region 2 with fail
 generalize a.alloc (.cells (ykA n 0 i R D L G gr) 175)=W1 at b2 F q1⊢;generalize a.heap.size=p at F a6⊢;have bu:=ag W1 p 1 (yi b);have d2:au (W1.setCell ⟨p,1,none⟩ (yi b)) p 175 (ykL n b i R D L G gr):=F.set 1 (yi b);have q2:=bu.loc q1 (by omega);have W:=bu.below b2 (by omega);have x1:=F.c 1 rfl;have a5:=F.f 1;clear bu F q1 b2
 go_upto_region 5 with fail
 generalize W1.setCell ⟨p,1,none⟩ (yi b)=W2 at d2 q2 W⊢;obtain⟨y0,y1,y2,y3,y4,y5,y6,y7⟩:=d2.cs8;obtain⟨z0,z1,z2,z3⟩:=q2.cs4
 go_wp2_with fail
 refine(Q.out _ W).mono ?_;rintro z w3 ⟨h,d,rfl,rp,bp⟩;have k:=af w3 (.cells (ypA x (yT h e d) v r t y) 141);have p4:=ah w3 (ypL x (yT h e d) v r t y) 141;have d4:=(d2.l bp).l k;have r4:=rp.l k;have Y:=aa (aa W bp) k;clear y0 y1 y2 y3 y4 y5 y6 y7 z0 z1 z2 z3 d2 q2 W rp bp k Q x1 a5
 go_upto_region 6 with fail
 generalize w3.alloc (.cells (ypA x (yT h e d) v r t y) 141)=W4 at d4 p4 r4 Y⊢;generalize w3.heap.size=PP at p4⊢
 by_cases s:o=0
 ·replace B:Hid _:=B.out s
  replace A:Hid _:=A.out s;have hx:=N.out s;subst hx s;clear M N
  go_upto_region 8 with fail
  have I:yB W4 W4.drew:=(Below.refl _ _).drew;have d5:=d4.l I;have p5:=p4.l I;have r5:=r4.l I;have b5:=aa Y I;clear I d4 p4 r4 Y;refine wp_region_held_drew (S:=fun wq=>wq.rangeAt p 0 (ykL n b i R D L G gr)∧wq.rangeAt PP 0 (ypL x (yT h e d) v r t y)) (by kernel_rfl) ⟨d5.range,p5.range⟩ (fun a2=> ?_)
  refine tq 0 ((ykV n b i R D L G gr)) rfl (fun j O=>fy 175 (.tmp 9) rfl p 0 (by kernel_rfl) _ _ O.1 underlying175 rfl (by kernel_rfl)) a2 ?_
  refine tq 1 ((ykV n b i R D L G gr)) rfl (fun j O=>fy 175 (.tmp 9) rfl p 0 (by kernel_rfl) _ _ O.1 underlying175 rfl (by kernel_rfl)) a2 ?_
  refine tq 2 ((ypV x (yT h e d) v r t y)) rfl (fun j O=>fy 141 (.tmp 11) rfl PP 0 (by kernel_rfl) _ _ O.2 underlying141 rfl (by kernel_rfl)) a2 ?_
  refine wpAnyH_ready (rs:=[3]) (by kernel_rfl) (by simp) ?_;refine AllReadyH.cons rfl (fun K J=> ?_) AllReadyH.nil
  go_simp
  refine(B.out _ _ _ b5 r5).mono ?_;rintro z w6 ⟨u,rfl,r6,C⟩;obtain⟨vo,vc,hu⟩:=r6.shape;subst hu;refine J.out _ _ ⟨(d5.l C).range,(p5.l C).range⟩ (fun a3=> ?_)
  have d6:=d5.l C;have p6:=p5.l C;have a1:=aa b5 C;clear J K C d5 p5 r5 b5;refine tq 4 ((yvV c g (yT vo m vc) q)) rfl (fun j _=>by go_simp) a3 ?_
  refine tq 5 (yi fl) rfl (fun j _=>by go_simp) a3 ?_
  refine wpAnyH_ready (rs:=[6]) (by kernel_rfl) (by simp) ?_;refine AllReadyH.cons rfl (fun K J=> ?_) AllReadyH.nil
  go_simp
  refine(A.out _ _ _ a1 r6).mono ?_;rintro z w7 ⟨rfl,Z⟩;refine J.out _ _ ⟨(d6.l Z).range,(p6.l Z).range⟩ (fun H=> ?_)
  have a4:=aa a1 Z;clear J K Z d6 p6 a1 r6;refine tq 7 (.string st) rfl (fun j _=>by go_simp) H ?_
  refine tq 8 (yi f1) rfl (fun j _=>by go_simp) H ?_
  refine tq 9 (yi e1) rfl (fun j _=>by go_simp) H ?_
  refine tq 10 (.string st) rfl (fun j _=>by go_simp) H ?_
  refine tq 11 (yi f1) rfl (fun j _=>by go_simp) H ?_
  refine tq 12 (yi e1) rfl (fun j _=>by go_simp) H ?_
  simp only[Act.put,List.getElem_toArray,List.getElem_cons_succ,List.getElem_cons_zero,List.setIfInBounds_toArray,List.set_cons_zero,List.set_cons_succ];refine wpAnyH_done (by kernel_rfl) ?_ _
  go_wp2
  go_ret3
  exact⟨rfl,a4⟩
 ·have hx:=M.out s
  have a7:(o==0)=false:=by simpa using s
  subst hx;clear M N B A s
  go_wp2
  go_ret3
  exact⟨rfl,Y⟩
theorem atoi_dig (z:ByteArray)(h:digB z=true):Lib.atoi z.data.toList=some ((pv z z.size:Nat):Int):=by
 obtain⟨n,i⟩:=(digB_iff z).1 h;have d:z.data.toList.length=z.size:=Array.length_toList;have j: ∀k,k<z.size→ ∃b,z.data.toList[k]? =some b∧b.toNat=byt z k:=fun k c=>by
  refine⟨z[k], ?_,KD z k c⟩;rw[List.getElem?_eq_getElem (by rw[d];exact c),Array.getElem_toList];rfl
 have c: ∀k,k≤z.size→Lib.decFrom 0 (z.data.toList.take k)=some (pv z k):=by
  intro k
  induction k with
  |zero=>intro _;rfl
  |succ k ih=>
   intro c;obtain⟨b,e,f⟩:=j k (by omega);have a:=i k (by omega);exact Lib.decFrom_take _ k 0 (pv z k) b _ (ih (by omega)) e (by
    unfold Lib.digitVal;rw[if_pos (by rw[f];exact a),f])
 have g:=c z.size (Nat.le_refl _);rw[←d,List.take_length,d] at g;obtain⟨l,e,f⟩:=j 0 (by omega);have a:=i 0 (by omega);rw[←f] at a
 cases hl:z.data.toList with
 |nil=>rw[hl] at d;exact absurd d.symm n
 |cons b r=>
  rw[hl] at g e;obtain rfl:b=l:=by simpa using e
  have o:(b==45)=false:=by
   rw[beq_eq_false_iff_ne];rintro rfl;exact absurd a.1 (by decide)
  have p:(b==43)=false:=by
   rw[beq_eq_false_iff_ne];rintro rfl;exact absurd a.1 (by decide)
  show(if(b==45)=true then Option.map (fun(m:Nat)=> -(m:Int)) (Lib.decNat r) else if(b==43)=true then Option.map (fun(m:Nat)=>(m:Int)) (Lib.decNat r) else Option.map (fun(m:Nat)=>(m:Int)) (Lib.decNat (b::r)))=_
  rw[o,p,if_neg (by decide),if_neg (by decide)];unfold Lib.decNat;rw[if_neg (by simp),g];rfl
theorem tz_bits {m k:Nat}(a:m≠0)(h:m<2^k):tz m≤k:=by
 obtain⟨d,b,c⟩:=gN (t:=⟨false,m,0⟩) a;have e:=bF m k h;simp only at b c;have:(0:Int)≤(bitLen (bare ⟨false,m,0⟩).n:Int):=by omega
 omega
def nrV (r:Bool×ByteArray×Int):Bool×Nat×Nat×Int:=
 if pv r.2.1 r.2.1.size=0 then(false,0,1,0) else
  (r.1,(nrM (pv r.2.1 r.2.1.size) r.2.2).1/2^tz (nrM (pv r.2.1 r.2.1.size) r.2.2).1,(nrM (pv r.2.1 r.2.1.size) r.2.2).2,r.2.2+(tz (nrM (pv r.2.1 r.2.1.size) r.2.2).1:Int))
theorem nuE_e {d:List UInt8}{p:Int}(y:List UInt8)(k:d≠[]):nuE d p (101::y)=(rpL y).map (fun q=>(d,p+q)):=by
 have i:nuE d p (101::y)=if d=[]∨(101:UInt8)≠101 then none else
  if(spD (if decide (y.head? =some 45)=true then y.tail else y)).1.length<1∨5< (spD (if decide (y.head? =some 45)=true then y.tail else y)).1.length∨(spD (if decide (y.head? =some 45)=true then y.tail else y)).2≠[] then none else some (d,p+(if decide (y.head? =some 45)=true then-(lvD (spD (if decide (y.head? =some 45)=true then y.tail else y)).1:Int) else(lvD (spD (if decide (y.head? =some 45)=true then y.tail else y)).1:Int))):=rfl
 rw[i,if_neg (fun h=>Or.elim h k (fun e=>e rfl))]
 unfold rpL;simp only;generalize decide (y.head? =some 45)=m;generalize(if m=true then y.tail else y)=x
 have e:=spD_eq x;have a:=spD_dig x
 by_cases h:x.length≤5∧x≠[]∧(∀b∈x,isDg b=true)
 ·have f:=spD_app x [] h.2.2 trivial
  rw[List.append_nil] at f;have n:0<x.length:=List.length_pos_iff.2 h.2.1;have l: ¬(x.length<1∨5<x.length∨([]:List UInt8)≠[]):=fun c=>by
   rcases c with c|c|c
   ·omega
   ·have:=h.1
    omega
   ·exact c rfl
  rw[if_pos h,f,if_neg l];rfl
 ·rw[if_neg h]
  split
  ·rfl
  ·rename_i g
   refine absurd ?_ h;have j:(spD x).2=[]:=Classical.byContradiction fun c=>g (.inr (.inr c))
   rw[j,List.append_nil] at e;rw[←e] at g a;refine⟨?_, ?_,a⟩
   ·exact Nat.le_of_not_lt fun c=>g (.inr (.inl c))
   ·rintro rfl
    exact g (.inl (by decide))
theorem ratioOf_zero (N:Nat)(Q:Int)(ng xs:Bool)(H E:ByteArray)(p:Int)(w:World)(h4:E.size≤400)(h1: ¬p< -6000)(h2: ¬6000<p)
  (d:yH w 57 #[.string E] (.tuple #[.bool ng,.string H,yi p,.bool true]))
  (e: ∀a,yC 58 #[.string H] a (cG a N))
  (b: ∀no B a,Rd a .i64 (yS no N B) (Dg.dg 65536 N)→yC 20 #[ydV ng (yS no N B) 0] a fun z w'=> ∃s q,z= .returned (ydV xs (.slice s 0 q) Q)∧yB a w'):
  yC 27 #[.string E] w (RqZ w):=by
 replace d:Hid _:=d;replace e:Hid _:=e;replace b:Hid _:=b;obtain⟨W3,j,I,u⟩:=cA w (yrL false yN yN 0) 72;replace j:Hid _:=j
 go_enter func27,ntmps27
 go_upto_region 1 with fail
 rw[j.out];clear j
 go_wp2_with fail
 refine(d.out _ u).mono ?_;rintro R w5 ⟨rfl,A⟩;have L:=I.l A;have G:=aa u A;clear I u A d
 go_wp2_with fail
 refine(e.out _).mono ?_;rintro R w9 ⟨a6,rfl,o,y⟩;have J:=L.l y;have F:=aa G y;obtain⟨no,B,X⟩:=o.shape;subst X;clear L G y e
 go_wp2_with fail
 refine(b.out _ _ _ o).mono ?_;rintro R O ⟨s,q,rfl,h⟩;have C:=J.l h;have M:=o.l h;have t:=aa F h;clear J o F h b;obtain⟨f,i,Z,g⟩:=cA O (ydL xs (.slice s 0 q) Q) 28;replace i:Hid _:=i;have a3:w.heap.size≤O.heap.size:=t.size;have a4:=C.lt;have K:=C.l g;have a0:=M.l g;have T:=aa t g;clear C M t g
 go_upto_region 9 with fail
 rw[i.out];clear i;have a2:=Z.c 1 rfl;have a5:=K.lt;have r:=af f (.cells #[yi 1] 3);have D:=ah f [yi 1] 3;have n:=K.l r;have a1:=a0.l r;have v:=aa T r;obtain⟨WQ,k⟩: ∃x,f.alloc (.cells #[yi 1] 3)=x:=⟨_,rfl⟩;rw[k] at n v D;replace k:Hid _:=k;have m:=afz (P:=Tryz.prog) n v (by omega) underlying72 rfl (by kernel_rfl) (.bool false) yN (.slice (some ⟨f.heap.size,0,none⟩) 1 1) (yi 0);have S:Hid (_∧_∧_):=⟨m.1,m.2.2.loc D (by omega),m.2.1⟩;obtain⟨⟨z0,z1,z2,z3⟩,y0,y1,y2,y3⟩:=afB n;clear m n D a1 v
 go_wp2_with (rw[k.out])
 obtain⟨W,Y,U⟩:=S.out;exact bodyPost_ret (aj results27 rfl rfl W) rfl ⟨_,rfl,Y,U⟩
end Go.Proofs.YtlhkndcmbpcpgaaGreatDoor
