/-
  ArithSubs, paid.
-/
import Derived.Test.YtbdokgamhinajaaGreatDoorVs01
namespace Go.Proofs.YtbdokgamhinajaaGreatDoor
open Go.RowKit
theorem plus_opp (x y:ak):bare (aG x (dB y))=bare (aG x (ET y)):=by
 have k0: -((x.e.natAbs+y.e.natAbs:Nat):Int)≤x.e:=by omega
 have k1: -((x.e.natAbs+y.e.natAbs:Nat):Int)≤(dB y).e:=by show _≤y.e;omega
 have k2: -((x.e.natAbs+y.e.natAbs:Nat):Int)≤(dV y).e:=by show _≤y.e;omega
 show _=bare (aG x (dV y))
 refine fH (eS k0 k1) (eS k0 k2) ?_;rw[dH k0 k1,dH k0 k2,EI,pC]
theorem arithSubs_walk (n:Int)(a b:ByteArray)(way:Int)(w:World)(hT:Tab w):yC 4 #[yi n,.string a,.string b,yi way] w (yR w (.bool true)):=by
 have HB:=fun w1 (b:yB w w1)=>jx w1 (hT.l b)
 have HA:=fun w1 (b1:yB w w1)=>Sn n way a b w1 (hT.l b1)
 by_cases h:CK n way [a,b]=0
 rotate_left
 ·unfold mM at HA
  rw[rec_wrong _ h] at HA;exact arithSubs_err _ n way _ _ a b _ w (by simpa using h) HA (fun pb w1 hl=>open_err h (by simp) pb w1 hl) HB (fun w1 _=>aal n 0 _ 0 false ⟨false,0,0⟩ none 0 w1 (by simpa using h))
 obtain⟨k,hk,rfl,hf,he,hw⟩:=opn_right h;have ha:=eU he a (by simp);have hb:=eU he b (by simp);obtain⟨a1,a2,-,-⟩:=acu hk ha;obtain⟨b1,b2,-,-⟩:=acu hk hb;obtain⟨fa1,fa2,fa3,fa4⟩:=op_facts hk ha;obtain⟨fb1,fb2,fb3,fb4⟩:=op_facts hk hb;have HOP: ∀pb w1,au w1 pb 9 [.string a,.string b]→yC 9 #[yi (k:Int),yi way,.slice (some ⟨pb,0,none⟩) 2 2] w1 fun zz w'=> ∃gb cap xo xc yo yc,zz= .returned (.tuple #[.slice (some ⟨gb,0,none⟩) 2 cap,yi 0])∧w'.rangeAt gb 0 [yi ((bM (k:Int) a:Nat):Int),.bool (dz (k:Int) a),.bool (opT (k:Int) a).s,.slice xo (Dg.dg 65536 (opT (k:Int) a).n).length xc,yi (opT (k:Int) a).e]∧w'.rangeAt gb 5 [yi ((bM (k:Int) b:Nat):Int),.bool (dz (k:Int) b),.bool (opT (k:Int) b).s,.slice yo (Dg.dg 65536 (opT (k:Int) b).n).length yc,yi (opT (k:Int) b).e]∧Rd w' .i64 (.slice xo (Dg.dg 65536 (opT (k:Int) a).n).length xc) (Dg.dg 65536 (opT (k:Int) a).n)∧Rd w' .i64 (.slice yo (Dg.dg 65536 (opT (k:Int) b).n).length yc) (Dg.dg 65536 (opT (k:Int) b).n)∧yB w1 w':=fun pb w1 hl=>(open_ok h (by simp) (by simp) pb w1 hl).mono (fun z w' hz=>by
  obtain⟨gb,cap,e,hr,bl⟩:=hz;obtain⟨xo,xc,r0,k0⟩:=hr.each 0 a rfl;obtain⟨yo,yc,r1,k1⟩:=hr.each 1 b rfl;unfold rfC at r0 r1;rw[←a1,←a2] at r0;rw[←b1,←b2] at r1;rw[←a1] at k0;rw[←b1] at k1;exact⟨gb,cap,xo,xc,yo,yc,e,r0,r1,k0,k1,bl⟩)
 by_cases h3:((bM (k:Int) b:Nat):Int)≤3
 ·obtain⟨v,hv,hs⟩:=pair_pay hk hw he hf (acW (k:Int) way a b) 10 (gx:=dz (k:Int) a) (gy:= !dz (k:Int) b) (x:=opT (k:Int) a) (y:=dB (opT (k:Int) b)) rfl rfl (fun c fl xo xc yo yc w HO=>acd _ _ _ _ _ _ _ _ _ _ _ _ _ _ w HO) (fun h3=>by
   unfold acW;rw[Int.toNat_natCast];refine add_ref hk hw h3 (plus_opp _ _) fa1 fb1 fa2 (fun c=>by rw[fb2 c];rfl) fa3 (fun c=> ?_) fa4 fb4
   show(!(opT (k:Int) b).s&&decide (0< (opT (k:Int) b).n))=_
   have c':(opT (k:Int) b).n≠0:=c;rw[fb3 c',decide_eq_true (Nat.pos_of_ne_zero c'),Bool.and_true])
  exact arithSubs_ok _ _ _ _ _ _ _ (opT (k:Int) a) (opT (k:Int) b) v.2.2.1 (dB (opT (k:Int) b)).s (dB (opT (k:Int) b)).e (k:Int) way _ _ a b _ w h3 HA HOP (fun yo yc w1 _ r=>ja _ _ w1 r) (fun xo xc yo yc w1 _ rx ry=>hv xo xc yo yc w1 rx ry) HB (fun so sc w1 _ hr=>pat_ok hs so sc w1 hr)
 ·obtain⟨v,hv,hs⟩:=pair_pay hk hw he hf (acW (k:Int) way a b) 10 (gx:=dz (k:Int) a) (gy:=dz (k:Int) b) (x:=opT (k:Int) a) (y:=opT (k:Int) b) rfl rfl (fun c fl xo xc yo yc w HO=>acd _ _ _ _ _ _ _ _ _ _ _ _ _ _ w HO) (fun c=>absurd c.2 h3)
  exact arithSubs_off _ _ _ _ _ _ _ (opT (k:Int) a) (opT (k:Int) b) v.2.2.1 (k:Int) way _ _ a b _ w h3 HA HOP (fun xo xc yo yc w1 _ rx ry=>hv xo xc yo yc w1 rx ry) HB (fun so sc w1 _ hr=>pat_ok hs so sc w1 hr)
end Go.Proofs.YtbdokgamhinajaaGreatDoor
