/-
  ArithAdds, paid.
-/
import Derived.Test.YtbdokgamhinajaaGreatDoorVa01
namespace Go.Proofs.YtbdokgamhinajaaGreatDoor
open Go.RowKit
theorem arithAdds_walk (n:Int)(a b:ByteArray)(way:Int)(w:World)(hT:Tab w):yC 3 #[yi n,.string a,.string b,yi way] w (yR w (.bool true)):=by
 have HB:=fun w1 (b:yB w w1)=>jx w1 (hT.l b)
 have HA:=fun w1 (b1:yB w w1)=>DI n way a b w1 (hT.l b1)
 by_cases h:CK n way [a,b]=0
 rotate_left
 ·unfold mM at HA
  rw[rec_wrong _ h] at HA;exact aay _ n way _ _ a b _ w (by simpa using h) HA (fun pb w1 hl=>open_err h (by simp) pb w1 hl) HB (fun w1 _=>aal n 0 _ 0 false ⟨false,0,0⟩ none 0 w1 (by simpa using h))
 obtain⟨k,hk,rfl,hf,he,hw⟩:=opn_right h;have ha:=eU he a (by simp);have hb:=eU he b (by simp);obtain⟨a1,a2,-,-⟩:=acu hk ha;obtain⟨b1,b2,-,-⟩:=acu hk hb;obtain⟨fa1,fa2,fa3,fa4⟩:=op_facts hk ha;obtain⟨fb1,fb2,fb3,fb4⟩:=op_facts hk hb;obtain⟨v,hv,hs⟩:=pair_pay hk hw he hf (OX (k:Int) way a b) 10 rfl rfl (fun c fl xo xc yo yc w HO=>acd _ _ _ _ _ _ _ _ _ _ _ _ _ _ w HO) (fun h3=>by
  unfold OX;rw[Int.toNat_natCast];exact add_ref hk hw h3 rfl fa1 fb1 fa2 fb2 fa3 fb3 fa4 fb4)
 refine ab1 _ _ _ _ _ _ _ (opT (k:Int) a) (opT (k:Int) b) v.2.2.1 (k:Int) way _ _ a b _ w HA (fun pb w1 hl=>(open_ok h (by simp) (by simp) pb w1 hl).mono (fun z w' hz=> ?_)) (fun xo xc yo yc w1 _ rx ry=>hv xo xc yo yc w1 rx ry) HB (fun so sc w1 _ hr=>pat_ok hs so sc w1 hr)
 obtain⟨gb,cap,e,hr,bl⟩:=hz;obtain⟨xo,xc,r0,k0⟩:=hr.each 0 a rfl;obtain⟨yo,yc,r1,k1⟩:=hr.each 1 b rfl;unfold rfC at r0 r1;rw[←a1,←a2] at r0;rw[←b1,←b2] at r1;rw[←a1] at k0;rw[←b1] at k1;exact⟨gb,cap,xo,xc,yo,yc,e,r0,r1,k0,k1,bl⟩
end Go.Proofs.YtbdokgamhinajaaGreatDoor
