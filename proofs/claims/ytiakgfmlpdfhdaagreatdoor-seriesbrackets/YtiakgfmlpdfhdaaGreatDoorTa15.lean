/-
  Texts laid together: DivBy, Ref6, Lk, Dr1, Se1, Se3, Take, Back, Ref7.
-/
import Derived.Test.YtiakgfmlpdfhdaaGreatDoorTa04
import Derived.Test.YtiakgfmlpdfhdaaGreatDoorTa05
import Derived.Test.YtiakgfmlpdfhdaaGreatDoorTa06
import Derived.Test.YtiakgfmlpdfhdaaGreatDoorTa07
import Derived.Test.YtiakgfmlpdfhdaaGreatDoorTa08
import Derived.Test.YtiakgfmlpdfhdaaGreatDoorTa09
set_option maxRecDepth 100000
set_option maxHeartbeats 3200000
namespace Go.Proofs.YtiakgfmlpdfhdaaGreatDoor
open _root_.Go.Proofs.Tryz
open Go.RowKit
theorem uG (g n cap base:Nat)(zs:List Nat)(d:Nat)(w:World)(ho:Own w base 49 .u32 (.slice (some ⟨g,0,none⟩) n cap) zs)(hs:Dg.Small 4294967296 zs)(hd:0<d)(hd2:d<4294967296)(hl:zs.length≤1000000):
  yC 104 #[.slice (some ⟨g,0,none⟩) n cap,.int .u32 d] w fun e w'=>
   ∃qs,e= .returned (.int .u32 ((Dg.vl 4294967296 zs % d:Nat):Int))∧Own w' base 49 .u32 (.slice (some ⟨g,0,none⟩) n cap) qs∧qs.length=zs.length∧Dg.Small 4294967296 qs∧Dg.vl 4294967296 qs=Dg.vl 4294967296 zs/d∧w.grownBy w' (some g):=by
 have hn:=ho.len;subst hn
 go_enter func104,ntmps104
 go_wp2
 go_loopw [5,6] (fun rv iv wr=> ∃(k r:Nat) (cur:List Nat),k≤zs.length∧iv=yi ((k:Int)-1)∧rv= .int .u32 r∧Own wr base 49 .u32 (.slice (some ⟨g,0,none⟩) zs.length cap) cur∧acQ zs cur d k r∧w.grownBy wr (some g))
  (fun _ iv _=>(intOf iv+1).toNat)
 case atStart=>exact⟨zs.length,0,zs,Nat.le_refl _,rfl,rfl,ho,⟨rfl,hs,hd,fun _ _=>rfl,by simp[Dg.vl]⟩,ib _ _⟩
 case round=>
  obtain⟨k,r,cur,hk,rfl,rfl,own,hI,gr⟩:=hrel
  by_cases hk0:k=0
  ·subst hk0
   go_wp2
   go_ret
   obtain⟨h1,h2,h3,h4,h5⟩:=hI;simp only[List.drop_zero] at h5;have e1:Dg.vl 4294967296 zs/d=Dg.vl 4294967296 cur:=by
    rw[h5,Nat.mul_comm,Nat.mul_add_div hd,Nat.div_eq_of_lt h3];omega
   have e2:Dg.vl 4294967296 zs % d=r:=by
    rw[h5,Nat.mul_comm,Nat.mul_add_mod,Nat.mod_eq_of_lt h3]
   exact⟨cur,by rw[e2];rfl,own,h1,h2,e1.symm,gr⟩
  ·obtain⟨m,rfl⟩: ∃m,k=m+1:=⟨k-1,by omega⟩
   have hlen:=hI.1;have hz:=own.c m (by omega);have hf:=own.f m;have hr:=hI.2.2.1;have hzs:=hs m;rw[hI.2.2.2.1 m (by omega)] at hz;obtain⟨z,ez⟩: ∃z,zs.getD m 0=z:=⟨_,rfl⟩;rw[ez] at hz hzs;have Hz:Hid _:=ez;clear ez;have hq:=I6 (t:=r*4294967296+z) hr hzs rfl
   go_wp2_with fail
   refine(Vb r z d wr hr hzs hd2).mono ?_;rintro e w1 ⟨rfl,bel⟩;have own1:=own.l bel;have hz1:=own1.c m (by omega);have hf1:=own1.f m;have gr1:=eF gr (Ew (some g) bel)
   go_wp2
   go_roundw
   case rel=>exact⟨m,_,_,by omega,by go_num,rfl,own1.store m _,Tx hI (by omega) (by rw[Hz.out]) hd hq,eF gr1 (bI _ _ _ _)⟩
   case measure=>simp[intOf]
theorem pf (n wh pt:Nat)(w:World)(hn:n=16*wh+pt)(hpt:pt<16)(hnl:n≤1000000):
  yC 32 #[yi n] w (cG w (2^n)):=by
 have hd:=C6 wh pt hpt;rw[←hn] at hd;obtain⟨i0,hi,hz0,hz1,hz2⟩:=info_parts Tryz.infoI64;have hq:(n:Int)/16=(wh:Int):=by omega
 have hr:(n:Int) % 16=(pt:Int):=by omega
 have hwl:wh≤1000000:=by omega
 have HD:Hid _:=hd;clear hd hn
 go_enter func32,ntmps32
 go_wp2_with (at_make;refine wpList_make_full _ rfl _ _ 33 rfl w.heap.size 3 i0 (yi 0) 1 underlying33 hi hz0 hz1 _ _ _ _ (wh+1) rfl rfl (by omega) (by omega) ?b2 ?b3 (Nat.le_refl _) ?_)
 case b2=>rw[hz2];omega
 case b3=>unfold maxLen;omega
 intro w0 hown0 hgrow0;have own0:=gL hown0;have bel0:yB w w0:=(Below.refl _ _).grown hgrow0 (Nat.le_refl _) (fun k h=>by cases h)
 clear hown0 hgrow0
 go_wp2
 go_loop [4,5] (fun dv iv=> ∃k d:Nat,k≤pt∧iv=yi k∧dv=yi d∧Hid (d=2^k)) (fun _ iv=>pt-(intOf iv).toNat)
 case atStart=>exact⟨0,1,Nat.zero_le _,rfl,rfl,rfl⟩
 case round=>
  obtain⟨k,d,hk,rfl,rfl,hdk⟩:=hrel;have hdl:d≤65536:=by
   rw[hdk.out];have:2^k≤2^15:=Nat.pow_le_pow_right (by omega) (by omega);omega
  by_cases hlt:k<pt
  ·go_wp2
   go_round
   case rel=>exact⟨k+1,2*d,by omega,by go_num,by go_num,by rw[show d=2^k from hdk.out,Nat.pow_succ];exact Nat.mul_comm _ _⟩
   case measure=>simp[intOf];omega
  ·have hke:k=pt:=by omega
   subst hke;have hc:=own0.c wh (by simp);have hf:=own0.f wh;have own2:=own0.store wh d;have bel2:=bel0.setCell (p:=⟨w.heap.size,wh,none⟩) (by exact Nat.le_refl _) (yi (d:Int));have hdd:=hdk.out;rw[show(List.replicate (wh+1) 0).set wh d=Dg.dg 65536 (2^n) from by rw[hdd];exact HD.out] at own2
   have rd2:=own2.rd;clear hdd own2
   go_wp2
   go_ret
   exact⟨_,rfl,rd2,bel2⟩
theorem au.cs2 {w:World}{b:Nat}{ty:TypeId}{x0 x1:Value}{l:List Value}(h:au w b ty (x0::x1::l)):w.cell? ⟨b,0,none⟩=some x0∧w.cell? ⟨b,1,none⟩=some x1:=⟨h.c 0 rfl,h.c 1 rfl⟩
theorem aX {w:World}{k:IntKind}{v:Value}{zs:List Nat}(h:Rd w k v zs){b:Nat}{ty:TypeId}{vs:List Value}(hl:au w b ty vs)(hv0: ∀x∈vs,∀n:Int,x≠ .int k n):wF b v zs:=fun hp a n c hv=>by
 obtain⟨ao,cap,rfl,_,_,h3⟩:=h;obtain⟨g,off,rfl,hc⟩:=h3 hp
 cases hv
 have h0:=hc 0 hp
 show g≠b
 intro e;subst e;unfold World.cell? at h0;simp only at h0;rw[hl] at h0;simp only[Option.isSome_none,Bool.false_eq_true,if_false,List.getElem?_toArray] at h0;exact hv0 _ (List.mem_of_getElem? h0) _ rfl
theorem di.near {w:World}{t:ak}{e:Ending}{w':World}(h:di w t e w'):dr w t e w':=by
 obtain⟨s,h1,h2,-,h3⟩:=h;exact⟨s,h1,h2,h3⟩
theorem dI (w:World)(ty:TypeId):ZB (w.alloc (.cells (ydA false yN 0) ty)) w.heap.size:=
 ⟨by simp[World.size_alloc],ty,heap_alloc_new _ _⟩
theorem fin6 {P:Program}{w0 w:World}{n b:Nat}{ty:TypeId}{z0 z1 z2 z3 z4 z5:Value}{d:TypeDesc}(h:au w b ty [z0,z1,z2,z3,z4,z5])(hb:Below n w0 w)(hn:n≤b)(hu:P.underlying ty=some d)(hd:d.isRow=true)(hi:(P.info? ty).map (·.size)=some 6)(v0 v1 v2 v3 v4 v5:Value):
  (loadVar ty ⟨b,0,none⟩).run P ((((((w.setCell ⟨b,0,none⟩ v0).setCell ⟨b,1,none⟩ v1).setCell ⟨b,2,none⟩ v2).setCell ⟨b,3,none⟩ v3).setCell ⟨b,4,none⟩ v4).setCell ⟨b,5,none⟩ v5)= .ok (.agg #[v0,v1,v2,v3,v4,v5]) ((((((w.setCell ⟨b,0,none⟩ v0).setCell ⟨b,1,none⟩ v1).setCell ⟨b,2,none⟩ v2).setCell ⟨b,3,none⟩ v3).setCell ⟨b,4,none⟩ v4).setCell ⟨b,5,none⟩ v5)∧Below n w0 ((((((w.setCell ⟨b,0,none⟩ v0).setCell ⟨b,1,none⟩ v1).setCell ⟨b,2,none⟩ v2).setCell ⟨b,3,none⟩ v3).setCell ⟨b,4,none⟩ v4).setCell ⟨b,5,none⟩ v5)∧But b w ((((((w.setCell ⟨b,0,none⟩ v0).setCell ⟨b,1,none⟩ v1).setCell ⟨b,2,none⟩ v2).setCell ⟨b,3,none⟩ v3).setCell ⟨b,4,none⟩ v4).setCell ⟨b,5,none⟩ v5):=by
 have cR:au ((((((w.setCell ⟨b,0,none⟩ v0).setCell ⟨b,1,none⟩ v1).setCell ⟨b,2,none⟩ v2).setCell ⟨b,3,none⟩ v3).setCell ⟨b,4,none⟩ v4).setCell ⟨b,5,none⟩ v5) b ty [v0,v1,v2,v3,v4,v5]:=((((((h.set 0 v0).set 1 v1).set 2 v2).set 3 v3).set 4 v4).set 5 v5);have bu:=(((((ag w b 0 v0).trans (ag _ b 1 v1)).trans (ag _ b 2 v2)).trans (ag _ b 3 v3)).trans (ag _ b 4 v4)).trans (ag _ b 5 v5);exact⟨run_loadVar_mid (P:=P) _ b 0 ty [v0,v1,v2,v3,v4,v5] _ cR.range hu hd hi,bu.below hb hn,bu⟩
theorem csf6 {w:World}{b:Nat}{ty:TypeId}{z0 z1 z2 z3 z4 z5:Value}(h:au w b ty [z0,z1,z2,z3,z4,z5]):(w.cell? ⟨b,0,none⟩=some z0∧w.cell? ⟨b,1,none⟩=some z1∧w.cell? ⟨b,2,none⟩=some z2∧w.cell? ⟨b,3,none⟩=some z3∧w.cell? ⟨b,4,none⟩=some z4∧w.cell? ⟨b,5,none⟩=some z5)∧w.frozen? ⟨b,0,none⟩=false∧w.frozen? ⟨b,1,none⟩=false∧w.frozen? ⟨b,2,none⟩=false∧w.frozen? ⟨b,3,none⟩=false∧w.frozen? ⟨b,4,none⟩=false∧w.frozen? ⟨b,5,none⟩=false:=
 ⟨⟨h.c 0 rfl,h.c 1 rfl,h.c 2 rfl,h.c 3 rfl,h.c 4 rfl,h.c 5 rfl⟩,h.f 0,h.f 1,h.f 2,h.f 3,h.f 4,h.f 5⟩
def InvR (w:World)(n k tn:Nat)(R:Nat×Nat×Nat)(bb ab:Nat)(pv wv iv:Value)(wr:World):Prop:=
 ∃(f i t s r wg:Nat) (so:Option Addr) (sc:Nat) (ro:Option Addr) (rc:Nat),wv=yi wg∧iv=yi i∧Rd wr .u32 pv (Dg.dg 4294967296 t)∧au wr bb 49 [.int .u32 n]∧
  au wr ab 106 [yT so s sc,yT ro r rc]∧Rd wr .u32 (yT so s sc) (Dg.dg 4294967296 s)∧Rd wr .u32 (yT ro r rc) (Dg.dg 4294967296 r)∧
  au wr w.heap.size 57 [.bool false,yN,yi 0,.bool false,yN,yi 0]∧yB w wr∧w.heap.size<bb∧bb<ab∧Hid (InvN n k tn R f i t s r∧wg=3+3*i)
theorem VS {R cur ys:List Nat}{i t k c b y p ct:Nat}(h:SX R cur ys i t k c b)(_hk:k<ys.length)(hl:i+k<R.length)(hy:ys.getD k 0=y)(hp:R.getD (i+k) 0=p)(hpl:p<4294967296)(hct:ct=c+y*t)(hcl:ct/4294967296<4294967296):
  SX R (cur.set (i+k) ((p+4294967296-ct % 4294967296-b) % 4294967296)) ys i t (k+1) (ct/4294967296) (brw p (ct % 4294967296) b):=by
 obtain⟨h1,h2,h3,h4,h5,h6⟩:=h;refine⟨by simpa using h1,Dg.small_set h2 _ _ (Nat.mod_lt _ (by omega)),hcl,RN _ _ _,fun j hj=> ?_, ?_⟩
 ·rw[Dg.getD_set _ _ _ _ (by omega),if_neg (by omega)];exact h5 j (by omega)
 ·have hs:=Dg.vl_set 4294967296 cur (i+k) ((p+4294967296-ct % 4294967296-b) % 4294967296) (by omega)
  rw[h5 _ (Nat.le_refl _),hp] at hs;have hlo:ct % 4294967296<4294967296:=Nat.mod_lt _ (by omega);have eb:p+4294967296*brw p (ct % 4294967296) b=(p+4294967296-ct % 4294967296-b) % 4294967296+ct % 4294967296+b:=by unfold brw;split<;>omega
  generalize hnew:(p+4294967296-ct % 4294967296-b) % 4294967296=new at*;generalize brw p (ct % 4294967296) b=b' at*;rw[iV,hy];have e1:4294967296^i*((Dg.vl 4294967296 (ys.take k)+4294967296^k*y)*t)=4294967296^i*(Dg.vl 4294967296 (ys.take k)*t)+4294967296^ (i+k)*(y*t):=by
   rw[Nat.add_mul,Nat.mul_add,Nat.pow_add,Nat.mul_assoc,Nat.mul_assoc]
  have e2:4294967296^ (i+(k+1))*(b'+ct/4294967296)=4294967296^ (i+k)*(4294967296*b'+4294967296*(ct/4294967296)):=by
   rw[show i+(k+1)=i+k+1 from by omega,Nat.pow_succ,Nat.mul_assoc,Nat.mul_add]
  have e3:=Nat.mod_add_div ct 4294967296;have e4:4294967296^ (i+k)*(4294967296*b'+4294967296*(ct/4294967296)+p)=4294967296^ (i+k)*(new+b+c+y*t):=by congr 1;omega
  rw[Nat.mul_add,Nat.mul_add,Nat.mul_add,Nat.mul_add,Nat.mul_add] at e4;rw[Nat.mul_add] at h6;rw[e1,e2,Nat.mul_add];omega
theorem H7 (g N i pc base t:Nat)(R ys:List Nat)(vb:Value)(w:World)(ho:Own w base 49 .u32 (.slice (some ⟨g,0,none⟩) N N) R)(sR:Dg.Small 4294967296 R)(sb:Dg.Small 4294967296 ys)
  (hby: ∀w',w.grownBy w' (some g)→Rd w' .u32 vb ys) (hl:i+ys.length<R.length) (ht:t<4294967296) (hRl:R.length≤2000000):
  yC 114 #[.slice (some ⟨g,i,none⟩) (ys.length+1) pc,vb,.int .u32 t] w fun e w'=>
   ∃(b:Nat) (cur:List Nat),e= .returned (.bool (decide (b=1)))∧acc R cur ys i t b∧Own w' base 49 .u32 (.slice (some ⟨g,0,none⟩) N N) cur∧w.grownBy w' (some g):=by
 obtain⟨bo,cb,rfl⟩:=(hby w (ib _ _)).shape;have HBY:Hid _:=hby
 clear hby
 go_enter func114,ntmps114
 go_wp2
 go_loopw [7,8,14] (fun cv bv kv wr=> ∃(k c b:Nat) (cur:List Nat),k≤ys.length∧kv=yi k∧cv= .int .u64 c∧bv= .int .u32 b∧Own wr base 49 .u32 (.slice (some ⟨g,0,none⟩) N N) cur∧SX R cur ys i t k c b∧w.grownBy wr (some g)) (fun _ _ kv _=>ys.length-(intOf kv).toNat)
 case atStart=>exact⟨0,0,0,R,Nat.zero_le _,rfl,rfl,rfl,ho,⟨rfl,sR,by omega,by omega,fun _ _=>rfl,by simp[Dg.vl]⟩,ib _ _⟩
 case round=>
  clear ho;obtain⟨k,c,b,cur,hk,rfl,rfl,rfl,own,hI,gr⟩:=hrel;have hcl:=hI.1;have hc32:=hI.2.2.1;have hb1:=hI.2.2.2.1
  by_cases hlt:k<ys.length
  ·obtain⟨-,-,hcb⟩:=iQ (HBY.out wr gr)
   obtain⟨b2,off2,rfl,hcell2⟩:=hcb (by omega);have hy:=hcell2 k hlt;have hyl:=sb k;have hp:=own.c (i+k) (by omega);have hf:=own.f (i+k);rw[hI.2.2.2.2.1 _ (Nat.le_refl _)] at hp;have hpl:=sR (i+k);obtain⟨y,ey⟩: ∃y,ys.getD k 0=y:=⟨_,rfl⟩;obtain⟨p,ep⟩: ∃p,R.getD (i+k) 0=p:=⟨_,rfl⟩;rw[ey] at hy hyl;rw[ep] at hp hpl;have hxy:=uf hyl ht;have hxyI:(y:Int)*(t:Int)≤18446744065119617025:=by rw[←Int.natCast_mul];omega
   have hxy0:0≤(y:Int)*(t:Int):=by rw[←Int.natCast_mul];omega
   have hst:=VS hI hlt (by omega) ey ep hpl rfl (by omega);have hlo:(c+y*t) % 4294967296<4294967296:=Nat.mod_lt _ (by omega);have hs32:=zA p ((c+y*t) % 4294967296) b wr hpl hlo hb1;rw[←Sd] at hs32;have HST:Hid _:=hst;obtain⟨nw,hnw⟩: ∃nw,(p+4294967296-(c+y*t) % 4294967296-b) % 4294967296=nw:=⟨_,rfl⟩;obtain⟨nb,hnb⟩: ∃nb,brw p ((c+y*t) % 4294967296) b=nb:=⟨_,rfl⟩;rw[hnw,hnb] at hs32 HST;clear ey ep hcell2 hcb hst hlo hcl hnw hnb
   go_wp2_with fail
   refine hs32.mono ?_;rintro e w' ⟨rfl,rfl⟩;clear hs32
   go_wp2
   go_roundw
   case rel=>
    rw[Se];exact⟨k+1,_,nb,_,by omega,by go_num,rfl,rfl,own.store (i+k) _,HST.out,eF gr (bI _ _ _ _)⟩
   case measure=>simp[intOf];omega
  ·have hke:k=ys.length:=by omega
   subst hke;have hp:=own.c (i+ys.length) (by omega);have hf:=own.f (i+ys.length);rw[hI.2.2.2.2.1 _ (Nat.le_refl _)] at hp;have hpl:=sR (i+ys.length);obtain⟨p,ep⟩: ∃p,R.getD (i+ys.length) 0=p:=⟨_,rfl⟩;rw[ep] at hp hpl;have hst:=VT hI hl ep hpl;have hs32:=zA p c b wr hpl hc32 hb1;have hbl:=RN p c b;obtain⟨nw,hnw⟩: ∃nw,(p+4294967296-c-b) % 4294967296=nw:=⟨_,rfl⟩;obtain⟨nb,hnb⟩: ∃nb,brw p c b=nb:=⟨_,rfl⟩;rw[hnw,hnb] at hs32 hst;rw[hnb] at hbl;have HST:Hid (acc R (cur.set (i+ys.length) nw) ys i t nb):=⟨hst.1,hst.2.1,hst.2.2.1,hbl,hst.2.2.2⟩;have own2:=own.store (i+ys.length) nw;have gr2:=eF gr (bI wr g (i+ys.length) (.int .u32 (nw:Int)));clear ep hst hcl hnw hnb
   go_wp2_with fail
   refine hs32.mono ?_;rintro e w' ⟨rfl,rfl⟩;clear hs32
   by_cases hz:nb=0
   ·subst hz
    go_wp2
    go_ret
    exact⟨0,_,rfl,HST,own2,gr2⟩
   ·have hz1:nb=1:=by omega
    subst hz1
    go_wp2
    go_ret
    exact⟨1,_,rfl,HST,own2,gr2⟩
theorem TV {R cur ys:List Nat}{i k c y p:Nat}(h:Sp R cur ys i k c)(hl:i+k<R.length)(hy:ys.getD k 0=y)(hp:R.getD (i+k) 0=p)(hpl:p<4294967296)(hyl:y<4294967296):
  Sp R (cur.set (i+k) ((p+y+c) % 4294967296)) ys i (k+1) ((p+y+c)/4294967296):=by
 obtain⟨h1,h2,h3,h5,h6⟩:=h;refine⟨by simpa using h1,Dg.small_set h2 _ _ (Nat.mod_lt _ (by omega)),by omega,fun j hj=> ?_, ?_⟩
 ·rw[Dg.getD_set _ _ _ _ (by omega),if_neg (by omega)];exact h5 j (by omega)
 ·have hs:=Dg.vl_set 4294967296 cur (i+k) ((p+y+c) % 4294967296) (by omega)
  rw[h5 _ (Nat.le_refl _),hp] at hs;rw[iV,hy];generalize hT:p+y+c=T at*;have e1:4294967296^i*(Dg.vl 4294967296 (ys.take k)+4294967296^k*y)=4294967296^i*Dg.vl 4294967296 (ys.take k)+4294967296^ (i+k)*y:=by rw[Nat.mul_add,Nat.pow_add,Nat.mul_assoc]
  have e2:4294967296^ (i+(k+1))*(T/4294967296)=4294967296^ (i+k)*(4294967296*(T/4294967296)):=by rw[show i+(k+1)=i+k+1 from by omega,Nat.pow_succ,Nat.mul_assoc]
  have e3:4294967296^ (i+k)*T=4294967296^ (i+k)*(T % 4294967296)+4294967296^ (i+k)*(4294967296*(T/4294967296)):=by rw[←Nat.mul_add,Nat.mod_add_div]
  have e4:4294967296^ (i+k)*T=4294967296^ (i+k)*p+4294967296^ (i+k)*y+4294967296^ (i+k)*c:=by rw[←hT,Nat.mul_add,Nat.mul_add]
  rw[e1,e2];omega
theorem Mj (g N i pc base:Nat)(R ys:List Nat)(vb:Value)(w:World)(ho:Own w base 49 .u32 (.slice (some ⟨g,0,none⟩) N N) R)(sR:Dg.Small 4294967296 R)(sb:Dg.Small 4294967296 ys)
  (hby: ∀w',w.grownBy w' (some g)→Rd w' .u32 vb ys) (hl:i+ys.length<R.length) (hRl:R.length≤2000000):
  yC 115 #[.slice (some ⟨g,i,none⟩) (ys.length+1) pc,vb] w fun e w'=>
   ∃(o:Nat) (cur:List Nat),e= .returned (.tuple #[])∧Py R cur ys i o∧Own w' base 49 .u32 (.slice (some ⟨g,0,none⟩) N N) cur∧w.grownBy w' (some g):=by
 obtain⟨bo,cb,rfl⟩:=(hby w (ib _ _)).shape;have HBY:Hid _:=hby
 clear hby
 go_enter func115,ntmps115
 go_wp2
 go_loopw [4,9] (fun cv kv wr=> ∃(k c:Nat) (cur:List Nat),k≤ys.length∧kv=yi k∧cv= .int .u32 c∧Own wr base 49 .u32 (.slice (some ⟨g,0,none⟩) N N) cur∧Sp R cur ys i k c∧w.grownBy wr (some g)) (fun _ kv _=>ys.length-(intOf kv).toNat)
 case atStart=>exact⟨0,0,R,Nat.zero_le _,rfl,rfl,ho,⟨rfl,sR,by omega,fun _ _=>rfl,by simp[Dg.vl]⟩,ib _ _⟩
 case round=>
  clear ho;obtain⟨k,c,cur,hk,rfl,rfl,own,hI,gr⟩:=hrel;have hcl:=hI.1;have hc1:=hI.2.2.1
  by_cases hlt:k<ys.length
  ·obtain⟨-,-,hcb⟩:=iQ (HBY.out wr gr)
   obtain⟨b2,off2,rfl,hcell2⟩:=hcb (by omega);have hy:=hcell2 k hlt;have hyl:=sb k;have hp:=own.c (i+k) (by omega);have hf:=own.f (i+k);rw[hI.2.2.2.1 _ (Nat.le_refl _)] at hp;have hpl:=sR (i+k);obtain⟨y,ey⟩: ∃y,ys.getD k 0=y:=⟨_,rfl⟩;obtain⟨p,ep⟩: ∃p,R.getD (i+k) 0=p:=⟨_,rfl⟩;rw[ey] at hy hyl;rw[ep] at hp hpl;have hst:=TV hI (by omega) ey ep hpl hyl;have ha32:=ur p y c wr hpl hyl hc1;clear ey ep hcell2 hcb hcl
   go_wp2_with fail
   refine ha32.mono ?_;rintro e w' ⟨rfl,rfl⟩;clear ha32
   go_wp2
   go_roundw
   case rel=>exact⟨k+1,_,_,by omega,by go_num,rfl,own.store (i+k) _,hst,eF gr (bI _ _ _ _)⟩
   case measure=>simp[intOf];omega
  ·have hke:k=ys.length:=by omega
   subst hke;have hp:=own.c (i+ys.length) (by omega);have hf:=own.f (i+ys.length);rw[hI.2.2.2.1 _ (Nat.le_refl _)] at hp;have hpl:=sR (i+ys.length);obtain⟨p,ep⟩: ∃p,R.getD (i+ys.length) 0=p:=⟨_,rfl⟩;rw[ep] at hp hpl;have hst:=TW hI hl ep hpl;have e0:((p:Int)+(c:Int)) % 4294967296=(((p+c) % 4294967296:Nat):Int):=by omega
   have own2:=own.store (i+ys.length) ((p+c) % 4294967296);have gr2:=eF gr (bI wr g (i+ys.length) (.int .u32 (((p+c) % 4294967296:Nat):Int)));rw[←e0] at own2 gr2;have HST:Hid _:=hst;clear ep hst hcl e0
   go_wp2
   go_end0
   exact⟨_,_,rfl,HST,own2,gr2⟩
theorem TX (g i n pc:Nat)(bb boff cb:Nat)(p2 p1 p0 d1 d0:Nat)(w:World)(hn:2≤n)(hnl:n≤2000000)(_hil:i≤2000000)
  (c2:w.cell? ⟨g,i+n,none⟩=some (.int .u32 p2)) (c1:w.cell? ⟨g,i+(n-1),none⟩=some (.int .u32 p1)) (c0:w.cell? ⟨g,i+(n-2),none⟩=some (.int .u32 p0))
  (e1:w.cell? ⟨bb,boff+(n-1),none⟩=some (.int .u32 d1)) (e0:w.cell? ⟨bb,boff+(n-2),none⟩=some (.int .u32 d0))
  (hp2:p2<4294967296) (hp1:p1<4294967296) (hp0:p0<4294967296) (hd1:d1<4294967296) (hd0:d0<4294967296) (hd:2147483648≤d1) (hle:p2≤d1):
  yC 113 #[.slice (some ⟨g,i,none⟩) (n+1) pc,.slice (some ⟨bb,boff,none⟩) n cb] w fun e w'=>
   ∃q:Nat,e= .returned (.int .u32 q)∧q<4294967296∧(∀k,k*(d1*4294967296+d0)≤(p2*4294967296+p1)*4294967296+p0→k<4294967296→k≤q)∧q*(d1*4294967296+d0)≤(p2*4294967296+p1)*4294967296+p0∧yB w w':=by
 have hor:=KJ p2 p1 hp2 hp1;obtain⟨top,ht⟩: ∃top,p2*4294967296+p1=top:=⟨_,rfl⟩;rw[ht] at hor⊢;have htl:top<18446744073709551616:=by omega
 have hst:=Z1 top d1 d0 p0 (by omega) hp0;obtain⟨q0,hq0⟩: ∃q,top/d1=q:=⟨_,rfl⟩;obtain⟨r0,hr0⟩: ∃r,top % d1=r:=⟨_,rfl⟩;have hr0l:r0<d1:=by rw[←hr0];exact Nat.mod_lt _ (by omega)
 have hq0l:q0≤4294967297:=by
  rw[←hq0];have:top/d1<4294967298:=by rw[Nat.div_lt_iff_lt_mul (by omega)];omega
  omega
 have f1:(top:Int)/(d1:Int)=(q0:Int):=by rw[←hq0];exact(Int.natCast_ediv top d1).symm
 have f2:(top:Int) % (d1:Int)=(r0:Int):=by rw[←hr0];exact(Int.natCast_emod top d1).symm
 have g1:IntKind.u64.wrap d1=(d1:Int):=IntWalk.u64_in _ ⟨by omega,by omega⟩;rw[hq0,hr0] at hst;have HTop:Hid _:=ht;clear hq0 hr0 ht;have n1:((n:Int)-1)=((n-1:Nat):Int):=by omega
 have n2:((n:Int)-2)=((n-2:Nat):Int):=by omega
 go_enter func113,ntmps113
 go_wp2
 go_quiet (fail)
 go_wp2
 go_quiet (fail)
 go_wp2
 go_quiet (fail)
 go_wp2
 go_loopw [9,10] (fun gv rv wr=>GsR w g (i+(n-2)) top d1 d0 p0 gv rv wr) (fun gv _ _=>msr gv)
 case atStart=>exact⟨q0,r0,rfl,by rw[f2],hst,by omega,hq0l,c0,aL (aL (aL (Below.refl _ _) _) _) _⟩
 case round=>
  clear c0 hst c1 c2 e0 e1 f1 f2 hr0l hq0l hor;obtain⟨t,r,rfl,rfl,HI,hr,ht1,hc0,bel⟩:=hrel;have hI:=HI.out;have hor:=KJ r p0 hr hp0
  by_cases hbig:4294967296≤t
  ·have hst:=S9 hI (by omega) (.inl hbig)
   have hbI:(4294967296:Int)≤(t:Int):=by omega
   have m1:((t:Int)-1)=((t-1:Nat):Int):=by omega
   have HS:Hid _:=hst
   by_cases hbr:4294967296≤r+d1
   ·have hfin:=Mk hst hbr (by omega) HTop.out hle hp1 hd0
    have HF:Hid _:=hfin;have hbrI:(4294967296:Int)≤(r:Int)+(d1:Int):=by omega
    clear hfin hst hI hbr
    go_wp2
    go_ret
    exact⟨t-1,by first|rfl| (rw[Ap HF.out.1];rfl),HF.out.1,HS.out.2,HF.out.2,bel⟩
   ·obtain⟨rd,hrd⟩: ∃rd,r+d1=rd:=⟨_,rfl⟩
    rw[hrd] at HS hbr;have hrdI:(r:Int)+(d1:Int)=(rd:Int):=by omega
    have hbrN:rd<4294967296:=by omega
    have hrdJ:(rd:Int)<4294967296:=by omega
    have hrdD:decide ((4294967296:Int)≤(rd:Int))=false:=by rw[decide_eq_false_iff_not];omega
    clear hst hI hbr hrd
    go_wp2
    go_roundw
    case rel=>exact⟨t-1,rd,rfl,rfl,HS.out,hbrN,by omega,hc0,bel⟩
    case measure=>simp[msr,intOf];omega
  ·have hbI:(t:Int)<4294967296:=by omega
   have hbN:t<4294967296:=by omega
   have hbd:decide ((4294967296:Int)≤(t:Int))=false:=by rw[decide_eq_false_iff_not];omega
   have hxy:=uf hbN hd0;have hxyI:(t:Int)*(d0:Int)≤18446744065119617025:=by rw[←Int.natCast_mul];omega
   have hxy0:0≤(t:Int)*(d0:Int):=by rw[←Int.natCast_mul];omega
   have hsum:r*4294967296+p0<18446744073709551616:=by omega
   obtain⟨sm,hsm⟩: ∃sm,r*4294967296+p0=sm:=⟨_,rfl⟩;rw[hsm] at hor hsum
   by_cases hgt:sm<t*d0
   ·have hpos:0<t:=by
     rcases Nat.eq_zero_or_pos t with e|e
     ·rw[e,Nat.zero_mul] at hgt;omega
     ·exact e
    have hgtI:(sm:Int)< (t:Int)*(d0:Int):=by rw[←Int.natCast_mul];omega
    have hst:=S9 hI hpos (.inr (by rw[hsm];exact hgt));clear hbig hsm hgt;have m1:((t:Int)-1)=((t-1:Nat):Int):=by omega
    have HS:Hid _:=hst
    by_cases hbr:4294967296≤r+d1
    ·have hfin:=Mk hst hbr (by omega) HTop.out hle hp1 hd0
     have HF:Hid _:=hfin;have hbrI:(4294967296:Int)≤(r:Int)+(d1:Int):=by omega
     clear hfin hst hI hbr
     go_wp2
     go_ret
     exact⟨t-1,by first|rfl| (rw[Ap HF.out.1];rfl),HF.out.1,HS.out.2,HF.out.2,bel⟩
    ·obtain⟨rd,hrd⟩: ∃rd,r+d1=rd:=⟨_,rfl⟩
     rw[hrd] at HS hbr;have hrdI:(r:Int)+(d1:Int)=(rd:Int):=by omega
     have hbrN:rd<4294967296:=by omega
     have hrdJ:(rd:Int)<4294967296:=by omega
     have hrdD:decide ((4294967296:Int)≤(rd:Int))=false:=by rw[decide_eq_false_iff_not];omega
     clear hst hI hbr hrd
     go_wp2
     go_roundw
     case rel=>exact⟨t-1,rd,rfl,rfl,HS.out,hbrN,by omega,hc0,bel⟩
     case measure=>simp[msr,intOf];omega
   ·have hgtI:(t:Int)*(d0:Int)≤(sm:Int):=by rw[←Int.natCast_mul];omega
    have hfin:=Z2 hI (by rw[hsm];omega);have HF:Hid _:=hfin;have hgd:decide ((sm:Int)< (t:Int)*(d0:Int))=false:=by rw[decide_eq_false_iff_not];omega
    clear hbig hsm hgt hfin hI
    go_wp2
    go_ret
    exact⟨t,by first|rfl| (rw[Ap hbN];rfl),hbN,HI.out.2,HF.out,bel⟩
theorem IU (va:Value)(xs:List Nat)(vb:Value)(d:Nat)(w:World)(ha:Rd w .i64 va xs)(hb:Rd w .i64 vb [d])(sa:Dg.Small 65536 xs)(hla:xs.length≤1000000)(hd0:0<d)(hd:d<65536):
  yC 31 #[va,vb] w fun e w'=> ∃vq vr,e= .returned (.tuple #[vq,vr])∧Rd w' .i64 vq (Dg.dg 65536 (Dg.vl 65536 xs/d))∧Rd w' .i64 vr (Dg.dg 65536 (Dg.vl 65536 xs % d))∧yB w w':=by
 obtain⟨i0,hi,hz0,hz1,hz2⟩:=info_parts Tryz.infoI64;obtain⟨ao,ca,rfl,-,-,hca⟩:=ha;obtain⟨bo,cb,rfl,-,-,hcb⟩:=hb;obtain⟨bb,boff,rfl,hcellb⟩:=hcb (by simp);have hcb0:=hcellb 0 (by simp);simp only[List.getD_cons_zero,Nat.add_zero] at hcb0;have hlen1:([d]:List Nat).length=1:=rfl;rw[hlen1];clear hcellb hcb hlen1
 go_enter func31,ntmps31
 go_wp2_with (at_make;refine wpList_make_full _ rfl _ _ 33 rfl w.heap.size 3 i0 (yi 0) 1 underlying33 hi hz0 hz1 _ _ _ _ xs.length rfl rfl (by omega) (by omega) ?b2 ?b3 (Nat.le_refl _) ?_)
 case b2=>rw[hz2];omega
 case b3=>unfold maxLen;omega
 intro w0 hown0 hgrow0;have own0:=gL hown0;have bel0:yB w w0:=(Below.refl _ _).grown hgrow0 (Nat.le_refl _) (fun k h=>by cases h)
 clear hown0 hgrow0
 go_wp2
 go_loopw [7,8] (fun rv iv wr=> ∃(k r:Nat) (cur:List Nat),k≤xs.length∧iv=yi ((k:Int)-1)∧rv=yi r∧Own wr w.heap.size 3 .i64 (.slice (some ⟨w.heap.size,0,none⟩) xs.length xs.length) cur∧X9 xs cur d k r∧yB w wr)
  (fun _ iv _=>(intOf iv+1).toNat)
 case atStart=>exact⟨xs.length,0,_,Nat.le_refl _,rfl,rfl,own0,⟨by simp,Dg.small_replicate _ _ (by omega),hd0,by simp[Dg.vl]⟩,bel0⟩
 case round=>
  clear own0 bel0;obtain⟨k,r,cur,hk,rfl,rfl,own,hI,bel⟩:=hrel;have hlen:=hI.1;have hr:=hI.2.2.1
  by_cases hk0:k=0
  ·subst hk0
   obtain⟨h1,h2,h3,h5⟩:=hI;simp only[List.drop_zero] at h5;have e1:Dg.vl 65536 xs/d=Dg.vl 65536 cur:=by
    rw[h5,Nat.mul_comm,Nat.mul_add_div hd0,Nat.div_eq_of_lt h3];omega
   have e2:Dg.vl 65536 xs % d=r:=by
    rw[h5,Nat.mul_comm,Nat.mul_add_mod,Nat.mod_eq_of_lt h3]
   have HE1:Hid (Dg.vl 65536 xs/d=Dg.vl 65536 cur):=e1;have HE2:Hid (Dg.vl 65536 xs % d=r):=e2;have hcl:cur.length≤1000000:=by omega
   clear h5 e1 e2 hlen h1
   go_wp2_with fail
   refine(i9 _ _ _ cur _ own.rd).mono ?_;rintro e w' ⟨m,rfl,hm,rfl⟩;have rq:=xh own h2 hm (by omega);have a1:Below w'.heap.size w' (w'.alloc (.cells #[yi r] 3)):=(Below.refl _ _).alloc (Nat.le_refl _) _;have r1:=cE (w:=w') (k:= .i64) (e:=3) [r] #[yi r] rfl (by unfold maxLen;simp)
   go_wp2_with fail
   refine(i9 _ _ _ [r] _ r1).mono ?_;rintro e w2 ⟨m2,rfl,hm2,rfl⟩;have hml:=hm2.1;simp only[List.length_cons,List.length_nil] at hml;have rr:=uE (cap':=m2) 65536 (by omega) r1 (Dg.small_cons.2 ⟨by omega,Dg.small_nil _ (by omega)⟩) hm2 (Nat.le_refl _) (by unfold maxLen;omega);have ev:Dg.vl 65536 [r]=r:=by simp[Dg.vl]
   rw[ev] at rr;have rq2:=rq.l a1;have bel2:=aa bel a1;clear hm hm2 r1 ev
   go_wp2
   go_ret2
   exact⟨_,_,rfl,by rw[HE1.out];exact rq2,by rw[HE2.out];exact rr,bel2⟩
  ·obtain⟨m,rfl⟩: ∃m,k=m+1:=⟨k-1,by omega⟩
   obtain⟨b,off,rfl,hcell⟩:=hca (by omega);have hx:=cell_later bel (hcell m (by omega));have hbb:=cell_later bel hcb0;have hxl:=sa m;have hq:=own.c m (by omega);have hf:=own.f m;obtain⟨x,ex⟩: ∃x,xs.getD m 0=x:=⟨_,rfl⟩;rw[ex] at hx hxl;have hql:=M8 (t:=65536*r+x) hr hxl rfl;have hst:=Qp hI (by omega) (by rw[ex]) hd0 hql;have hrl:(65536*r+x) % d<d:=Nat.mod_lt _ hd0;obtain⟨t,ht⟩: ∃t,65536*r+x=t:=⟨_,rfl⟩;have htl:t<4294967296:=by omega
   rw[ht] at hst hql hrl;have htI:65536*(r:Int)+(x:Int)=(t:Int):=by omega
   obtain⟨q1,hq1⟩: ∃q1,t/d=q1:=⟨_,rfl⟩;obtain⟨m1,hm1⟩: ∃m1,t % d=m1:=⟨_,rfl⟩;have e1:(t:Int).tdiv d=(q1:Int):=by rw[Int.tdiv_eq_ediv_of_nonneg (by omega),←hq1];exact(Int.natCast_ediv t d).symm
   have e2:(t:Int).tmod d=(m1:Int):=by rw[Int.tmod_eq_emod_of_nonneg (by omega),←hm1];exact(Int.natCast_emod t d).symm
   have e3:(t:Int)/(d:Int)=(q1:Int):=by rw[←hq1];exact(Int.natCast_ediv t d).symm
   have e4:(t:Int) % (d:Int)=(m1:Int):=by rw[←hm1];exact(Int.natCast_emod t d).symm
   rw[hq1] at hst hql;rw[hm1] at hst hrl;have e5:IntKind.i64.wrap (q1:Int)=(q1:Int):=IntWalk.i64_in _ ⟨by omega,by omega⟩;have hdne:((d:Int)==0)=false:=by simp;omega
   clear ex hcell hca hI hq1 hm1 ht hlen
   go_wp2
   go_region
   all_goals go_wp2
   all_goals go_roundw
   case rel=>exact⟨m,_,_,by omega,by go_num,rfl,Own.l (own.store m _) (Below.drew (Below.refl _ _)),hst,(bel.setCell (by exact Nat.le_refl _) _).drew⟩
   case measure=>simp[intOf]
end Go.Proofs.YtiakgfmlpdfhdaaGreatDoor
