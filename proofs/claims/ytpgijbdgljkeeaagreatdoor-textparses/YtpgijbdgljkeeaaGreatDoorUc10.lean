/-
  Texts laid together: Tx24, Tx25, Tx26, Undec, Tx27.
-/
import Derived.Test.YtpgijbdgljkeeaaGreatDoorUc09
set_option maxRecDepth 100000
set_option maxHeartbeats 12800000
namespace Go.Proofs.YtpgijbdgljkeeaaGreatDoor
open _root_.Go.Proofs.Tryz
open Go.RowKit
def rqS:Nat→Nat×Nat→Nat×Nat
 |0,z=>z
 |k+1,z=>rqS k (if z.1 % 5=0∧z.2=1 then(z.1/5,1) else(z.1,z.2*5))
theorem rqS_down {k n d:Nat}{Z:Nat×Nat}(h:rqS (k+1) (n,d)=Z)(h1:n % 5=0)(h2:d=1):rqS k (n/5,1)=Z:=by
 rw[←h]
 show _=rqS k (if n % 5=0∧d=1 then _ else _)
 rw[if_pos ⟨h1,h2⟩]
theorem rqS_up {k n d:Nat}{Z:Nat×Nat}(h:rqS (k+1) (n,d)=Z)(h1: ¬(n % 5=0∧d=1)):rqS k (n,d*5)=Z:=by
 rw[←h]
 show _=rqS k (if n % 5=0∧d=1 then _ else _)
 rw[if_neg h1]
def RqW (w:World)(b2 b9:Nat)(ng:Bool)(e:Int)(v u:Value)(n d:Nat)(wr:World):Prop:=
 yB w wr∧au wr b2 31 (yrL false yN yN 0)∧au wr b9 31 (yrL ng v u e)∧Rd wr .i64 v (Dg.dg 65536 n)∧Rd wr .i64 u (Dg.dg 65536 d)
def RqA (w:World)(b2 b9:Nat)(ng:Bool)(e p:Int)(Y:Nat)(pv:Value)(wr:World):Prop:=
 ∃(q:Int) (n:Nat) (v u:Value),pv=yi q∧n*5^q.toNat=Y∧(-q).toNat=(-p).toNat∧(-6000≤q∧q≤6000)∧RqW w b2 b9 ng e v u n 1 wr
def RqB (w:World)(b2 b9:Nat)(ng:Bool)(e:Int)(Z:Nat×Nat)(B:Nat)(pv:Value)(wr:World):Prop:=
 ∃(k n d:Nat) (v u:Value),pv=yi (-(k:Int))∧rqS k (n,d)=Z∧n≤B∧d*5^k≤B∧k≤6000∧RqW w b2 b9 ng e v u n d wr
theorem rd_five {w:World}{q:Nat}(h:au w q 3 [yi 5]):Rd w .i64 (.slice (some ⟨q,0,none⟩) 1 1) (Dg.dg 65536 5):=by
 rw[show Dg.dg 65536 5=[5] by decide]
 exact⟨_,1,rfl,Nat.le_refl _,by unfold maxLen;omega,fun _=>⟨q,0,rfl,fun i hi=>by
  obtain rfl:i=0:=by simpa using hi
  exact h.c 0 rfl⟩⟩
theorem offQ {w:World}{b n:Nat}{ty:TypeId}{v:Value}(h:Rd w .i64 v (Dg.dg 65536 n))(hl:au w b ty (yrL false yN yN 0)):wF b v (Dg.dg 65536 n):=
 cq h (Dg.norm_dg _ _ (by omega)) hl (fun x hx n hn=>by simp at hx;rcases hx with rfl|rfl|rfl|rfl<;>simp;all_goals omega)
theorem refRatioOf_W (N B:Nat)(x:ak)(ng:Bool)(ds tx:ByteArray)(p e:Int)(w:World)(h4:tx.size≤400)(h1: ¬p< -6000)(h2: ¬6000<p)(he:IntKind.i64.wrap (x.e+p)=e)(hl0: ¬(Dg.dg 65536 x.n).length=0)(hB1:x.n*5^p.toNat≤B)(hB2:5^ (-p).toNat≤B)(Z:Nat×Nat)(hZ:rqS (-p).toNat (x.n*5^p.toNat,1)=Z)
  (HN:yH w 29 #[.string tx] (.tuple #[.bool ng,.string ds,yi p,.bool true]))
  (HU: ∀w1,yC 33 #[.string ds] w1 (cG w1 N))
  (HB: ∀no nc w1,Rd w1 .i64 (yS no N nc) (Dg.dg 65536 N)→yC 32 #[ydV ng (yS no N nc) 0] w1 (dr w1 x))
  (HT: ∀(m:Nat) v q w1,m≤B→Rd w1 .i64 v (Dg.dg 65536 m)→au w1 q 3 [yi 5]→yC 34 #[v,.slice (some ⟨q,0,none⟩) 1 1] w1 (cG w1 (m*5)))
  (HI: ∀(m:Nat) v q w1,m≤B→Rd w1 .i64 v (Dg.dg 65536 m)→au w1 q 3 [yi 5]→yC 35 #[v,.slice (some ⟨q,0,none⟩) 1 1] w1 (JI w1 (m/5) (m % 5))):
  yC 10 #[.string tx] w (RqE w ng Z.1 Z.2 e 0):=by
 replace HN:Hid _:=HN;replace HU:Hid _:=HU;replace HB:Hid _:=HB;replace HT:Hid _:=HT;replace HI:Hid _:=HI;replace hZ:Hid _:=hZ;replace hB1:Hid _:=hB1;replace hB2:Hid _:=hB2;obtain⟨W3,hW4,q1,b2⟩:=cA w (yrL false yN yN 0) 31;replace hW4:Hid _:=hW4
 go_enter func10,ntmps10
 go_upto_region 1 with fail
 rw[hW4.out];clear hW4
 go_wp2_with fail
 refine(HN.out _ b2).mono ?_;rintro zz w5 ⟨rfl,bb6⟩;have q7:=q1.l bb6;have b8:=aa b2 bb6;clear q1 b2 bb6 HN
 go_wp2_with fail
 refine(HU.out _).mono ?_;rintro zz w9 ⟨v1x11,rfl,r1x12,bb10⟩;have q13:=q7.l bb10;have b14:=aa b8 bb10;obtain⟨no,nc,hv⟩:=r1x12.shape;subst hv;clear q7 b8 bb10 HU
 go_wp2_with fail
 refine(HB.out _ _ _ r1x12).mono ?_;rintro zz w15 ⟨v1x17,rfl,r1x18,bb16⟩;have q19:=q13.l bb16;have b20:=aa b14 bb16;obtain⟨xo,xc,hv⟩:=r1x18.shape;subst hv;clear q13 r1x12 b14 bb16 HB;obtain⟨W23,hW22,q24,al21⟩:=cA w15 (yML x xo xc) 47;replace hW22:Hid _:=hW22;have hl25:w.heap.size≤w15.heap.size:=b20.size;have hl26:=q19.lt;have q27:=q19.l al21;have r28:=r1x18.l al21;have b29:=aa b20 al21;clear q19 r1x18 b20 al21
 go_upto_region 9 with fail
 rw[hW22.out];clear hW22;have c30:=q24.c 1 rfl;have hl33:=q27.lt;have hl34:=q24.lt;have al31:=af W23 (.cells #[yi 1] 3);have q32:=ah W23 [yi 1] 3;have q35:=q27.l al31;have q36:=q24.l al31;have r37:=r28.l al31;have b38:=aa b29 al31;obtain⟨W41,hW40,q42,al39⟩:=cA (W23.alloc (.cells #[yi 1] 3)) (yrL ng (yS xo x.n xc) (.slice (some ⟨W23.heap.size,0,none⟩) 1 1) e) 31;replace hW40:Hid _:=hW40;have hl43:w.heap.size≤(W23.alloc (.cells #[yi 1] 3)).heap.size:=b38.size;have hl44:=q35.lt;have hl45:=q32.lt;simp only[World.size_alloc] at q42 hl43 hl44 hl45;have c46:=q36.c 2 rfl;have q47:=q35.l al39;have q48:=q32.l al39;have r49:=r37.l al39;have b50:=aa b38 al39;clear q35 q36 q32 r37 b38 al39 q27 q24 r28 b29 al31
 go_wp2_with fail
 rw[hW40.out];clear c46 hW40;have hbb:w.heap.size≤w.heap.size∧w.heap.size<W23.heap.size+1:=⟨by omega,by omega⟩;have hS:RqW w (w.heap.size) (W23.heap.size+1) ng e (yS xo x.n xc) (.slice (some ⟨W23.heap.size,0,none⟩) 1 1) x.n 1 (W41):=⟨b50,q47,q42,r49,rd_one16 (q48.c 0 rfl)⟩;clear q47 q48 q42 r49 b50;generalize W23.heap.size+1=b9 at hS hbb⊢;generalize W41=ws at hS⊢
 go_wp2
 simp only[show decide ((400:Int)< (tx.size:Int))=false from decide_eq_false (by omega),show decide (p< (-6000:Int))=false from decide_eq_false (by omega),show decide ((6000:Int)<p)=false from decide_eq_false (by omega),show(((Dg.dg 65536 x.n).length:Int)==0)=false from beq_eq_false_iff_ne.2 (by omega),Bool.or_false]
 have hn0:x.n*5^p.toNat=x.n*5^p.toNat:=rfl
 go_loopw [6] (fun pv wr=>RqA w w.heap.size b9 ng e p (x.n*5^p.toNat) pv wr) (fun pv _=>(intOf pv).toNat)
 case atStart=>exact⟨p,x.n,_,_,rfl,rfl,rfl,⟨by omega,by omega⟩,hS⟩
 case round=>
  clear hS hn0;obtain⟨q,n,v,u,rfl,hn,hq,hqr,hS⟩:=hrel
  by_cases hlt:0<q
  ·have hnB:n≤B:=Nat.le_trans (Nat.le_mul_of_pos_right n (Nat.pow_pos (show 0<5 by decide))) (by rw[hn];exact hB1.out)
   have hn5:n*5*5^ (q-1).toNat=x.n*5^p.toNat:=by rw[←hn,show q.toNat=(q-1).toNat+1 by omega,Nat.pow_succ,Nat.mul_assoc,Nat.mul_comm 5]
   have hq2:(-(q-1)).toNat=(-p).toNat:=by omega
   have ew:IntKind.i64.wrap (q-1)=q-1:=IntWalk.i64_in _ ⟨by omega,by omega⟩;replace hn5:Hid _:=hn5;replace hq2:Hid _:=hq2;clear hn hq;obtain⟨bz,q2,q9,rn,rd⟩:=hS;obtain⟨no,nc,rfl⟩:=rn.shape;obtain⟨yo,yc,rfl⟩:=rd.shape;have c101:=q9.c 1 rfl;have hl104:=q2.lt;have hl105:=q9.lt;have al102:=af wr (.cells #[yi 5] 3);have q103:=ah wr [yi 5] 3;have q106:=q2.l al102;have q107:=q9.l al102;have r108:=rn.l al102;have r109:=rd.l al102;have b110:=aa bz al102
   go_wp2_with fail
   refine(HT.out n _ _ _ hnB r108 q103).mono ?_;rintro zz w111 ⟨v1x113,rfl,r1x114,bb112⟩;have q115:=q106.l bb112;have q116:=q107.l bb112;have r117:=r109.l bb112;have b118:=aa b110 bb112;obtain⟨mo,mc,hv⟩:=r1x114.shape;subst hv;clear q106 q107 q103 r108 r109 b110 bb112 c101 q2 q9 rn rd bz al102;have bu:=ag w111 b9 1 (.slice mo (Dg.dg 65536 (n*5)).length mc);have q119:au (w111.setCell ⟨b9,1,none⟩ (.slice mo (Dg.dg 65536 (n*5)).length mc)) b9 31 (yrL ng (.slice mo (Dg.dg 65536 (n*5)).length mc) (yS yo 1 yc) e):=(q116.set 1 (.slice mo (Dg.dg 65536 (n*5)).length mc));have c120:=q116.c 1 rfl;have y121:=q116.f 1;have q122:=bu.loc q115 (by omega);have r123:=r117.setC (q116.c 1 rfl) (fun n=>by simp) (.slice mo (Dg.dg 65536 (n*5)).length mc)
   have r124:=r1x114.setC (q116.c 1 rfl) (fun n=>by simp) (.slice mo (Dg.dg 65536 (n*5)).length mc)
   have b125:=bu.below b118 (by omega);clear bu
   go_upto_region 13 with fail
   generalize w111.setCell ⟨b9,1,none⟩ (.slice mo (Dg.dg 65536 (n*5)).length mc)=W126 at q122 q119 r123 r124 b125⊢;clear q116 q115 r117 r1x114 b118 c120 y121
   go_wp2
   go_roundw
   case rel=>exact⟨q-1,n*5,_,_,by go_num,hn5.out,hq2.out,⟨by omega,by omega⟩,b125,q122,q119,r124,r123⟩
   case measure=>simp[intOf];omega
  ·have hnZ:n=x.n*5^p.toNat:=by rw[←hn,show q.toNat=0 by omega,Nat.pow_zero,Nat.mul_one]
   have hqk:q= -(((-p).toNat:Nat):Int):=by omega
   have hZ:=hZ.out;have hB1:=hB1.out;have hB2:=hB2.out;obtain⟨K,hK⟩: ∃K,(-p).toNat=K:=⟨_,rfl⟩;have hK6:K≤6000:=by omega
   rw[hK] at hqk hB2 hZ;rw[←hnZ] at hB1 hZ;subst hqk;clear hn hq hqr hK hnZ;have hng: ¬(0< -(K:Int)):=by omega
   go_wp2
   go_loopw [6] (fun pv wr=>RqB w w.heap.size b9 ng e Z B pv wr) (fun pv _=>(-(intOf pv)).toNat)
   case atStart=>exact⟨K,n,1,_,_,rfl,hZ,hB1,by rw[Nat.one_mul];exact hB2,hK6,hS⟩
   case round=>
    clear hS hlt hng;obtain⟨k',n,d,v,u,rfl,hz,hnB,hdB,hk6,hS⟩:=hrel
    rcases Nat.eq_zero_or_pos k' with rfl|hk
    ·obtain⟨bz,q2,q9,rn,rd⟩:=hS
     obtain rfl:Z=(n,d):=hz.symm;obtain⟨no,nc,rfl⟩:=rn.shape;obtain⟨yo,yc,rfl⟩:=rd.shape;clear hz hnB hdB;simp only[show(-((0:Nat):Int))=0 from rfl]
     obtain⟨c301,c302,c303,c304⟩:=q9.cs4;have hf:=afz (P:=Tryz.prog) q2 bz (by omega) underlying31 rfl (by kernel_rfl) (.bool ng) (yS no n nc) (yS yo d yc) (yi e);have HH:Hid (_∧_∧_∧_):=⟨hf.1,hf.2.2.rd rn (offQ rn q2),hf.2.2.rd rd (offQ rd q2),hf.2.1⟩;obtain⟨⟨z0,z1,z2,z3⟩,y0,y1,y2,y3⟩:=afB q2;clear hf q2 q9 rn rd bz
     go_wp2
     obtain⟨hl,rRn,rRy,bR⟩:=HH.out;exact bodyPost_ret (aj results10 rfl rfl hl) rfl ⟨_,_,rfl,rRn,rRy,bR⟩
    ·obtain⟨k,rfl⟩: ∃k,k'=k+1:=⟨k'-1,by omega⟩
     clear hk;have hdB2:d*5^ (k+1)≤B:=hdB;have hd5:d*5*5^k≤B:=by rw[Nat.mul_assoc,Nat.mul_comm 5,←Nat.pow_succ];exact hdB2
     replace hdB:d≤B:=Nat.le_trans (Nat.le_mul_of_pos_right d (Nat.pow_pos (show 0<5 by decide))) hdB2
     have ew:IntKind.i64.wrap (-((k+1:Nat):Int)+1)= -(k:Int):=by rw[IntWalk.i64_in _ ⟨by omega,by omega⟩];omega
     have hlt: -((k+1:Nat):Int)<0:=by omega
     have hn5:n/5≤B:=Nat.le_trans (Nat.div_le_self _ _) hnB;have hlen:n % 5=0↔(Dg.dg 65536 (n % 5)).length=0:=by rw[List.length_eq_zero_iff,Dg.dg_nil_iff _ _ (by omega)]
     replace hn5:Hid _:=hn5;obtain⟨bz,q2,q9,rn,rd⟩:=hS;obtain⟨no,nc,rfl⟩:=rn.shape;clear hdB2
     by_cases hm:n % 5=0
     rotate_left
     ·have hz:=rqS_up hz (fun c=>hm c.1)
      obtain⟨uo,uc,rfl⟩:=rd.shape;have hml: ¬(Dg.dg 65536 (n % 5)).length=0:=fun c=>hm (hlen.2 c)
      replace hz:Hid _:=hz;replace hd5:Hid _:=hd5;clear hm hlen;have c201:=q9.c 1 rfl;have hl204:=q2.lt;have hl205:=q9.lt;have al202:=af wr (.cells #[yi 5] 3);have q203:=ah wr [yi 5] 3;have q206:=q2.l al202;have q207:=q9.l al202;have r208:=rn.l al202;have r209:=rd.l al202;have b210:=aa bz al202
      go_wp2_with fail
      refine(HI.out n _ _ _ hnB r208 q203).mono ?_;rintro zz w211 ⟨v1x213,v2x214,rfl,r1x215,r2x216,bb212⟩;have q217:=q206.l bb212;have q218:=q207.l bb212;have r219:=r208.l bb212;have r220:=r209.l bb212;have b221:=aa b210 bb212;obtain⟨io,ic,hv⟩:=r1x215.shape;subst hv;obtain⟨mo,mc,hv⟩:=r2x216.shape;subst hv;clear q206 q207 q203 r208 r209 b210 bb212 c201 q2 q9 rn rd bz al202;have c222:=q218.c 2 rfl;have hl225:=q217.lt;have hl226:=q218.lt;have al223:=af w211 (.cells #[yi 5] 3);have q224:=ah w211 [yi 5] 3;have q227:=q217.l al223;have q228:=q218.l al223;have r229:=r219.l al223;have r230:=r220.l al223;have b231:=aa b221 al223
      go_wp2_with fail
      refine(HT.out d _ _ _ hdB r230 q224).mono ?_;rintro zz w232 ⟨v1x234,rfl,r1x235,bb233⟩;have q236:=q227.l bb233;have q237:=q228.l bb233;have r238:=r229.l bb233;have b239:=aa b231 bb233;obtain⟨zo,zc,hv⟩:=r1x235.shape;subst hv;clear q227 q228 q224 r229 r230 b231 bb233 c222 q217 q218 r219 r220 r1x215 r2x216 b221 al223;have bu:=ag w232 b9 2 (.slice zo (Dg.dg 65536 (d*5)).length zc);have q240:au (w232.setCell ⟨b9,2,none⟩ (.slice zo (Dg.dg 65536 (d*5)).length zc)) b9 31 (yrL ng (yS no n nc) (.slice zo (Dg.dg 65536 (d*5)).length zc) e):=(q237.set 2 (.slice zo (Dg.dg 65536 (d*5)).length zc));have c241:=q237.c 2 rfl;have y242:=q237.f 2;have q243:=bu.loc q236 (by omega);have r244:=r238.setC (q237.c 2 rfl) (fun n=>by simp) (.slice zo (Dg.dg 65536 (d*5)).length zc)
      have r245:=r1x235.setC (q237.c 2 rfl) (fun n=>by simp) (.slice zo (Dg.dg 65536 (d*5)).length zc)
      have b246:=bu.below b239 (by omega);clear bu
      go_upto_region 16 with fail
      generalize w232.setCell ⟨b9,2,none⟩ (.slice zo (Dg.dg 65536 (d*5)).length zc)=W247 at q243 q240 r244 r245 b246⊢;clear q237 q236 r238 r1x235 b239 c241 y242
      go_wp2
      go_roundw
      case rel=>exact⟨k,n,(d*5),_,_,by go_num,hz.out,hnB,hd5.out,by omega,b246,q243,q240,r244,r245⟩
      case measure=>simp[intOf];omega
     have hml:(Dg.dg 65536 (n % 5)).length=0:=hlen.1 hm;clear hlen
     by_cases hd1:d=1
     ·subst hd1
      have hz:=rqS_down hz hm rfl;replace hz:Hid _:=hz;have hd5:1*5^k≤B:=Nat.le_trans (Nat.mul_le_mul_right _ (by omega)) hd5;replace hd5:Hid _:=hd5;obtain⟨uo,uc,rfl⟩:=rd.shape;have hone:Dg.dg 65536 1=[1]:=by decide
      obtain⟨ub,uf,hu,qu⟩: ∃ub uf,uo=some ⟨ub,uf,none⟩∧wr.rangeAt ub uf [yi 1]:=by
       obtain⟨ub,uf,hu,hc⟩:=(iQ rd).2.2 (by rw[hone];decide);refine⟨ub,uf,hu,fun j y hj=> ?_⟩
       obtain rfl|j0:j=0∨0<j:=by omega
       ·have:=hc 0 (by rw[hone];decide)
        rw[hone] at this;simp only[List.getElem?_cons_zero,Option.some.injEq] at hj;rw[←hj];exact this
       ·rw[List.getElem?_eq_none (by simp;omega)] at hj
        cases hj
      subst hu;have hll:(Dg.dg 65536 1).length=1:=by rw[hone];rfl
      rw[hll] at q9 rd;clear hone hll hm;have c201:=q9.c 1 rfl;have hl204:=q2.lt;have hl205:=q9.lt;have al202:=af wr (.cells #[yi 5] 3);have q203:=ah wr [yi 5] 3;have q206:=aC qu al202;have q207:=q2.l al202;have q208:=q9.l al202;have r209:=rn.l al202;have r210:=rd.l al202;have b211:=aa bz al202
      go_wp2_with fail
      refine(HI.out n _ _ _ hnB r209 q203).mono ?_;rintro zz w212 ⟨v1x214,v2x215,rfl,r1x216,r2x217,bb213⟩;have q218:=aC q206 bb213;have q219:=q207.l bb213;have q220:=q208.l bb213;have r221:=r210.l bb213;have b222:=aa b211 bb213;obtain⟨io,ic,hv⟩:=r1x216.shape;subst hv;obtain⟨mo,mc,hv⟩:=r2x217.shape;subst hv;clear q206 q207 q208 q203 r209 r210 b211 bb213 c201 qu q2 q9 rn rd bz al202;have hcu:=q218 0 _ rfl;rw[Nat.add_zero] at hcu;have c224:=q220.c 2 rfl;have bu:=ag w212 b9 1 (.slice io (Dg.dg 65536 (n/5)).length ic);have q223:au (w212.setCell ⟨b9,1,none⟩ (.slice io (Dg.dg 65536 (n/5)).length ic)) b9 31 (yrL ng (.slice io (Dg.dg 65536 (n/5)).length ic) (.slice (some ⟨ub,uf,none⟩) 1 uc) e):=(q220.set 1 (.slice io (Dg.dg 65536 (n/5)).length ic));have c225:=q220.c 1 rfl;have y226:=q220.f 1;have q227:=bu.loc q219 (by omega);have r228:=r221.setC (q220.c 1 rfl) (fun n=>by simp) (.slice io (Dg.dg 65536 (n/5)).length ic)
      have r229:=r1x216.setC (q220.c 1 rfl) (fun n=>by simp) (.slice io (Dg.dg 65536 (n/5)).length ic)
      have b230:=bu.below b222 (by omega);clear bu
      go_upto_region 16 with fail
      generalize w212.setCell ⟨b9,1,none⟩ (.slice io (Dg.dg 65536 (n/5)).length ic)=W231 at q227 q223 r228 r229 b230⊢;clear q220 q218 q219 r221 r1x216 r2x217 b222 c224 c225 y226 hcu
      go_wp2
      go_roundw
      case rel=>exact⟨k,(n/5),1,_,_,by go_num,hz.out,hn5.out,hd5.out,by omega,b230,q227,q223,r229,r228⟩
      case measure=>simp[intOf];omega
     ·have hz:=rqS_up hz (fun c=>hd1 c.2)
      replace hz:Hid _:=hz;replace hd5:Hid _:=hd5;obtain⟨uo,uc,rfl⟩:=rd.shape
      by_cases hll:(Dg.dg 65536 d).length=1
      rotate_left
      ·have hl1: ¬(((Dg.dg 65536 d).length:Int)=1):=by omega
       clear hm hd1;have c201:=q9.c 1 rfl;have hl204:=q2.lt;have hl205:=q9.lt;have al202:=af wr (.cells #[yi 5] 3);have q203:=ah wr [yi 5] 3;have q206:=q2.l al202;have q207:=q9.l al202;have r208:=rn.l al202;have r209:=rd.l al202;have b210:=aa bz al202
       go_wp2_with fail
       refine(HI.out n _ _ _ hnB r208 q203).mono ?_;rintro zz w211 ⟨v1x213,v2x214,rfl,r1x215,r2x216,bb212⟩;have q217:=q206.l bb212;have q218:=q207.l bb212;have r219:=r208.l bb212;have r220:=r209.l bb212;have b221:=aa b210 bb212;obtain⟨io,ic,hv⟩:=r1x215.shape;subst hv;obtain⟨mo,mc,hv⟩:=r2x216.shape;subst hv;clear q206 q207 q203 r208 r209 b210 bb212 c201 q2 q9 rn rd bz al202;have c222:=q218.c 2 rfl;have hl225:=q217.lt;have hl226:=q218.lt;have al223:=af w211 (.cells #[yi 5] 3);have q224:=ah w211 [yi 5] 3;have q227:=q217.l al223;have q228:=q218.l al223;have r229:=r219.l al223;have r230:=r220.l al223;have b231:=aa b221 al223
       go_wp2_with fail
       refine(HT.out d _ _ _ hdB r230 q224).mono ?_;rintro zz w232 ⟨v1x234,rfl,r1x235,bb233⟩;have q236:=q227.l bb233;have q237:=q228.l bb233;have r238:=r229.l bb233;have b239:=aa b231 bb233;obtain⟨zo,zc,hv⟩:=r1x235.shape;subst hv;clear q227 q228 q224 r229 r230 b231 bb233 c222 q217 q218 r219 r220 r1x215 r2x216 b221 al223;have bu:=ag w232 b9 2 (.slice zo (Dg.dg 65536 (d*5)).length zc);have q240:au (w232.setCell ⟨b9,2,none⟩ (.slice zo (Dg.dg 65536 (d*5)).length zc)) b9 31 (yrL ng (yS no n nc) (.slice zo (Dg.dg 65536 (d*5)).length zc) e):=(q237.set 2 (.slice zo (Dg.dg 65536 (d*5)).length zc));have c241:=q237.c 2 rfl;have y242:=q237.f 2;have q243:=bu.loc q236 (by omega);have r244:=r238.setC (q237.c 2 rfl) (fun n=>by simp) (.slice zo (Dg.dg 65536 (d*5)).length zc)
       have r245:=r1x235.setC (q237.c 2 rfl) (fun n=>by simp) (.slice zo (Dg.dg 65536 (d*5)).length zc)
       have b246:=bu.below b239 (by omega);clear bu
       go_upto_region 16 with fail
       generalize w232.setCell ⟨b9,2,none⟩ (.slice zo (Dg.dg 65536 (d*5)).length zc)=W247 at q243 q240 r244 r245 b246⊢;clear q237 q236 r238 r1x235 b239 c241 y242
       go_wp2
       go_roundw
       case rel=>exact⟨k,n,(d*5),_,_,by go_num,hz.out,hnB,hd5.out,by omega,b246,q243,q240,r244,r245⟩
       case measure=>simp[intOf];omega
      ·have hdg:Dg.dg 65536 d=[d]:=by
        obtain⟨y,hy⟩:=List.length_eq_one_iff.1 hll;have:=Dg.vl_dg 65536 d (by omega);rw[hy] at this;rw[hy];simp only[Dg.vl,Nat.mul_zero,Nat.add_zero] at this;rw[this]
       obtain⟨ub,uf,hu,qu⟩: ∃ub uf,uo=some ⟨ub,uf,none⟩∧wr.rangeAt ub uf [yi d]:=by
        obtain⟨ub,uf,hu,hc⟩:=(iQ rd).2.2 (by rw[hll];decide);refine⟨ub,uf,hu,fun j y hj=> ?_⟩
        obtain rfl|j0:j=0∨0<j:=by omega
        ·have:=hc 0 (by rw[hll];decide)
         rw[hdg] at this;simp only[List.getElem?_cons_zero,Option.some.injEq] at hj;rw[←hj];exact this
        ·rw[List.getElem?_eq_none (by simp;omega)] at hj
         cases hj
       subst hu;rw[hll] at q9 rd;have hd2:(((d:Nat):Int)==1)=false:=by rw[beq_eq_false_iff_ne];omega
       clear hdg hll hm hd1;have c201:=q9.c 1 rfl;have hl204:=q2.lt;have hl205:=q9.lt;have al202:=af wr (.cells #[yi 5] 3);have q203:=ah wr [yi 5] 3;have q206:=aC qu al202;have q207:=q2.l al202;have q208:=q9.l al202;have r209:=rn.l al202;have r210:=rd.l al202;have b211:=aa bz al202
       go_wp2_with fail
       refine(HI.out n _ _ _ hnB r209 q203).mono ?_;rintro zz w212 ⟨v1x214,v2x215,rfl,r1x216,r2x217,bb213⟩;have q218:=aC q206 bb213;have q219:=q207.l bb213;have q220:=q208.l bb213;have r221:=r209.l bb213;have r222:=r210.l bb213;have b223:=aa b211 bb213;obtain⟨io,ic,hv⟩:=r1x216.shape;subst hv;obtain⟨mo,mc,hv⟩:=r2x217.shape;subst hv;clear q206 q207 q208 q203 r209 r210 b211 bb213 c201 qu q2 q9 rn rd bz al202;have hcu:=q218 0 _ rfl;rw[Nat.add_zero] at hcu;have c224:=q220.c 2 rfl;have hl227:=q219.lt;have hl228:=q220.lt;have al225:=af w212 (.cells #[yi 5] 3);have q226:=ah w212 [yi 5] 3;have q229:=q219.l al225;have q230:=q220.l al225;have r231:=r221.l al225;have r232:=r222.l al225;have b233:=aa b223 al225
       go_wp2_with fail
       refine(HT.out d _ _ _ hdB r232 q226).mono ?_;rintro zz w234 ⟨v1x236,rfl,r1x237,bb235⟩;have q238:=q229.l bb235;have q239:=q230.l bb235;have r240:=r231.l bb235;have b241:=aa b233 bb235;obtain⟨zo,zc,hv⟩:=r1x237.shape;subst hv;clear q229 q230 q226 r231 r232 b233 bb235 c224 hcu q218 q219 q220 r221 r222 r1x216 r2x217 b223 al225;have bu:=ag w234 b9 2 (.slice zo (Dg.dg 65536 (d*5)).length zc);have q242:au (w234.setCell ⟨b9,2,none⟩ (.slice zo (Dg.dg 65536 (d*5)).length zc)) b9 31 (yrL ng (yS no n nc) (.slice zo (Dg.dg 65536 (d*5)).length zc) e):=(q239.set 2 (.slice zo (Dg.dg 65536 (d*5)).length zc));have c243:=q239.c 2 rfl;have y244:=q239.f 2;have q245:=bu.loc q238 (by omega);have r246:=r240.setC (q239.c 2 rfl) (fun n=>by simp) (.slice zo (Dg.dg 65536 (d*5)).length zc)
       have r247:=r1x237.setC (q239.c 2 rfl) (fun n=>by simp) (.slice zo (Dg.dg 65536 (d*5)).length zc)
       have b248:=bu.below b241 (by omega);clear bu
       go_upto_region 16 with fail
       generalize w234.setCell ⟨b9,2,none⟩ (.slice zo (Dg.dg 65536 (d*5)).length zc)=W249 at q245 q242 r246 r247 b248⊢;clear q239 q238 r240 r1x237 b241 c243 y244
       go_wp2
       go_roundw
       case rel=>exact⟨k,n,(d*5),_,_,by go_num,hz.out,hnB,hd5.out,by omega,b248,q245,q242,r246,r247⟩
       case measure=>simp[intOf];omega
def RqZ (w:World)(z:Ending)(w':World):Prop:=
 ∃q,z= .returned (.tuple #[yrV false yN (.slice (some ⟨q,0,none⟩) 1 1) 0,yi 0])∧au w' q 3 [yi 1]∧yB w w'
theorem ratioOf_zero (N:Nat)(xe:Int)(ng xs:Bool)(ds tx:ByteArray)(p:Int)(w:World)(h4:tx.size≤400)(h1: ¬p< -6000)(h2: ¬6000<p)
  (HN:yH w 29 #[.string tx] (.tuple #[.bool ng,.string ds,yi p,.bool true]))
  (HU: ∀w1,yC 33 #[.string ds] w1 (cG w1 N))
  (HB: ∀no nc w1,Rd w1 .i64 (yS no N nc) (Dg.dg 65536 N)→yC 32 #[ydV ng (yS no N nc) 0] w1 fun z w'=> ∃ao ac,z= .returned (ydV xs (.slice ao 0 ac) xe)∧yB w1 w'):
  yC 10 #[.string tx] w (RqZ w):=by
 replace HN:Hid _:=HN;replace HU:Hid _:=HU;replace HB:Hid _:=HB;obtain⟨W3,hW4,q1,b2⟩:=cA w (yrL false yN yN 0) 31;replace hW4:Hid _:=hW4
 go_enter func10,ntmps10
 go_upto_region 1 with fail
 rw[hW4.out];clear hW4
 go_wp2_with fail
 refine(HN.out _ b2).mono ?_;rintro zz w5 ⟨rfl,bb6⟩;have q7:=q1.l bb6;have b8:=aa b2 bb6;clear q1 b2 bb6 HN
 go_wp2_with fail
 refine(HU.out _).mono ?_;rintro zz w9 ⟨v1x11,rfl,r1x12,bb10⟩;have q13:=q7.l bb10;have b14:=aa b8 bb10;obtain⟨no,nc,hv⟩:=r1x12.shape;subst hv;clear q7 b8 bb10 HU
 go_wp2_with fail
 refine(HB.out _ _ _ r1x12).mono ?_;rintro zz w15 ⟨ao,ac,rfl,bb16⟩;have q17:=q13.l bb16;have r18:=r1x12.l bb16;have b19:=aa b14 bb16;clear q13 r1x12 b14 bb16 HB;obtain⟨W22,hW21,q23,al20⟩:=cA w15 (ydL xs (.slice ao 0 ac) xe) 47;replace hW21:Hid _:=hW21;have hl24:w.heap.size≤w15.heap.size:=b19.size;have hl25:=q17.lt;have q26:=q17.l al20;have r27:=r18.l al20;have b28:=aa b19 al20;clear q17 r18 b19 al20
 go_upto_region 9 with fail
 rw[hW21.out];clear hW21;have c29:=q23.c 1 rfl;have hl32:=q26.lt;have al30:=af W22 (.cells #[yi 1] 3);have q31:=ah W22 [yi 1] 3;have q33:=q26.l al30;have r34:=r27.l al30;have b35:=aa b28 al30;obtain⟨WQ,hWQ⟩: ∃x,W22.alloc (.cells #[yi 1] 3)=x:=⟨_,rfl⟩;rw[hWQ] at q33 b35 q31;replace hWQ:Hid _:=hWQ;have hf:=afz (P:=Tryz.prog) q33 b35 (by omega) underlying31 rfl (by kernel_rfl) (.bool false) yN (.slice (some ⟨W22.heap.size,0,none⟩) 1 1) (yi 0);have HH:Hid (_∧_∧_):=⟨hf.1,hf.2.2.loc q31 (by omega),hf.2.1⟩;obtain⟨⟨z0,z1,z2,z3⟩,y0,y1,y2,y3⟩:=afB q33;clear hf q33 q31 r34 b35
 go_wp2_with (rw[hWQ.out])
 obtain⟨hl,lR2,bR⟩:=HH.out;exact bodyPost_ret (aj results10 rfl rfl hl) rfl ⟨_,rfl,lR2,bR⟩
theorem ratioOf_formE (tx:ByteArray)(w:World)(h4:tx.size≤400)
  (HN: ∀w1,yB w w1→yC 29 #[.string tx] w1 (fun z w'=> ∃ng ds p,z= .returned (.tuple #[.bool ng,.string ds,yi p,.bool false])∧yB w1 w')):
  yC 10 #[.string tx] w (yR w (.tuple #[yrV false yN yN 0,yi 1])):=by
 replace HN:Hid _:=HN;obtain⟨W3,hW4,q1,b2⟩:=cA w (yrL false yN yN 0) 31;replace hW4:Hid _:=hW4
 go_enter func10,ntmps10
 go_upto_region 1 with fail
 rw[hW4.out];clear hW4
 go_wp2_with fail
 refine(HN.out _ b2).mono ?_;rintro zz w5 ⟨ng,ds,p,rfl,bb6⟩;have q7:=q1.l bb6;have b8:=aa b2 bb6;clear q1 b2 bb6 HN;have hf:=afz (P:=Tryz.prog) q7 b8 (by omega) underlying31 rfl (by kernel_rfl) (.bool false) yN yN (yi 0);have HH:Hid (_∧_):=⟨hf.1,hf.2.1⟩;obtain⟨⟨z0,z1,z2,z3⟩,y0,y1,y2,y3⟩:=afB q7;clear hf q7 b8
 go_wp2
 obtain⟨hl,bR⟩:=HH.out;exact bodyPost_ret (aj results10 rfl rfl hl) rfl ⟨rfl,bR⟩
theorem byt_list (x:List UInt8)(i:Nat)(h:i<x.length):byt ⟨x.toArray⟩ i=(x[i]).toNat:=by
 rw[←KD ⟨x.toArray⟩ i (by rw[mk_size];exact h)];rfl
theorem digB_list (x:List UInt8):digB ⟨x.toArray⟩=true↔x≠[]∧ ∀b∈x,isDg b=true:=by
 rw[digB_iff,mk_size]
 constructor
 ·rintro⟨h1,h2⟩
  refine⟨fun e=>h1 (by rw[e];rfl),fun b hb=> ?_⟩
  obtain⟨i,hi,rfl⟩:=List.getElem_of_mem hb;have:=h2 i hi;rw[byt_list x i hi] at this;exact decide_eq_true this
 ·rintro⟨h1,h2⟩
  refine⟨fun e=>h1 (List.length_eq_zero_iff.1 e),fun i hi=> ?_⟩
  rw[byt_list x i hi];exact of_decide_eq_true (h2 _ (List.getElem_mem hi))
theorem pv_list (x:List UInt8): ∀k,k≤x.length→pv ⟨x.toArray⟩ k=lvD (x.take k):=by
 intro k
 induction k with
 |zero=>intro _;rfl
 |succ k ih=>
  intro h;have e:x.take (k+1)=x.take k++[x[k]]:=by rw[List.take_succ_eq_append_getElem (by omega)]
  rw[e,lvD_snoc,←ih (by omega)]
  show pv _ k*10+(byt _ k-48)=_
  rw[byt_list x k (by omega)]
theorem pv_all (x:List UInt8):pv ⟨x.toArray⟩ x.length=lvD x:=by
 rw[pv_list x _ (Nat.le_refl _),List.take_length]
theorem dash_list (x:List UInt8):dash ⟨x.toArray⟩=decide (x.head? =some 45)∧(undash ⟨x.toArray⟩).data.toList=if decide (x.head? =some 45)=true then x.tail else x:=by
 have e1:dash ⟨x.toArray⟩=Lib.hasPrefix x [45]:=rfl;have e2:(undash ⟨x.toArray⟩).data.toList=Lib.trimPrefix x [45]:=rfl;rw[e1,e2]
 cases x with
 |nil=>exact⟨rfl,rfl⟩
 |cons b r=>
  have hp:Lib.hasPrefix (b::r) [45]=decide ((b::r).head? =some 45):=by
   rw[List.head?_cons]
   by_cases hb:b=45
   ·subst hb
    rfl
   ·rw[decide_eq_false (fun h=>hb (by injection h))]
    show([45].isPrefixOf (b::r))=false
    simp only[List.isPrefixOf];rw[show((45:UInt8)==b)=false from beq_eq_false_iff_ne.2 fun e=>hb e.symm]
    rfl
  refine⟨hp, ?_⟩;unfold Lib.trimPrefix;rw[hp]
  split
  ·rfl
  ·rfl
theorem mk_list (s:ByteArray):(⟨s.data.toList.toArray⟩:ByteArray)=s:=by
 apply ByteArray.ext;exact Array.toArray_toList
theorem rp_list (y:List UInt8):rpV ⟨y.toArray⟩=match rpL y with|some p=>(p,true)|none=>(0,false):=by
 obtain⟨d1,d2⟩:=dash_list y;obtain⟨m,hm⟩: ∃m,decide (y.head? =some 45)=m:=⟨_,rfl⟩;rw[hm] at d1 d2;obtain⟨x,hx⟩: ∃x,(if m=true then y.tail else y)=x:=⟨_,rfl⟩
 rw[hx] at d2;have hu:undash ⟨y.toArray⟩=⟨x.toArray⟩:=by rw[←d2,mk_list]
 unfold rpV rpL;simp only;rw[hm,hx,hu,d1,mk_size,pv_all]
 by_cases h:x.length≤5∧x≠[]∧(∀b∈x,isDg b=true)
 ·rw[if_pos h,if_pos ⟨h.1,(digB_list x).2 h.2⟩]
 ·rw[if_neg h,if_neg (fun c=>h ⟨c.1,(digB_list x).1 c.2⟩)]
theorem nm_list (t:ByteArray)(ht:t.size≤400):
  nmV t=match nmL (undash t).data.toList with
   |none=>(nmZ,1)
   |some (d,p)=>if p< -6000∨6000<p then(nmZ,3) else((dash t,⟨d.toArray⟩,p),0):=by
 obtain⟨l,hl⟩: ∃l,(undash t).data.toList=l:=⟨_,rfl⟩;have hC:nmC t=(⟨(cutc 101 l).1.toArray⟩,⟨(cutc 101 l).2.1.toArray⟩,(cutc 101 l).2.2):=by
  unfold nmC cutS;rw[hl,cut_is]
 have hD:nmD t=(⟨(cutc 46 (cutc 101 l).1).1.toArray⟩,⟨(cutc 46 (cutc 101 l).1).2.1.toArray⟩,(cutc 46 (cutc 101 l).1).2.2):=by
  unfold nmD cutS;rw[hC];simp only;rw[cut_is]
 have hP:nmP t=if(cutc 101 l).2.2=true then rpV ⟨(cutc 101 l).2.1.toArray⟩ else(0,true):=by
  unfold nmP;rw[hC]
 rw[hl];unfold nmV nmQ;rw[if_neg (by omega),hP,hD,rp_list];unfold nmL;simp only;generalize cutc 101 l=c;generalize cutc 46 c.1=d;obtain⟨c1,c2,c3⟩:=c;obtain⟨d1,d2,d3⟩:=d;simp only;have hcat:(⟨d1.toArray⟩:ByteArray)++⟨d2.toArray⟩=⟨(d1++d2).toArray⟩:=by
  apply ByteArray.ext;rw[ByteArray.data_append];simp
 rw[hcat,mk_size];have hdg:=digB_list (d1++d2);have hz:d2.length=0↔d2=[]:=List.length_eq_zero_iff
 by_cases hbad:d1++d2=[]∨ ¬(∀b∈d1++d2,isDg b=true)∨(d3=true∧d2=[])
 ·rw[if_pos hbad,if_pos]
  rcases hbad with h|h|h
  ·refine .inr (.inl ?_)
   cases hb:digB ⟨(d1++d2).toArray⟩
   ·rfl
   ·exact absurd h (hdg.1 hb).1
  ·refine .inr (.inl ?_)
   cases hb:digB ⟨(d1++d2).toArray⟩
   ·rfl
   ·exact absurd (hdg.1 hb).2 h
  ·exact .inr (.inr ⟨h.1,hz.2 h.2⟩)
 ·have g:digB ⟨(d1++d2).toArray⟩=true:=hdg.2 ⟨fun e=>hbad (.inl e),Classical.byContradiction fun e=>hbad (.inr (.inl e))⟩
  have g3: ¬(d3=true∧d2.length=0):=fun e=>hbad (.inr (.inr ⟨e.1,hz.1 e.2⟩))
  rw[if_neg hbad]
  cases c3 with
  |false=>
   simp only[Bool.false_eq_true,if_false];rw[if_neg (fun h=>by
    rcases h with h|h|h
    ·cases h
    ·rw[g] at h;cases h
    ·exact g3 h),Int.zero_sub]
  |true=>
   rw[if_pos rfl,if_pos rfl]
   cases rpL c2 with
   |none=>
    simp only[Option.map_none];rw[if_pos (.inl trivial)]
   |some q=>
    simp only[Option.map_some];rw[if_neg (fun h=>by
     rcases h with h|h|h
     ·cases h
     ·rw[g] at h;cases h
     ·exact g3 h)]
theorem tI (s:ByteArray)(w:World)(hs:s.size≤12000)(hd: ∀i,i<s.size→48≤byt s i∧byt s i≤57):
  yC 33 #[.string s] w (cG w (pv s s.size)):=by
 have HD:Hid _:=hd;clear hd
 go_enter func33,ntmps33
 go_wp2
 go_loopw [3,4] (fun av iv wr=> ∃k:Nat,k≤s.size∧iv=yi k∧Rd wr .i64 av (Dg.dg 65536 (pv s k))∧yB w wr) (fun _ iv _=>s.size-(intOf iv).toNat)
 case atStart=>exact⟨0,Nat.zero_le _,rfl,(aQ _ 0 0 _).rd,Below.refl _ _⟩
 case round=>
  obtain⟨k,hk,rfl,hr,bel⟩:=hrel;obtain⟨ao,ca,rfl⟩:=hr.shape
  by_cases hlt:k<s.size
  ·have hix:=li s k hlt
   have hdg:=HD.out k hlt;have hln:(Dg.dg 65536 (pv s k)).length≤12000:=by
    refine Nat.le_trans (Dg.dg_len_le 65536 _ k (by omega) ?_) (by omega);exact Nat.lt_of_lt_of_le (Tb s HD.out k hk) (Nat.pow_le_pow_left (by omega) k)
   have hln2:(Dg.dg 65536 (pv s k*10)).length≤20000:=by
    refine Nat.le_trans (Dg.dg_len_le 65536 _ (k+1) (by omega) ?_) (by omega);have h1:=Tb s HD.out k hk;have h2:10^k≤65536^k:=Nat.pow_le_pow_left (by omega) k;rw[Nat.pow_succ];omega
   have hpv:pv s (k+1)=pv s k*10+(byt s k-48):=rfl;obtain⟨y,hy⟩: ∃y,byt s k=y:=⟨_,rfl⟩;rw[hy] at hix hdg hpv;have HPV:Hid (pv s (k+1)=pv s k*10+(y-48)):=hpv;obtain⟨dd,hdd⟩: ∃dd,y-48=dd:=⟨_,rfl⟩;have h1:=hdg.1;have h2:=hdg.2;have hyI:(y:Int)-48=(dd:Int):=by omega
   have hdl:dd<10:=by omega
   rw[hdd] at HPV;have e1:IntKind.i64.wrap (y:Int)=(y:Int):=IntWalk.i64_in _ ⟨by omega,by omega⟩;have e2:IntKind.i64.wrap (dd:Int)=(dd:Int):=IntWalk.i64_in _ ⟨by omega,by omega⟩;clear hy hdd hpv hdg;have a1:yB wr (wr.alloc (.cells #[yi 10] 3)).drew:=((Below.refl _ _).alloc (Nat.le_refl _) _).drew;have r10:Rd (wr.alloc (.cells #[yi 10] 3)).drew .i64 (.slice (some ⟨wr.heap.size,0,none⟩) 1 1) [10]:=(cE (w:=wr) (k:= .i64) (e:=3) [10] #[yi 10] rfl (by unfold maxLen;simp)).l (Below.drew (Below.refl _ _));have hti:=fN _ _ _ _ _ (hr.l a1) r10 (Dg.small_dg _ _ (by omega)) (Dg.small_cons.2 ⟨by omega,Dg.small_nil _ (by omega)⟩) (by omega) (by simp);rw[Dg.vl_dg _ _ (by omega),show Dg.vl 65536 [10]=10 from by decide] at hti
   have hpl: ∀v1 v2 wx,Rd wx .i64 v1 (Dg.dg 65536 (pv s k*10))→Rd wx .i64 v2 (Dg.dg 65536 dd)→yC 53 #[v1,v2] wx (cG wx (pv s (k+1))):=fun v1 v2 wx q1 q2=>by
    have:=ew v1 v2 _ _ wx q1 q2 (Dg.small_dg _ _ (by omega)) (Dg.small_dg _ _ (by omega)) (Dg.norm_dg _ _ (by omega)) (Dg.norm_dg _ _ (by omega)) (by omega) (Nat.le_trans (aH 65536 dd 10 (by omega) (by omega)) (by rw[Cv 10 (by omega)];simp))
    rwa [Dg.vl_dg _ _ (by omega),Dg.vl_dg _ _ (by omega),←HPV.out] at this
   have HPL:Hid _:=hpl;have bela:=aa bel a1;clear hpl r10
   go_wp2
   go_region_with (first| (go_at_call 34;refine hti.mono ?_;rintro e w1 ⟨v1,rfl,r1,b1⟩)| (go_at_call 77;refine(Bj dd _ (by omega)).mono ?_;rintro e w2 ⟨v2,rfl,r2,b2⟩)| (go_at_call 53;refine(HPL.out v1 v2 _ (r1.l b2) r2).mono ?_;rintro e w3 ⟨v3,rfl,r3,b3⟩))
   all_goals go_wp2
   all_goals go_roundw
   all_goals first
    |exact⟨k+1,by omega,by go_num,r3,aa (aa (aa bela b1) b2) b3⟩
    | (simp[intOf];omega)
  ·have hke:k=s.size:=by omega
   subst hke
   go_wp2
   go_ret
   exact⟨_,rfl,hr,bel⟩
theorem rqS_rest: ∀k n d,(n % 5≠0∨1<d)→rqS k (n,d)=(n,d*5^k):=by
 intro k
 induction k with
 |zero=>intro n d _;rw[Nat.pow_zero,Nat.mul_one];rfl
 |succ k ih=>
  intro n d h
  show rqS k (if n % 5=0∧d=1 then _ else _)=_
  rw[if_neg (by omega),ih n (d*5) (by omega),Nat.pow_succ,Nat.mul_assoc,Nat.mul_comm 5]
theorem rqS_red: ∀k n,rqS k (n,1)=((redF n k).1,5^ (redF n k).2):=by
 intro k
 induction k with
 |zero=>intro n;rfl
 |succ k ih=>
  intro n
  show rqS k (if n % 5=0∧1=1 then _ else _)=_
  unfold redF
  by_cases h:n % 5=0
  ·rw[if_pos ⟨h,rfl⟩,if_pos h,ih]
  ·rw[if_neg (fun c=>h c.1),if_neg h,rqS_rest k n (1*5) (.inl h),Nat.pow_succ,Nat.one_mul,Nat.mul_comm 5]
theorem five_two (n:Nat): ∀t,(n*2^t) % 5=0↔n % 5=0:=by
 intro t
 induction t with
 |zero=>rw[Nat.pow_zero,Nat.mul_one]
 |succ t ih=>
  rw[Nat.pow_succ,←Nat.mul_assoc,←ih];generalize n*2^t=m;omega
theorem redF_two: ∀k n t,redF (n*2^t) k=((redF n k).1*2^t,(redF n k).2):=by
 intro k
 induction k with
 |zero=>intro n t;rfl
 |succ k ih=>
  intro n t;unfold redF
  by_cases h:n % 5=0
  ·rw[if_pos ((five_two n t).2 h),if_pos h,←ih]
   congr 1
   obtain⟨q,rfl⟩: ∃q,n=5*q:=⟨n/5,by omega⟩;rw[Nat.mul_assoc,Nat.mul_div_cancel_left _ (by omega),Nat.mul_div_cancel_left _ (by omega)]
  ·rw[if_neg (fun c=>h ((five_two n t).1 c)),if_neg h]
theorem redF_odd: ∀k n,n % 2=1→(redF n k).1 % 2=1:=by
 intro k
 induction k with
 |zero=>intro n h;exact h
 |succ k ih=>
  intro n h;unfold redF
  split
  ·exact ih _ (by omega)
  ·exact h
theorem five_odd (n:Nat)(h:n % 2=1): ∀k,(n*5^k) % 2=1:=by
 intro k
 induction k with
 |zero=>rw[Nat.pow_zero,Nat.mul_one];exact h
 |succ k ih=>
  rw[Nat.pow_succ,←Nat.mul_assoc];generalize n*5^k=m at*;omega
theorem odd_two {m t:Nat}(h:m % 2=1):tz (m*2^t)=t∧m*2^t/2^tz (m*2^t)=m:=by
 have e:tz (m*2^t)=t:=F8 (m:=m/2) (by rw[Nat.mul_comm];congr 1;omega);refine⟨e, ?_⟩;rw[e,Nat.mul_div_cancel _ (Nat.pow_pos (by omega))]
theorem odd_of {N:Nat}(h:N≠0):N/2^tz N % 2=1∧N=N/2^tz N*2^tz N:=by
 obtain⟨m,hm⟩:=fO h;have hp:0<2^tz N:=Nat.pow_pos (by omega);have e:N/2^tz N=2*m+1:=by
  conv=>lhs;lhs;rw[hm]
  exact Nat.mul_div_cancel_left _ hp
 rw[e];exact⟨by omega,by rw[Nat.mul_comm];exact hm⟩
theorem nr_rq {N:Nat}(h:N≠0)(p:Int):
  (rqS (-p).toNat (N/2^tz N*5^p.toNat,1)).1=(nrM N p).1/2^tz (nrM N p).1∧(rqS (-p).toNat (N/2^tz N*5^p.toNat,1)).2=(nrM N p).2∧tz (nrM N p).1=tz N:=by
 obtain⟨h1,h2⟩:=odd_of h;obtain⟨t,ht⟩: ∃t,tz N=t:=⟨_,rfl⟩;rw[ht] at h1 h2⊢;generalize N/2^t=n at*;subst h2;unfold nrM
 by_cases hp:0<p
 ·rw[if_pos hp,show(-p).toNat=0 by omega]
  have e:n*2^t*5^p.toNat=n*5^p.toNat*2^t:=Nat.mul_right_comm ..;obtain⟨k1,k2⟩:=odd_two (t:=t) (five_odd n h1 p.toNat)
  show _=n*2^t*5^p.toNat/_∧_
  rw[e];exact⟨k2.symm,rfl,k1⟩
 ·rw[if_neg hp,show p.toNat=0 by omega,Nat.pow_zero,Nat.mul_one,rqS_red,redF_two]
  obtain⟨k1,k2⟩:=odd_two (t:=t) (redF_odd (-p).toNat n h1);exact⟨k2.symm,rfl,k1⟩
theorem refRatio_any (t:ByteArray)(w:World):
  (raE t≠0→yC 10 #[.string t] w (yR w (.tuple #[yrV false yN yN 0,yi (raE t)])))∧
  (raE t=0→yC 10 #[.string t] w (RqE w (raV t).1 (raV t).2.1 (raV t).2.2.1 (raV t).2.2.2 0)):=by
 by_cases h4:400<t.size
 ·have e:raE t=2:=by
   unfold raE nmV;rw[if_pos h4]
  exact⟨fun _=>by rw[e];exact ratioOf_many t w h4,fun h=>absurd (e.symm.trans h) (by decide)⟩
 have h4':t.size≤400:=by omega
 have hnm:=nm_list t h4';have HN:=fun w1=>numeral_any t w1 h4'
 have hnn:=nu_nm (undash t).data.toList
 cases hl:nmL (undash t).data.toList with
 |none=>
  rw[hl] at hnm hnn;have e:raE t=1:=by
   unfold raE;rw[hnm]
  refine⟨fun _=> ?_,fun h=>absurd (e.symm.trans h) (by decide)⟩
  rw[e];refine ratioOf_formE t w h4' (fun w1 _=>(HN w1).mono fun z w' hz=> ?_)
  obtain⟨rfl,g,d,p,ok,hz2,hk⟩:=hz
  rcases hk with⟨-,rfl⟩| ⟨D,P,hD,-⟩
  ·exact⟨g,d,p,hz2,Below.refl _ _⟩
  ·rw[hnn] at hD
   cases hD
 |some dp=>
  obtain⟨D,P⟩:=dp;rw[hl] at hnm hnn;have HN2:yH w 29 #[.string t] (.tuple #[.bool (dash t),.string ⟨D.toArray⟩,yi P,.bool true]):=fun w1 _=>(HN w1).mono fun z w' hz=>by
   obtain⟨rfl,g,d,p,ok,hz2,hk⟩:=hz
   rcases hk with⟨hD,-⟩| ⟨D2,P2,hD,rfl,rfl,rfl,rfl⟩
   ·rw[hnn] at hD
    cases hD
   ·rw[hnn] at hD
    cases hD
    exact⟨hz2,Below.refl _ _⟩
  simp only at hnm
  by_cases hlo:P< -6000
  ·rw[if_pos (.inl hlo)] at hnm
   have e:raE t=3:=by
    unfold raE;rw[hnm]
   exact⟨fun _=>by rw[e];exact ratioOf_low _ _ t P w h4' hlo HN2,fun h=>absurd (e.symm.trans h) (by decide)⟩
  by_cases hhi:6000<P
  ·rw[if_pos (.inr hhi)] at hnm
   have e:raE t=3:=by
    unfold raE;rw[hnm]
   exact⟨fun _=>by rw[e];exact ratioOf_high _ _ t P w h4' hlo hhi HN2,fun h=>absurd (e.symm.trans h) (by decide)⟩
  rw[if_neg (fun c=>c.elim hlo hhi)] at hnm
  have e:raE t=0:=by
   unfold raE;rw[hnm]
  obtain⟨z1,z2,-,-⟩:=nmV_zero e;rw[hnm] at z1 z2;simp only at z1 z2;have hdig:=((digB_iff _).1 z2).2;refine⟨fun h=>absurd e h,fun _=> ?_⟩
  have HU:=fun w1=>tI ⟨D.toArray⟩ w1 (by omega) hdig
  have hv:raV t=nrV (dash t,⟨D.toArray⟩,P):=by
   unfold raV;rw[hnm]
  rw[hv];obtain⟨N,hN⟩: ∃N,pv ⟨D.toArray⟩ (⟨D.toArray⟩:ByteArray).size=N:=⟨_,rfl⟩;obtain⟨a,ha⟩: ∃a,a=1600:=⟨_,rfl⟩;have hNa:N<2^a:=by
   rw[←hN];exact Nat.lt_of_lt_of_le (Tb _ hdig _ (Nat.le_refl _)) (Nat.le_trans (pow10_two _) (Nat.pow_le_pow_right (by omega) (by omega)))
  have hNl:(Dg.dg 65536 N).length≤110:=UI (k:=a) (Nat.le_of_lt hNa) (by omega);unfold nrV;simp only;rw[hN] at HU⊢;have HB: ∀no nc w1,Rd w1 .i64 (yS no N nc) (Dg.dg 65536 N)→yC 32 #[ydV (dash t) (yS no N nc) 0] w1 (dr w1 (bare ⟨dash t,N,0⟩)):=fun no nc w1 hr=>iJ _ ⟨dash t,N,0⟩ w1 ⟨_,rfl,hr⟩ (by show(Dg.dg 65536 N).length≤100000;omega) (by show-1000000≤(0:Int);omega) (by show(0:Int)≤1000000;omega)
  by_cases h0:N=0
  ·subst h0
   rw[if_pos rfl];refine(ratioOf_zero 0 0 (dash t) false ⟨D.toArray⟩ t P w h4' hlo hhi HN2 HU (fun no nc w1 hr=>(HB no nc w1 hr).mono fun z w' hz=> ?_)).mono fun z w' hz=> ?_
   ·obtain⟨s,e1,r,b⟩:=hz
    obtain⟨ao,ac,rfl⟩:=r.shape;exact⟨ao,ac,e1,b⟩
   ·obtain⟨q,e1,l,b⟩:=hz
    refine⟨_,_,e1, ?_, ?_,b⟩
    ·rw[show Dg.dg 65536 0=[] from rfl]
     exact aN _ _
    ·rw[show Dg.dg 65536 1=[1] by decide]
     exact rd_one16 (l.c 0 rfl)
  ·rw[if_neg h0]
   obtain⟨x,hx⟩: ∃x,bare ⟨dash t,N,0⟩=x:=⟨_,rfl⟩;have hx2:=hx;unfold bare at hx2;rw[if_neg h0] at hx2;have xn:x.n=N/2^tz N:=by rw[←hx2]
   have xe:x.e=(tz N:Int):=by rw[←hx2];exact Int.zero_add _
   rw[hx] at HB;obtain⟨q1,q2,q3⟩:=nr_rq h0 P;rw[←xn] at q1 q2;have htz:=tz_bits h0 hNa;have hxl: ¬(Dg.dg 65536 x.n).length=0:=fun c=>by
    have:=(Dg.dg_nil_iff 65536 _ (by omega)).1 (List.length_eq_zero_iff.1 c);have ho:=(odd_of h0).1;rw[←xn,this] at ho
    cases ho
   have hxN:x.n≤N:=by rw[xn];exact Nat.div_le_self _ _
   obtain⟨c,hc⟩: ∃c,c=18000:=⟨_,rfl⟩;have h5: ∀k:Nat,k≤6000→5^k≤2^c:=fun k hk=>Nat.le_trans (pow5_two k) (Nat.pow_le_pow_right (by omega) (by omega))
   obtain⟨B,hB⟩: ∃B,x.n*5^P.toNat+5^ (-P).toNat=B:=⟨_,rfl⟩;obtain⟨A,hA⟩: ∃A,A=20000:=⟨_,rfl⟩;have hBA:B<2^A:=by
    have k1:x.n*5^P.toNat≤2^a*2^c:=Nat.mul_le_mul (Nat.le_of_lt (Nat.lt_of_le_of_lt hxN hNa)) (h5 _ (by omega));have k2:=h5 (-P).toNat (by omega);rw[←Nat.pow_add] at k1;have k3:2^ (a+c)<2^ (A-1):=Nat.pow_lt_pow_right (by omega) (by omega);have k4:2^c<2^ (A-1):=Nat.pow_lt_pow_right (by omega) (by omega);have k5:2^A=2^ (A-1)+2^ (A-1):=by
     conv=>lhs;rw[show A=A-1+1 by omega,Nat.pow_succ,Nat.mul_two]
    omega
   have hBl: ∀m,m≤B→(Dg.dg 65536 m).length≤1260:=fun m hm=>UI (k:=A) (Nat.le_of_lt (Nat.lt_of_le_of_lt hm hBA)) (by omega)
   have hew:IntKind.i64.wrap (x.e+P)=x.e+P:=IntWalk.i64_in _ ⟨by omega,by omega⟩;have:=refRatioOf_W N B x (dash t) ⟨D.toArray⟩ t P (x.e+P) w h4' hlo hhi hew hxl (hB▸Nat.le_add_right _ _) (hB▸Nat.le_add_left _ _) _ rfl HN2 HU HB
    (fun m v q w1 hm hr hq=>by
     have:=fN v _ _ _ w1 hr (rd_five hq) (Dg.small_dg _ _ (by omega)) (Dg.small_dg _ _ (by omega)) (by have:=hBl m hm;omega) (by rw[show Dg.dg 65536 5=[5] by decide];simp)
     rwa [Dg.vl_dg _ _ (by omega),Dg.vl_dg _ _ (by omega)] at this)
    (fun m v q w1 hm hr hq=>qM v _ m 5 w1 hr (rd_five hq) (by have:=hBl m hm;omega) (by rw[show Dg.dg 65536 5=[5] by decide];simp) (by omega))
   rw[q1,q2,show x.e+P=P+(tz (nrM N P).1:Int) by rw[q3,xe];omega] at this
   exact this
end Go.Proofs.YtpgijbdgljkeeaaGreatDoor
