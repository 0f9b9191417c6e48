/-
  Texts laid together: Dz, Div1, DivBy, Shift, Dy2, Lk, Read2, Take, Long0, Long1, Co6, Co9, Co12, Gr1, Gm1, Dy6, Gm2, Gr6, Gh2, Ce4, Eb1, Rk1, Ty4, Ty9.
-/
import Derived.Test.YtlgkfdcmokchgaaGreatDoorUt02
import Derived.Test.YtlgkfdcmokchgaaGreatDoorUt03
import Derived.Test.YtlgkfdcmokchgaaGreatDoorUt05
set_option maxRecDepth 100000
set_option maxHeartbeats 3200000
namespace Go.Proofs.YtlgkfdcmokchgaaGreatDoor
open _root_.Go.Proofs.Tryz
open Go.RowKit
def V (K:Nat)(a:ak):Int:=sz a.s a.n*((2^ (a.e+K).toNat:Nat):Int)
theorem Y5 (s:Bool)(n k:Nat):sz s n*(k:Int)=sz s (n*k):=by
 unfold sz
 cases s<;>simp[Int.neg_mul]
theorem QI {s t:Bool}{n m:Nat}(h:sz s n=sz t m)(hn:n≠0):s=t∧n=m:=by
 unfold sz at h
 cases s<;>cases t<;>simp at h<;>first|exact⟨rfl,by omega⟩| (exfalso;omega)
theorem eV (K:Nat)(a:ak):V K a=sz a.s (a.n*2^ (a.e+K).toNat):=Y5 _ _ _
theorem Nw {P:Program}{w:World}{base e:Nat}{k:IntKind}{g n m cap:Nat}{ao:Option Addr}{ds zs:List Nat}(dT sT ty:Nat)(hu:P.underlying dT=some (.slice e))(hsz:(P.info? e).map (·.size)=some 1)
  (ho:Own w base e k (.slice (some ⟨g,0,none⟩) n n) ds) (hr:Rd w k (.slice ao m cap) zs) (hle:zs.length≤ds.length):
  ∃w1,(Builtin.copy_ #[dT,sT] ty #[.slice (some ⟨g,0,none⟩) n n,.slice ao m cap]).run P w= .ok (yi m) w1∧Own w1 base e k (.slice (some ⟨g,0,none⟩) n n) (zs++ds.drop zs.length)∧w.grownBy w1 (some g):=by
 have hn:=ho.len;have hm:=wn hr;subst hn hm;have hh:=ho.heap;have hbl:=ho.block;have hml:ds.length≤maxLen:=by
  rcases ho.2 with⟨hv,_⟩| ⟨g',cap',cur,hv,hb,hh,hnc,hcm,hcs,htake⟩
  ·simp at hv
  ·omega
 by_cases h0:zs.length=0
 ·obtain rfl:zs=[]:=List.eq_nil_of_length_eq_zero h0
  refine⟨w,run_copy_none (P:=P) w dT sT ty e _ _ _ _ _ _ hu hsz (by simp),by simpa using ho,⟨rfl,rfl,rfl,Nat.le_refl _,fun _ _ _=>rfl⟩⟩
 ·obtain⟨-,-,hc⟩:=iQ hr
  obtain⟨b,off,rfl,hcell⟩:=hc (by omega);have hrun:=run_copy_row (P:=P) w dT sT ty e g 0 ds.length ds.length ⟨b,off,none⟩ zs.length cap _ e (zs.map (fun n:Nat=>Value.int k n)) hu hsz hh (by rw[List.length_map];exact(Nat.min_eq_left hle).symm)
   (by
    intro j u hj;have hjl:j<zs.length:=by have:=(List.getElem?_eq_some_iff.1 hj).1;simpa using this
    rw[j9 k zs j hjl] at hj;rw[rO,hcell j hjl];exact hj)
   (by simpa using hle) (by intro u hu;simp at hu;obtain⟨a,_,rfl⟩:=hu;rfl)
  refine⟨w.setRow g (zs.map (fun n:Nat=>Value.int k n)++(ds.map (fun n:Nat=>Value.int k n)).drop zs.length).toArray,by rw[hrun];simp[goInt], ?_,⟨rfl,rfl,rfl,by simp[World.setRow],fun j _ hj=>setRow_other w g j _ (fun e=>hj (by rw[e]))⟩⟩
  have hlen:(zs++ds.drop zs.length).length=ds.length:=by simp;omega
  have:=pr (w:=w.setRow g (zs.map (fun n:Nat=>Value.int k n)++(ds.map (fun n:Nat=>Value.int k n)).drop zs.length).toArray) (base:=base) (e:=e) (k:=k) (g:=g) (zs:=zs++ds.drop zs.length)
   (by rw[Nv w g _ _ e hh];simp[List.map_drop]) hbl.1 (by omega)
  rw[hlen] at this
  simpa using this
theorem Tx {zs cur:List Nat}{d k r t:Nat}(h:acQ zs cur d (k+1) r)(hk:k<zs.length)(ht:t=r*4294967296+zs.getD k 0)(hd:0<d)(hq:t/d<4294967296):
  acQ zs (cur.set k (t/d)) d k (t % d):=by
 obtain⟨h1,h2,h3,h4,h5⟩:=h;refine⟨by simpa using h1,Dg.small_set h2 _ _ hq,Nat.mod_lt _ hd,fun j hj=> ?_, ?_⟩
 ·rw[Dg.getD_set _ _ _ _ (by omega),if_neg (by omega)];exact h4 j (by omega)
 ·rw[AU zs k hk,AU (cur.set k (t/d)) k (by simpa using(by omega:k<cur.length)),Dg.getD_set _ _ _ _ (by omega),if_pos rfl,List.drop_set_of_lt (by omega)]
  simp only[Dg.vl];rw[h5];have:=Nat.div_add_mod t d;rw[Nat.add_mul,Nat.mul_comm (t/d) d,Nat.mul_assoc,Nat.mul_add];have e:r*4294967296=4294967296*r:=Nat.mul_comm _ _;omega
theorem vO (va:Value)(xs:List Nat)(n wh pt P:Nat)(w:World)(ha:Rd w .u32 va xs)(sa:Dg.Small 4294967296 xs)(hla:xs.length≤1000000)(hn:n=32*wh+pt)(hpt:pt<32)(hP:P=2^pt)(hnl:n≤1000000)(hne:xs≠[]):
  yC 135 #[va,yi n] w (Num w (Dg.vl 4294967296 xs*2^n)):=by
 obtain⟨ao,ca,rfl,-,-,hca⟩:=ha;obtain⟨i0,hi,hz0,hz1,hz2⟩:=info_parts Tryz.infoU32;have hl0:0<xs.length:=List.length_pos_iff.2 hne;have h00:((xs.length:Int)==0)=false:=by simp;exact hne
 have hq:(n:Int)/32=(wh:Int):=by omega
 have hr:(n:Int) % 32=(pt:Int):=by omega
 have HN:Hid _:=hn;have HP:Hid _:=hP;clear hn hP
 go_enter func135,ntmps135
 go_wp2_with (at_make;refine wpList_make_full _ rfl _ _ 57 rfl w.heap.size 54 i0 (.int .u32 0) 1 underlying57 hi hz0 hz1 _ _ _ _ (xs.length+wh+1) rfl rfl (by omega) (by omega) ?b2 ?b3 (Nat.le_refl _) ?_)
 case b2=>rw[hz2];have:=HN.out;omega
 case b3=>unfold maxLen;have:=HN.out;omega
 intro w0 hown0 hgrow0;have own0:=gL hown0;have bel0:yB w w0:=(Below.refl _ _).grown hgrow0 (Nat.le_refl _) (fun k h=>by cases h)
 have hwl:wh≤1000000:=by have:=HN.out;omega
 clear hown0 hgrow0
 go_wp2
 go_loopw [25] (fun kv wr=> ∃(k:Nat) (ups:List Nat),k≤xs.length∧kv=yi k∧Own wr w.heap.size 54 .u32 (.slice (some ⟨w.heap.size,0,none⟩) (xs.length+wh+1) (xs.length+wh+1)) ups∧KM xs ups wh P k∧yB w wr) (fun kv _=>xs.length-(intOf kv).toNat)
 case atStart=>exact⟨0,_,Nat.zero_le _,rfl,own0,Nz xs wh P (by rw[HP.out];exact Nat.pow_pos (by omega)),bel0⟩
 case round=>
  clear own0 bel0;obtain⟨k,ups,hk,rfl,own,hI,bel⟩:=hrel;have hul:=hI.1
  by_cases hlt:k<xs.length
  ·obtain⟨b,off,rfl,hcell⟩:=hca (by omega)
   have hx:=cell_later bel (hcell k hlt);have hxl:=sa k;have hu:=own.c (wh+k) (by omega);have hf:=own.f (wh+k);have hf2:=own.f (wh+k+1);have hu2:=own.c (wh+k+1) (by omega);have huP:=hI.2.2.2.1;obtain⟨x,ex⟩: ∃x,xs.getD k 0=x:=⟨_,rfl⟩;rw[ex] at hx hxl;obtain⟨u,eu⟩: ∃u,ups.getD (wh+k) 0=u:=⟨_,rfl⟩;rw[eu] at hu huP;have Hul:Hid _:=hul;have HX:Hid _:=ex;have HU:Hid _:=eu;clear ex eu hcell hca hul
   go_wp2
   go_region
   all_goals go_wp2
   all_goals go_roundw
   case rel=>
    have e1:=Y7 u x pt hpt (by rw[←HP.out];exact huP);have e2:=Vg x pt hpt;rw[e1,e2,←HP.out];have hst:=QJ hI hlt HX.out hxl ⟨2^ (32-pt),by rw[HP.out,←Nat.pow_add,show pt+(32-pt)=32 from by omega]⟩ (by omega)
    rw[HU.out] at hst;exact⟨k+1,_,by omega,by go_num,Own.l ((own.store (wh+k) _).store (wh+k+1) _) (Below.drew (Below.refl _ _)),hst,((bel.setCell (by exact Nat.le_refl _) _).setCell (by exact Nat.le_refl _) _).drew⟩
   case measure=>simp[intOf];omega
  ·have hke:k=xs.length:=by omega
   subst hke;have hps:=hI.2.1;have hv:=hI.2.2.2.2;rw[List.take_of_length_le (Nat.le_refl _)] at hv;have hv2:Dg.vl 4294967296 ups=Dg.vl 4294967296 xs*2^n:=by
    rw[hv,HP.out,HN.out,Nat.pow_add,Nat.pow_mul,Nat.mul_left_comm]
   have HV:Hid _:=hv2;clear hul hv hv2
   go_wp2_with fail
   refine(jD _ _ _ ups _ own.rd).mono ?_;rintro e w' ⟨m,rfl,hm,rfl⟩;have ht:=jW 4294967296 (by omega) own hps hm;rw[HV.out] at ht;clear hm
   go_wp2
   go_ret
   exact⟨_,rfl,ht,bel⟩
theorem Y8 (P Q:Nat)(hP:0<P)(l:List Nat):Dg.vl (P*Q) (low P Q l)=Dg.vl (P*Q) l/P:=by
 induction l with
 |nil=>simp[low,Dg.vl]
 |cons y l ih=>
  simp only[low,Dg.vl,ih];rw[Vh P Q l];have e1:(y+P*Q*Dg.vl (P*Q) l)/P=y/P+Q*Dg.vl (P*Q) l:=by
   rw[Nat.mul_assoc,Nat.add_mul_div_left _ _ hP]
  rw[e1];generalize Dg.vl (P*Q) l=V;have e2:V % P*Q+P*Q*(V/P)=Q*V:=by
   have:=Nat.mod_add_div V P
   calc V % P*Q+P*Q*(V/P)=Q*(V % P+P*(V/P)):=by rw[Nat.mul_add,Nat.mul_comm (V % P),Nat.mul_comm P Q,Nat.mul_assoc]
    _=Q*V:=by rw[this]
  omega
theorem abL {xs ds:List Nat}{wh P Q:Nat}(h:abK xs ds wh P Q (xs.length-wh))(hw:wh≤xs.length)(hPQ:P*Q=4294967296)(sa:Dg.Small 4294967296 xs):
  Dg.Small 4294967296 ds∧Dg.vl 4294967296 ds=Dg.vl 4294967296 xs/(4294967296^wh*P):=by
 have hP:0<P:=by
  rcases Nat.eq_zero_or_pos P with e|e
  ·subst e;simp at hPQ
  ·exact e
 have he:ds=low P Q (xs.drop wh):=by
  apply Dg.eq_of_all
  ·rw[mA,h.1];simp
  ·intro j
   rw[h.2 j]
   by_cases hj:j<xs.length-wh
   ·rw[if_pos hj,Gb P Q _ j (by simpa using hj),ui,ui,Nat.add_assoc]
   ·rw[if_neg hj,Dg.getD_of_le _ _ (by rw[mA];simp;omega)]
 refine⟨fun j=> ?_, ?_⟩
 ·rw[h.2 j]
  split
  ·exact(I7 hPQ (sa _)).2
  ·omega
 ·rw[he,←hPQ,Y8 P Q hP,hPQ,←Nat.div_div_eq_div_mul]
  congr 1
  have hsp:=Dg.vl_take_drop 4294967296 xs wh hw;have hlt:=Dg.vl_lt 4294967296 (xs.take wh) (Dg.small_take sa _ (by omega));rw[List.length_take,Nat.min_eq_left hw] at hlt;rw[hsp,Nat.add_comm,Nat.mul_add_div (Nat.pow_pos (by omega)),Nat.div_eq_of_lt hlt,Nat.add_zero]
theorem aN (w:World)(k:IntKind):Rd w k yN []:=(aQ w 0 0 k).rd
theorem cD (a:Addr)(W:World)(g:Fn):(store a (Value.func g #[] #[])).run Tryz.prog W=stored Tryz.prog W a (Value.func g #[] #[]) .plain:=run_store _ W a _ _ rfl
theorem gn (a:Addr)(W:World):(store a Value.nilFunc).run Tryz.prog W=stored Tryz.prog W a Value.nilFunc .plain:=run_store _ W a _ _ rfl
theorem Ts {w0 wr w3:World}{e x:Nat}{k:IntKind}{es:List Nat}{lv v':Value}(bel:yB w0 wr)(ownL:Own wr w0.heap.size e k lv es)
  (hown':w3.ownsRow w0.heap.size e 1 v' (es.length+1) ((es.map (fun n:Nat=>Value.int k (n:Int)))++[.int k x]))
  (hgrow:(wr.alloc (.cells #[.int k x] e)).grownBy w3 lv.ownBlock):
  Own w3 w0.heap.size e k v' (es++[x])∧yB w0 w3:=iW bel ownL hown' hgrow
theorem VS {R cur ys:List Nat}{i t k c b y p ct:Nat}(h:SX R cur ys i t k c b)(_hk:k<ys.length)(hl:i+k<R.length)(hy:ys.getD k 0=y)(hp:R.getD (i+k) 0=p)(hpl:p<4294967296)(hct:ct=c+y*t)(hcl:ct/4294967296<4294967296):
  SX R (cur.set (i+k) ((p+4294967296-ct % 4294967296-b) % 4294967296)) ys i t (k+1) (ct/4294967296) (brw p (ct % 4294967296) b):=by
 obtain⟨h1,h2,h3,h4,h5,h6⟩:=h;refine⟨by simpa using h1,Dg.small_set h2 _ _ (Nat.mod_lt _ (by omega)),hcl,RN _ _ _,fun j hj=> ?_, ?_⟩
 ·rw[Dg.getD_set _ _ _ _ (by omega),if_neg (by omega)];exact h5 j (by omega)
 ·have hs:=Dg.vl_set 4294967296 cur (i+k) ((p+4294967296-ct % 4294967296-b) % 4294967296) (by omega)
  rw[h5 _ (Nat.le_refl _),hp] at hs;have hlo:ct % 4294967296<4294967296:=Nat.mod_lt _ (by omega);have eb:p+4294967296*brw p (ct % 4294967296) b=(p+4294967296-ct % 4294967296-b) % 4294967296+ct % 4294967296+b:=by unfold brw;split<;>omega
  generalize hnew:(p+4294967296-ct % 4294967296-b) % 4294967296=new at*;generalize brw p (ct % 4294967296) b=b' at*;rw[iV,hy];have e1:4294967296^i*((Dg.vl 4294967296 (ys.take k)+4294967296^k*y)*t)=4294967296^i*(Dg.vl 4294967296 (ys.take k)*t)+4294967296^ (i+k)*(y*t):=by
   rw[Nat.add_mul,Nat.mul_add,Nat.pow_add,Nat.mul_assoc,Nat.mul_assoc]
  have e2:4294967296^ (i+(k+1))*(b'+ct/4294967296)=4294967296^ (i+k)*(4294967296*b'+4294967296*(ct/4294967296)):=by
   rw[show i+(k+1)=i+k+1 from by omega,Nat.pow_succ,Nat.mul_assoc,Nat.mul_add]
  have e3:=Nat.mod_add_div ct 4294967296;have e4:4294967296^ (i+k)*(4294967296*b'+4294967296*(ct/4294967296)+p)=4294967296^ (i+k)*(new+b+c+y*t):=by congr 1;omega
  rw[Nat.mul_add,Nat.mul_add,Nat.mul_add,Nat.mul_add,Nat.mul_add] at e4;rw[Nat.mul_add] at h6;rw[e1,e2,Nat.mul_add];omega
theorem VT {R cur ys:List Nat}{i t c b p:Nat}(h:SX R cur ys i t ys.length c b)(hl:i+ys.length<R.length)(hp:R.getD (i+ys.length) 0=p)(hpl:p<4294967296):
  (cur.set (i+ys.length) ((p+4294967296-c-b) % 4294967296)).length=R.length∧Dg.Small 4294967296 (cur.set (i+ys.length) ((p+4294967296-c-b) % 4294967296))∧(∀j,i+ys.length<j→(cur.set (i+ys.length) ((p+4294967296-c-b) % 4294967296)).getD j 0=R.getD j 0)∧
   Dg.vl 4294967296 (cur.set (i+ys.length) ((p+4294967296-c-b) % 4294967296))+4294967296^i*(Dg.vl 4294967296 ys*t)=Dg.vl 4294967296 R+4294967296^ (i+ys.length+1)*brw p c b:=by
 obtain⟨h1,h2,h3,h4,h5,h6⟩:=h;refine⟨by simpa using h1,Dg.small_set h2 _ _ (Nat.mod_lt _ (by omega)),fun j hj=> ?_, ?_⟩
 ·rw[Dg.getD_set _ _ _ _ (by omega),if_neg (by omega)];exact h5 j (by omega)
 ·have hs:=Dg.vl_set 4294967296 cur (i+ys.length) ((p+4294967296-c-b) % 4294967296) (by omega)
  rw[h5 _ (Nat.le_refl _),hp] at hs;have eb:p+4294967296*brw p c b=(p+4294967296-c-b) % 4294967296+c+b:=by unfold brw;split<;>omega
  generalize(p+4294967296-c-b) % 4294967296=new at*;generalize brw p c b=b' at*;rw[List.take_of_length_le (Nat.le_refl _)] at h6;have e2:4294967296^ (i+ys.length+1)*b'=4294967296^ (i+ys.length)*(4294967296*b'):=by rw[Nat.pow_succ,Nat.mul_assoc]
  have e4:4294967296^ (i+ys.length)*(p+4294967296*b')=4294967296^ (i+ys.length)*(new+c+b):=by rw[eb]
  rw[Nat.mul_add,Nat.mul_add,Nat.mul_add] at e4;rw[Nat.mul_add] at h6;rw[e2];omega
theorem QR {R cur ys:List Nat}{i g b q X D:Nat}(hT:acc R cur ys i g b)(sR:Dg.Small 4294967296 R)(hX:Dg.vl 4294967296 R=X)(hD:Dg.vl 4294967296 ys=D)(hD0:0<D)(hDl:D<4294967296^ys.length)
  (hl:X<D*4294967296^ (i+1)) (hq:X/4294967296^i/D=q) (hg:g=q∨g=q+1):
  (b=0→g=q∧Dg.vl 4294967296 cur+4294967296^i*(D*q)=X∧Dg.vl 4294967296 cur<D*4294967296^i)∧
  (b=1→g=q+1∧ ∀(cur':List Nat) (o:Nat),Py cur cur' ys i o→Dg.vl 4294967296 cur'+4294967296^i*(D*q)=X∧Dg.vl 4294967296 cur'<D*4294967296^i):=by
 have hXT:X<4294967296^ (i+ys.length+1):=by
  have e1:D*4294967296^ (i+1)≤4294967296^ys.length*4294967296^ (i+1):=Nat.mul_le_mul_right _ (by omega);rw[←Nat.pow_add,show ys.length+(i+1)=i+ys.length+1 from by omega] at e1
  omega
 have hzR: ∀j,i+ys.length+1≤j→R.getD j 0=0:=fun j hj=>NB 4294967296 R _ (by omega) sR (by rw[hX];exact hXT) j hj
 obtain⟨t1,t2,t3,t4,t5⟩:=hT;have hzc: ∀j,i+ys.length+1≤j→cur.getD j 0=0:=fun j hj=>by rw[t3 j (by omega)];exact hzR j hj
 have hcl:=Dk 4294967296 cur _ (by omega) t2 hzc;have hb:=ND (X:=X) (D:=D) (i:=i) (B:=4294967296) (by omega) hD0;rw[hq] at hb;rw[hX,hD] at t5;have e3:4294967296^i*(D*(q+1))=4294967296^i*(D*q)+4294967296^i*D:=by rw[Nat.mul_add,Nat.mul_one,Nat.mul_add]
 have e4:4294967296^i*D≤4294967296^ (i+ys.length+1):=by
  have e1:4294967296^i*D≤4294967296^i*4294967296^ys.length:=Nat.mul_le_mul_left _ (by omega);rw[←Nat.pow_add] at e1;have e2:(4294967296:Nat)^ (i+ys.length)≤4294967296^ (i+ys.length+1):=Nat.pow_le_pow_right (by omega) (by omega);omega
 have e5:D*4294967296^i=4294967296^i*D:=Nat.mul_comm _ _;have hc0:0<4294967296^i*D:=Nat.mul_pos (Nat.pow_pos (by omega)) hD0;have hx:4294967296^i*(D*g)=4294967296^i*(D*q)∨4294967296^i*(D*g)=4294967296^i*(D*q)+4294967296^i*D:=by
  rcases hg with e|e
  ·left;rw[e]
  ·right;rw[e,e3]
 have hgq:(4294967296^i*(D*g)=4294967296^i*(D*q)→g=q)∧(4294967296^i*(D*g)=4294967296^i*(D*q)+4294967296^i*D→g=q+1):=by
  constructor
  ·intro e
   rcases hg with h|h
   ·exact h
   ·rw[h,e3] at e;omega
  ·intro e
   rcases hg with h|h
   ·rw[h] at e;omega
   ·exact h
 have hw:=QQ hb.1 hb.2 hx hgq t5 hcl t4;rw[e5];have hb2:=hb.2;have hb1:=hb.1;refine⟨fun h0=> ?_,fun h1=> ?_⟩
 ·have:=hw.1 h0
  exact⟨this.1,this.2,by omega⟩
 ·have h2:=hw.2 h1
  refine⟨h2.1,fun cur' o hB=> ?_⟩
  obtain⟨b1,b2,b3,b4,b5⟩:=hB;have hzc': ∀j,i+ys.length+1≤j→cur'.getD j 0=0:=fun j hj=>by rw[b3 j (by omega)];exact hzc j hj
  have hcl':=Dk 4294967296 cur' _ (by omega) b2 hzc';rw[hD] at b5;have h3:=h2.2;have ho:o=0∨o=1:=by omega
  clear hw hx hgq t5 hzR hzc hzc' t1 t2 t3 b1 b2 b3 h2 hl hXT
  rcases ho with ho|ho
  ·subst ho
   rw[Nat.mul_zero] at b5;omega
  ·subst ho
   rw[Nat.mul_one] at b5;omega
theorem Pi {A D M N i nn:Nat}{R os bs:List Nat}(h:Jm A D M R os N (i+1))(sb:Dg.Small 4294967296 bs)(hbs:Dg.vl 4294967296 bs=D)(hn:2≤nn)(hD1:2147483648*4294967296^ (nn-1)≤D)(hD2:D<4294967296^nn):
  2147483648≤bs.getD (nn-1) 0∧R.getD (i+nn) 0≤bs.getD (nn-1) 0∧
  ∀g,g<4294967296→(∀k,k*(bs.getD (nn-1) 0*4294967296+bs.getD (nn-2) 0)≤(R.getD (i+nn) 0*4294967296+R.getD (i+(nn-1)) 0)*4294967296+R.getD (i+(nn-2)) 0→k<4294967296→k≤g)→
   g*(bs.getD (nn-1) 0*4294967296+bs.getD (nn-2) 0)≤(R.getD (i+nn) 0*4294967296+R.getD (i+(nn-1)) 0)*4294967296+R.getD (i+(nn-2)) 0→
   Dg.vl 4294967296 R/4294967296^i/D<4294967296∧(g=Dg.vl 4294967296 R/4294967296^i/D∨g=Dg.vl 4294967296 R/4294967296^i/D+1):=by
 obtain⟨-,-,sR,-,-,-,hX⟩:=h;obtain⟨m,rfl⟩: ∃m,nn=m+2:=⟨nn-2,by omega⟩;have hB:(0:Nat)<4294967296:=by omega
 rw[show m+2-1=m+1 from rfl] at*
 rw[show m+2-2=m from rfl]
 have d1:bs.getD (m+1) 0=D/4294967296^ (m+1) % 4294967296:=by rw[CG 4294967296 bs (m+1) hB sb,hbs]
 have d0:bs.getD m 0=D/4294967296^m % 4294967296:=by rw[CG 4294967296 bs m hB sb,hbs]
 have p2:=CG 4294967296 R (i+(m+2)) hB sR;have p1:=CG 4294967296 R (i+(m+1)) hB sR;have p0:=CG 4294967296 R (i+m) hB sR;have hXl:Dg.vl 4294967296 R<4294967296^ (i+m+3):=by
  have e1:D*4294967296^ (i+1)≤4294967296^ (m+2)*4294967296^ (i+1):=Nat.mul_le_mul_right _ (Nat.le_of_lt hD2);rw[←Nat.pow_add,show m+2+(i+1)=i+m+3 from by omega] at e1
  exact Nat.lt_of_lt_of_le hX e1
 have tp:=adr (n:=m+2) hB (by omega) hX;rw[show m+2-1=m+1 from rfl] at tp
 have hDt:D/4294967296^ (m+1)<4294967296:=by
  rw[Nat.div_lt_iff_lt_mul (Nat.pow_pos hB),Nat.mul_comm,←Nat.pow_succ];exact hD2
 have t3:=aeU 4294967296 (Dg.vl 4294967296 R) (i+m) hB hXl;have t2:=two 4294967296 D m hB hD2;rw[d1,d0,p2,p1,p0];rw[show i+(m+2)=i+m+2 from by omega] at tp⊢
 rw[show i+(m+1)=i+m+1 from by omega]
 refine⟨?_, ?_, ?_⟩
 ·rw[Nat.mod_eq_of_lt hDt,Nat.le_div_iff_mul_le (Nat.pow_pos hB)]
  exact hD1
 ·rw[Nat.mod_eq_of_lt hDt]
  exact Nat.le_trans (Nat.mod_le _ _) tp
 ·rw[t3,t2]
  intro g hg hlow hup;refine NC hB hX ?_ hg hlow hup;have e1:1*4294967296^ (m+1)≤2147483648*4294967296^ (m+1):=Nat.mul_le_mul_right _ (by omega);rw[Nat.one_mul] at e1;exact Nat.le_trans e1 hD1
theorem Pj {X na nn s D:Nat}{az:List Nat}(haz:Dg.dg 4294967296 (X*2^s)=az)(hal:az.length≤na+1)(hX:X<4294967296^na)(hs:s<32)(hn:1≤nn)(hle:nn≤na+1)(hD1:2147483648*4294967296^ (nn-1)≤D):
  Jm (X*2^s) D (na+1-nn) (az++(List.replicate (na+1) 0).drop az.length) (List.replicate (na+1-nn) 0) (na+1) (na+1-nn):=by
 have sz:Dg.Small 4294967296 az:=by rw[←haz];exact Dg.small_dg _ _ (by omega)
 have hv:Dg.vl 4294967296 (az++(List.replicate (na+1) 0).drop az.length)=X*2^s:=by
  rw[List.drop_replicate,acV,←haz,Dg.vl_dg _ _ (by omega)]
 refine⟨by simp;omega,by simp, ?_,CV _,fun j _=>EP _ j, ?_, ?_⟩
 ·rw[List.drop_replicate]
  exact TM sz (CV _)
 ·rw[hv,Dg.vl_zeros _ _ (EP _),Nat.mul_zero,Nat.zero_add]
 ·rw[hv]
  have e1:2147483648*4294967296^ (nn-1)*4294967296^ (na+1-nn)≤D*4294967296^ (na+1-nn):=Nat.mul_le_mul_right _ hD1;rw[Nat.mul_assoc,←Nat.pow_add,show nn-1+(na+1-nn)=na from by omega] at e1
  have e2:X*2^s<4294967296^na*2^s:=Nat.mul_lt_mul_of_pos_right hX (Nat.pow_pos (by omega));have e3:4294967296^na*2^s≤4294967296^na*2^31:=Nat.mul_le_mul_left _ (Nat.pow_le_pow_right (by omega) (by omega));rw[show(2:Nat)^31=2147483648 from rfl,Nat.mul_comm _ 2147483648] at e3
  omega
theorem ik.store {w:World}{g:Nat}{zs:List Nat}(h:ik w g zs)(j x:Nat):ik (w.setCell ⟨g,j,none⟩ (.int .u8 x)) g (zs.set j x):=by
 refine⟨fun i hi=> ?_,fun i hi=> ?_,by simpa[World.setCell] using h.lt⟩
 ·rw[List.length_set] at hi
  by_cases e:j=i
  ·subst e
   rw[World.cell?_setCell_same (h:=h.c j hi)];simp[List.getD_eq_getElem?_getD,hi]
  ·rw[World.cell?_setCell_other (h:=by intro k;cases k;exact e rfl),h.c i hi]
   simp[List.getD_eq_getElem?_getD,e]
 ·rw[List.length_set] at hi
  rw[O7];exact h.f i hi
def gW (k:Nat):Nat:=2^ (dgN k-1)
def iI (k e f:Nat):Nat:=if rdN k=16 then f else if e=0 then f else f|||gW k
def ii (k e:Nat):Int:=if rdN k=16 then lsI k+e else if e=0 then lsI k else lsI k+e-1
theorem nK (n m:Int)(w:World)(h0:0≤m)(h1:m≤1000000):yC 109 #[yi n,yi m] w fun z w'=>z= .returned (.bool (eJ m n))∧w'=w:=by
 have hw:IntKind.i64.wrap (-m)= -m:=IntWalk.i64_in _ ⟨by omega,by omega⟩;unfold eJ
 by_cases h:n< -m
 ·go_enter func109,ntmps109
  go_wp2
  go_ret
  simp[h]
 ·go_enter func109,ntmps109
  go_wp2
  go_ret
  simp;omega
theorem FD {R D L G:Int}(h1: ¬R=2)(h2: ¬R=16):bk R D L G=6:=if_neg (fun h=>h.elim h1 h2)
theorem zp {R D L G:Int}(h:R=2∨R=16)(hb:D<1∨120<D∨eJ (xa R) L=true∨eJ (xa R) G=true∨G<L):bk R D L G=3:=(if_pos h).trans (if_pos hb)
theorem Bm {R D L G:Int}(h:R=2∨R=16)(hb: ¬(D<1∨120<D∨eJ (xa R) L=true∨eJ (xa R) G=true∨G<L)):bk R D L G=0:=(if_pos h).trans (if_neg hb)
theorem MW (D L G:Int)(gr:Bool)(w:World):
  yC 110 #[ygV 2 D L G gr] w (yR w (yi (bk 2 D L G))):=by
 have bA:=af w (.cells (ygA 2 D L G gr) 82);have l1:=ah w (ygL 2 D L G gr) 82;have c1:=l1.c 1 rfl;have c2:=l1.c 2 rfl;have c3:=l1.c 3 rfl;obtain⟨C,hC⟩: ∃C,bk 2 D L G=C:=⟨_,rfl⟩;have HC3:Hid (D<1∨120<D∨eJ 17000 L=true∨eJ 17000 G=true∨G<L→3=C):=fun h=>by rw[←hC];exact(zp (R:=2) (by omega) h).symm
 have HC0:Hid (¬(D<1∨120<D∨eJ 17000 L=true∨eJ 17000 G=true∨G<L)→0=C):=fun h=>by rw[←hC];exact(Bm (R:=2) (by omega) h).symm
 rw[hC];have H1:Hid (∀w1,yC 109 #[yi L,yi 17000] w1 fun z w'=>z= .returned (.bool (eJ 17000 L))∧w'=w1):=fun w1=>nK L 17000 w1 (by omega) (by omega)
 have H2:Hid (∀w1,yC 109 #[yi G,yi 17000] w1 fun z w'=>z= .returned (.bool (eJ 17000 G))∧w'=w1):=fun w1=>nK G 17000 w1 (by omega) (by omega)
 obtain⟨bl,hbl⟩: ∃b,eJ 17000 L=b:=⟨_,rfl⟩;obtain⟨bg,hbg⟩: ∃b,eJ 17000 G=b:=⟨_,rfl⟩;rw[hbl] at H1 HC3 HC0;rw[hbg] at H2 HC3 HC0;clear hC hbl hbg
 by_cases d1:D<1
 ·obtain rfl:=HC3.out (.inl d1)
  go_enter func110,ntmps110
  go_wp2
  go_ret
  exact⟨rfl,bA⟩
 ·by_cases d2:120<D
  ·obtain rfl:=HC3.out (.inr (.inl d2))
   go_enter func110,ntmps110
   go_wp2
   go_ret
   exact⟨rfl,bA⟩
  ·cases bl
   ·cases bg
    ·by_cases d3:G<L
     ·obtain rfl:=HC3.out (.inr (.inr (.inr (.inr d3))))
      go_enter func110,ntmps110
      go_wp2_with fail
      refine(H1.out _).mono ?_;rintro z w2 ⟨rfl,rfl⟩
      go_wp2_with fail
      refine(H2.out _).mono ?_;rintro z w3 ⟨rfl,rfl⟩
      go_wp2
      go_ret
      exact⟨rfl,bA⟩
     ·obtain rfl:=HC0.out (by simp[d1,d2,d3])
      go_enter func110,ntmps110
      go_wp2_with fail
      refine(H1.out _).mono ?_;rintro z w2 ⟨rfl,rfl⟩
      go_wp2_with fail
      refine(H2.out _).mono ?_;rintro z w3 ⟨rfl,rfl⟩
      go_wp2
      go_ret
      exact⟨rfl,bA⟩
    ·obtain rfl:=HC3.out (.inr (.inr (.inr (.inl rfl))))
     go_enter func110,ntmps110
     go_wp2_with fail
     refine(H1.out _).mono ?_;rintro z w2 ⟨rfl,rfl⟩
     go_wp2_with fail
     refine(H2.out _).mono ?_;rintro z w3 ⟨rfl,rfl⟩
     go_wp2
     go_ret
     exact⟨rfl,bA⟩
   ·obtain rfl:=HC3.out (.inr (.inr (.inl rfl)))
    go_enter func110,ntmps110
    go_wp2_with fail
    refine(H1.out _).mono ?_;rintro z w2 ⟨rfl,rfl⟩
    go_wp2
    go_ret
    exact⟨rfl,bA⟩
theorem Ky (D L G:Int)(gr:Bool)(w:World):
  yC 110 #[ygV 16 D L G gr] w (yR w (yi (bk 16 D L G))):=by
 have bA:=af w (.cells (ygA 16 D L G gr) 82);have l1:=ah w (ygL 16 D L G gr) 82;have c1:=l1.c 1 rfl;have c2:=l1.c 2 rfl;have c3:=l1.c 3 rfl;obtain⟨C,hC⟩: ∃C,bk 16 D L G=C:=⟨_,rfl⟩;have HC3:Hid (D<1∨120<D∨eJ 4000 L=true∨eJ 4000 G=true∨G<L→3=C):=fun h=>by rw[←hC];exact(zp (R:=16) (by omega) h).symm
 have HC0:Hid (¬(D<1∨120<D∨eJ 4000 L=true∨eJ 4000 G=true∨G<L)→0=C):=fun h=>by rw[←hC];exact(Bm (R:=16) (by omega) h).symm
 rw[hC];have H1:Hid (∀w1,yC 109 #[yi L,yi 4000] w1 fun z w'=>z= .returned (.bool (eJ 4000 L))∧w'=w1):=fun w1=>nK L 4000 w1 (by omega) (by omega)
 have H2:Hid (∀w1,yC 109 #[yi G,yi 4000] w1 fun z w'=>z= .returned (.bool (eJ 4000 G))∧w'=w1):=fun w1=>nK G 4000 w1 (by omega) (by omega)
 obtain⟨bl,hbl⟩: ∃b,eJ 4000 L=b:=⟨_,rfl⟩;obtain⟨bg,hbg⟩: ∃b,eJ 4000 G=b:=⟨_,rfl⟩;rw[hbl] at H1 HC3 HC0;rw[hbg] at H2 HC3 HC0;clear hC hbl hbg
 by_cases d1:D<1
 ·obtain rfl:=HC3.out (.inl d1)
  go_enter func110,ntmps110
  go_wp2
  go_ret
  exact⟨rfl,bA⟩
 ·by_cases d2:120<D
  ·obtain rfl:=HC3.out (.inr (.inl d2))
   go_enter func110,ntmps110
   go_wp2
   go_ret
   exact⟨rfl,bA⟩
  ·cases bl
   ·cases bg
    ·by_cases d3:G<L
     ·obtain rfl:=HC3.out (.inr (.inr (.inr (.inr d3))))
      go_enter func110,ntmps110
      go_wp2_with fail
      refine(H1.out _).mono ?_;rintro z w2 ⟨rfl,rfl⟩
      go_wp2_with fail
      refine(H2.out _).mono ?_;rintro z w3 ⟨rfl,rfl⟩
      go_wp2
      go_ret
      exact⟨rfl,bA⟩
     ·obtain rfl:=HC0.out (by simp[d1,d2,d3])
      go_enter func110,ntmps110
      go_wp2_with fail
      refine(H1.out _).mono ?_;rintro z w2 ⟨rfl,rfl⟩
      go_wp2_with fail
      refine(H2.out _).mono ?_;rintro z w3 ⟨rfl,rfl⟩
      go_wp2
      go_ret
      exact⟨rfl,bA⟩
    ·obtain rfl:=HC3.out (.inr (.inr (.inr (.inl rfl))))
     go_enter func110,ntmps110
     go_wp2_with fail
     refine(H1.out _).mono ?_;rintro z w2 ⟨rfl,rfl⟩
     go_wp2_with fail
     refine(H2.out _).mono ?_;rintro z w3 ⟨rfl,rfl⟩
     go_wp2
     go_ret
     exact⟨rfl,bA⟩
   ·obtain rfl:=HC3.out (.inr (.inr (.inl rfl)))
    go_enter func110,ntmps110
    go_wp2_with fail
    refine(H1.out _).mono ?_;rintro z w2 ⟨rfl,rfl⟩
    go_wp2
    go_ret
    exact⟨rfl,bA⟩
def eA (xs ys:List Nat)(E:Int):Int:=if chk xs=0 then(if chk ys=0 then(if ys.length=0∨eJ 20000 E=true then 3 else 0) else chk ys) else chk xs
theorem Uu (xs ys:List Nat)(E gc:Int):jg (eA xs ys E) gc=nL (chk xs) (chk ys) ys.length (eJ 20000 E) gc:=by
 unfold jg eA nL
 by_cases h1:chk xs=0
 ·rw[if_pos h1,if_pos h1]
  by_cases h2:chk ys=0
  ·rw[if_pos h2,if_pos h2]
   by_cases h3:ys.length=0∨eJ 20000 E=true
   ·rw[if_pos h3,if_pos h3,if_neg (by omega)]
   ·rw[if_neg h3,if_neg h3,if_pos rfl]
  ·rw[if_neg h2,if_neg h2,if_neg h2]
 ·rw[if_neg h1,if_neg h1,if_neg h1]
theorem qD (N M:Nat)(E:Int):dY N M E=E+dY N M 0:=by
 unfold dY;omega
theorem BD (N M:Nat)(n:Int)(j:Nat)(hN:N≠0)(hM:M≠0):2^j≤eZ N n/dX M n↔(j:Int)≤dY N M 0+n:=by
 rw[fw,eM,Nat.le_div_iff_mul_le (Nat.mul_pos (Nat.pos_of_ne_zero hM) (bG _)),←Nat.mul_assoc,Nat.mul_comm (2^j),Nat.mul_assoc,←Nat.pow_add,BC N M _ _ hN hM];omega
theorem xx (R D k:Int)(N M:Nat)(E:Int)(h1:1≤D)(hN:N≠0)(hM:M≠0):
  bitLen (eZ N (E-(ai R:Int)*k)/dX M (E-(ai R:Int)*k))<ai R*(D-1).toNat+1↔aT R D (dY N M E)<k:=by
 rw[pP,BD N M _ _ hN hM,qD N M E];unfold aT;obtain⟨t,ht⟩: ∃t,dY N M 0=t:=⟨_,rfl⟩;rw[ht];unfold ai
 split<;>simp<;>omega
theorem rP (R D L:Int)(gr:Bool)(N M:Nat)(E:Int)(h1:1≤D)(hN:N≠0)(hM:M≠0):cH R D L gr N M E<2^ (ai R*D.toNat):=by
 refine Nat.lt_of_not_le fun c=> ?_
 unfold cH shP at c;rw[BD N M _ _ hN hM] at c;have hc:aT R D (dY N M E)≤dj R D L gr N M E:=by
  unfold dj
  by_cases h:(decide (aT R D (dY N M E)<L)&&gr)=true
  ·rw[if_pos h]
   have:=of_decide_eq_true (Bool.and_eq_true_iff.1 h).1;omega
  ·rw[if_neg h]
   exact Int.le_refl _
 obtain⟨k,hk⟩: ∃k,dj R D L gr N M E=k:=⟨_,rfl⟩;rw[hk] at c hc;rw[qD] at hc;obtain⟨t,ht⟩: ∃t,dY N M 0=t:=⟨_,rfl⟩;rw[ht] at c hc;unfold aT ai at hc;unfold ai at c
 split at c<;>simp_all<;>omega
theorem Vf (R D L:Int)(gr:Bool)(N M:Nat)(E:Int)(h1:1≤D)(hN:N≠0)(hM:M≠0)(h:dj R D L gr N M E=aT R D (dY N M E)):0<cH R D L gr N M E:=by
 have h2: ¬bitLen (cH R D L gr N M E)<ai R*(D-1).toNat+1:=by
  unfold cH shP;rw[h,xx R D _ N M E h1 hN hM];omega
 have:cH R D L gr N M E≠0:=by
  intro c;rw[c] at h2;simp at h2;rw[gP] at h2;omega
 omega
theorem gZ (n L:Nat)(h:(Dg.dg 4294967296 n).length≤L):tz n≤32*L:=by
 by_cases h0:n=0
 ·subst h0;exact Nat.zero_le _
 ·obtain⟨m,hm⟩:=fO h0
  have h1:=Dg.vl_lt 4294967296 (Dg.dg 4294967296 n) (Dg.small_dg _ _ (by omega));rw[Dg.vl_dg _ _ (by omega)] at h1;have h2:4294967296^ (Dg.dg 4294967296 n).length≤4294967296^L:=Nat.pow_le_pow_right (by omega) h;have h3:(4294967296:Nat)^L=2^ (32*L):=by rw[Nat.pow_mul]
  have h4:2^tz n*1≤2^tz n*(2*m+1):=Nat.mul_le_mul_left _ (by omega);rw[←hm,Nat.mul_one] at h4;have h5:2^tz n<2^ (32*L):=by rw[←h3];omega
  exact Nat.le_of_lt ((Nat.pow_lt_pow_iff_right (by omega)).1 h5)
def cP (R D L:Int)(gr:Bool)(n:Nat)(e:Int):Int:=
 if(decide (aT R D ((bitLen n:Int)-1+e)<L)&&gr)=true then L else aT R D ((bitLen n:Int)-1+e)
def sq (w:World)(c:Int)(t:fz)(e:Ending)(w':World):Prop:=
 ∃v,e= .returned (.tuple #[ypV t.s v t.p t.ex t.ov t.un,yi c])∧Own w' w.heap.size 54 .u32 v (Dg.dg 4294967296 t.d)∧yB w w'
def oI:fz:=⟨false,0,0,false,false,false⟩
theorem Og {R D L G:Int}{gr:Bool}{n:Nat}{e:Int}(hg:bk R D L G=0)(hb:bitLen n≤40000)(e1: -100000≤e)(e2:e≤100000):
  -341000≤cP R D L gr n e∧cP R D L gr n e≤341000∧ -341000≤(ai R:Int)*cP R D L gr n e∧(ai R:Int)*cP R D L gr n e≤341000:=by
 obtain⟨hR,d1,d2,l1,l2,-,-,-,-⟩:=cB hg;have hp:=Bp (R:=R) (D:=D) (t:=(bitLen n:Int)-1+e) d1 d2 (by omega) (by omega);unfold cP
 split
 ·unfold ai
  split<;>simp<;>omega
 ·exact hp
theorem Ib (zs:List Nat)(i:Nat):fU zs i=((zs.getD (i/8) 0).testBit (7-i % 8)).toNat:=by
 unfold fU;rw[Nat.testBit_eq_decide_div_mod_eq];have h:=Nat.mod_lt (zs.getD (i/8) 0/2^ (7-i % 8)) (show 0<2 by omega)
 rcases(show zs.getD (i/8) 0/2^ (7-i % 8) % 2=0∨zs.getD (i/8) 0/2^ (7-i % 8) % 2=1 by omega) with e|e<;>rw[e]<;>rfl
theorem Wp (zs:List Nat)(p b i:Nat)(hb:b<2)(hp:p/8<zs.length):fU (zs.set (p/8) (zs.getD (p/8) 0|||b*2^ (7-p % 8))) i=if i=p then(if b=1 then 1 else fU zs i) else fU zs i:=by
 rw[Ib,Ib,Dg.getD_set _ _ _ _ hp]
 by_cases h8:p/8=i/8
 ·rw[if_pos h8,Lp _ _ _ _ hb,h8]
  by_cases hi:i=p
  ·subst hi
   rw[if_pos rfl]
   rcases(show b=0∨b=1 by omega) with rfl|rfl
   ·simp
   ·simp
  ·rw[if_neg hi,decide_eq_false (show¬7-p % 8=7-i % 8 by omega)]
   simp
 ·rw[if_neg h8,if_neg (show¬i=p from fun e=>h8 (by rw[e]))]
theorem aaP {L:Int}{ld:Nat}{t:fz}:heE 16 L ld t=(t.p-L).toNat:=by
 unfold heE;rw[if_neg (fun c=>by have:=c.1;omega),Nat.add_zero]
theorem aaQ {f n:Nat}(h1:2^n≤f)(h2:f<2^ (n+1)):f|||2^n=f:=by
 obtain⟨r,rfl⟩: ∃r,f=r+2^n:=⟨f-2^n,by omega⟩;have hr:r<2^n:=by rw[Nat.pow_succ] at h2;omega
 rw[←JL hr,Nat.or_assoc,Nat.or_self]
theorem CQ {k:Nat}(hk:1≤k∧k≤8)(ng:Bool)(t:fz)(h1:lsI k≤t.p)(h2:t.p≤gsI k)(h0:t.d≠0)(hlt:t.d<2^ (ai (rdN k)*dgN k))(hf:2^ (ai (rdN k)*(dgN k-1))≤t.d∨(k≤3∧t.p=lsI k)):
  heE (rdN k) (lsI k) (gW k) t<2^exN k∧dh k ng (heE (rdN k) (lsI k) (gW k) t) (t.d % 2^frN k)=2∧iI k (heE (rdN k) (lsI k) (gW k) t) (t.d % 2^frN k)=t.d∧ii k (heE (rdN k) (lsI k) (gW k) t)=t.p:=by
 have hex:(k=4∨k=5)∨k=3∨(k=1∨k=2)∨(k=6∨k=7∨k=8):=by omega
 rcases hex with hx|hx|hx|hx
 ·have hR:(rdN k:Int)=16:=by rcases hx with rfl|rfl<;>rfl
  have hfr:ai (rdN k)*dgN k=frN k:=by rcases hx with rfl|rfl<;>decide
  have hrd:rdN k=16:=by rcases hx with rfl|rfl<;>rfl
  have hgl:gsI k-lsI k<128∧2^exN k=128:=by rcases hx with rfl|rfl<;>decide
  rw[hfr] at hlt;rw[hR,aaP,Nat.mod_eq_of_lt hlt];refine⟨by omega, ?_, ?_, ?_⟩
  ·unfold dh
   rw[if_neg (by omega),if_pos (by omega),if_neg h0]
  ·unfold iI
   rw[if_pos hrd]
  ·unfold ii
   rw[if_pos hrd];omega
 ·subst hx
  have hw:ai ((rdN 3:Nat):Int)=1:=rfl;rw[hw,Nat.one_mul] at hlt hf;have hlt':t.d<2^ (63+1):=hlt;have hf':2^63≤t.d∨(3≤3∧t.p=lsI 3):=hf;have hh:heE ((rdN 3:Nat):Int) (lsI 3) (gW 3) t=(t.p-lsI 3).toNat+if 2^63≤t.d then 1 else 0:=JK (L:=lsI 3) (j:=63) hlt'
  have hm:t.d % 2^frN 3=t.d:=Nat.mod_eq_of_lt hlt';have hl3:lsI 3= -16445:=rfl;have hg3:gsI 3=16320:=rfl;have he3:2^exN 3=32768:=rfl;have ho3:kp 3=32767:=rfl;rw[hh,hm]
  by_cases hc:2^63≤t.d
  ·rw[if_pos hc]
   refine⟨by omega, ?_, ?_, ?_⟩
   ·unfold dh
    rw[if_pos (by omega),if_neg (by omega),if_neg (by omega),if_neg (fun c=>by have:=c.2;omega)]
   ·unfold iI
    rw[if_neg (by decide),if_neg (by omega)];exact aaQ hc hlt'
   ·unfold ii
    rw[if_neg (by decide),if_neg (by omega)];omega
  ·have hp:=(hf'.resolve_left hc).2
   rw[if_neg hc,hp];have hz:(lsI 3-lsI 3).toNat+0=0:=by omega
   rw[hz];refine⟨by omega, ?_, ?_, ?_⟩
   ·unfold dh
    rw[if_pos (by omega),if_pos rfl,if_neg h0]
   ·unfold iI
    rw[if_neg (by decide),if_pos rfl]
   ·unfold ii
    rw[if_neg (by decide),if_pos rfl]
 ·have hR:(rdN k:Int)=2:=by rcases hx with rfl|rfl<;>rfl
  have hrd: ¬rdN k=16:=by rcases hx with rfl|rfl<;>decide
  have hw:ai (rdN k)=1:=by rw[hR];rfl
  have hfr:dgN k=frN k+1:=by rcases hx with rfl|rfl<;>decide
  have hld:gW k=2^frN k:=by rcases hx with rfl|rfl<;>rfl
  have hgl:gsI k-lsI k+1< (kp k:Int)∧2^exN k=kp k+1:=by rcases hx with rfl|rfl<;>decide
  rw[hw,Nat.one_mul,hfr] at hlt hf;rw[Nat.add_sub_cancel] at hf;rw[hR,hld,JK hlt]
  by_cases hc:2^frN k≤t.d
  ·rw[if_pos hc,LT hc hlt]
   have hr:t.d-2^frN k<2^frN k:=by rw[Nat.pow_succ] at hlt;omega
   refine⟨by omega, ?_, ?_, ?_⟩
   ·unfold dh
    rw[if_pos (by omega),if_neg (by omega),if_neg (by omega),if_neg (fun c=>by have:=c.1;omega)]
   ·unfold iI
    rw[if_neg hrd,if_neg (by omega),hld,JL hr];omega
   ·unfold ii
    rw[if_neg hrd,if_neg (by omega)];omega
  ·have hp:=(hf.resolve_left hc).2
   rw[if_neg hc,hp,Nat.mod_eq_of_lt (by omega)];have hz:(lsI k-lsI k).toNat+0=0:=by omega
   rw[hz];refine⟨by omega, ?_, ?_, ?_⟩
   ·unfold dh
    rw[if_pos (by omega),if_pos rfl,if_neg h0]
   ·unfold iI
    rw[if_neg hrd,if_pos rfl]
   ·unfold ii
    rw[if_neg hrd,if_pos rfl]
 ·have hR:(rdN k:Int)=2:=by rcases hx with rfl|rfl|rfl<;>rfl
  have hrd: ¬rdN k=16:=by rcases hx with rfl|rfl|rfl<;>decide
  have hw:ai (rdN k)=1:=by rw[hR];rfl
  have hfr:dgN k=frN k+1:=by rcases hx with rfl|rfl|rfl<;>decide
  have hld:gW k=2^frN k:=by rcases hx with rfl|rfl|rfl<;>rfl
  have hgl:gsI k-lsI k+1< (2^exN k:Nat):=by rcases hx with rfl|rfl|rfl<;>decide
  rw[hw,Nat.one_mul,hfr] at hlt hf;rw[Nat.add_sub_cancel] at hf;have hc:2^frN k≤t.d:=hf.resolve_right (fun c=>by have:=c.1;omega)
  rw[hR,hld,JK hlt,if_pos hc,LT hc hlt];have hr:t.d-2^frN k<2^frN k:=by rw[Nat.pow_succ] at hlt;omega
  refine⟨by omega, ?_, ?_, ?_⟩
  ·unfold dh
   rw[if_neg (by omega),if_neg (by omega),if_neg (by omega)]
  ·unfold iI
   rw[if_neg hrd,if_neg (by omega),hld,JL hr];omega
  ·unfold ii
   rw[if_neg hrd,if_neg (by omega)];omega
theorem ut.symm {J:Int}{N1 M1 N2 M2:Nat}{E1 E2:Int}(h:ut J N1 M1 E1 N2 M2 E2):ut J N2 M2 E2 N1 M1 E1:=fun j hj=>⟨(h j hj).1.symm,(h j hj).2.symm⟩
theorem half_same {a b j H:Nat}(hb:0<b)(hj:1≤j)(hH:H=if 0<a % b then a/b*2+1 else a/b*2):
  H/(10^j*2)=a/(b*10^j)∧(10^j*2<H % (10^j*2)*2↔b*10^j<a % (b*10^j)*2)∧(H % (10^j*2)*2=10^j*2↔a % (b*10^j)*2=b*10^j):=by
 obtain⟨i,rfl⟩: ∃i,j=i+1:=⟨j-1,by omega⟩;have eT:10^ (i+1)=2*(5*10^i):=by rw[Nat.pow_succ];omega
 have hT:0<5*10^i:=Nat.mul_pos (by omega) (Nat.pow_pos (by omega));rw[eT];generalize 5*10^i=T at hT⊢;have e1:a=b*(a/b)+a % b:=(Nat.div_add_mod a b).symm;have e2:a % b<b:=Nat.mod_lt _ hb;have hq:a/(b*(2*T))=a/b/(2*T):=(Nat.div_div_eq_div_mul _ _ _).symm;have hm:a % (b*(2*T))=a % b+b*(a/b % (2*T)):=Nat.mod_mul;rw[hq,hm];generalize a/b=W at e1 hH⊢;generalize a % b=r at e1 e2 hH⊢;have f1:W=2*T*(W/(2*T))+W % (2*T):=(Nat.div_add_mod _ _).symm;have f2:W % (2*T)<2*T:=Nat.mod_lt _ (by omega);generalize W/(2*T)=q at f1⊢;generalize W % (2*T)=m at f1 f2⊢;obtain⟨l,hl,hl2,hH⟩: ∃l,l≤1∧(l=0↔r=0)∧H=W*2+l:=by
  by_cases c:0<r
  ·exact⟨1,by omega,by omega,by rw[hH,if_pos c]⟩
  ·exact⟨0,by omega,by omega,by rw[hH,if_neg c];rfl⟩
 have g:H=2*T*2*q+(m*2+l):=by
  rw[hH];have:W*2=2*T*2*q+m*2:=by
   have:2*T*2*q=2*(2*T*q):=by ac_rfl
   omega
  omega
 have g2:m*2+l<2*T*2:=by omega
 have k1:H/(2*T*2)=q:=by rw[g,Nat.mul_add_div (by omega),Nat.div_eq_of_lt g2,Nat.add_zero]
 have k2:H % (2*T*2)=m*2+l:=by rw[g,Nat.mul_add_mod,Nat.mod_eq_of_lt g2]
 rw[k1,k2];have n1:b*(2*T)=2*(b*T):=by ac_rfl
 rw[n1];refine⟨rfl, ?_, ?_⟩
 ·constructor
  ·intro h
   have:T≤m:=by omega
   rcases Nat.lt_or_ge T m with c|c
   ·have:=Nat.mul_le_mul_left b c
    rw[Nat.mul_succ] at this;omega
   ·obtain rfl:T=m:=by omega
    have:0<r:=by omega
    omega
  ·intro h
   rcases Nat.lt_or_ge m T with c|c
   ·have:=Nat.mul_le_mul_left b c
    rw[Nat.mul_succ] at this;omega
   ·rcases Nat.lt_or_ge T m with d|d
    ·omega
    ·obtain rfl:T=m:=by omega
     have:0<r:=by omega
     omega
 ·constructor
  ·intro h
   obtain rfl:l=0:=by omega
   obtain rfl:r=0:=hl2.1 rfl;obtain rfl:m=T:=by omega
   omega
  ·intro h
   rcases Nat.lt_trichotomy m T with c|c|c
   ·have:=Nat.mul_le_mul_left b c
    rw[Nat.mul_succ] at this;omega
   ·subst c
    have:r=0:=by omega
    have:l=0:=hl2.2 this;omega
   ·have:=Nat.mul_le_mul_left b c
    rw[Nat.mul_succ] at this;omega
theorem powerR_eq {R D t k:Int}(h1:(ai R:Int)*(D-1)+(ai R:Int)*k≤t)(h2:t< (ai R:Int)*D+(ai R:Int)*k):aT R D t=k:=by
 unfold aT;have hw:=(eN R).1;have e1:(D-1+k)*(ai R:Int)≤t:=by rw[Int.mul_comm,Int.mul_add];omega
 have e2:t< (D-1+k+1)*(ai R:Int):=by
  rw[Int.mul_comm,show D-1+k+1=D+k by omega,Int.mul_add];omega
 have a1:D-1+k≤t/(ai R:Int):=(Int.le_ediv_iff_mul_le (by omega)).2 e1;have a2:t/(ai R:Int)<D-1+k+1:=(Int.ediv_lt_iff_lt_mul (by omega)).2 e2;omega
end Go.Proofs.YtlgkfdcmokchgaaGreatDoor
