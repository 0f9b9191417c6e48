/-
  Texts laid together: Tx27, Tx28, DyCs.
-/
import Derived.Test.YtpgijbdgljkeeaaGreatDoorTie
import Derived.Test.YtpgijbdgljkeeaaGreatDoorCards
import Derived.Test.YtpgijbdgljkeeaaGreatDoorUa03
namespace Go.Proofs.YtpgijbdgljkeeaaGreatDoor
open Go.RowKit
theorem rqS_rest: ∀k n d,(n % 5≠0∨1<d)→rqS k (n,d)=(n,d*5^k):=by
 intro k
 induction k with
 |zero=>intro n d _;rw[Nat.pow_zero,Nat.mul_one];rfl
 |succ k ih=>
  intro n d h
  show rqS k (if n % 5=0∧d=1 then _ else _)=_
  rw[if_neg (by omega),ih n (d*5) (by omega),Nat.pow_succ,Nat.mul_assoc,Nat.mul_comm 5]
theorem rqS_red: ∀k n,rqS k (n,1)=((redF n k).1,5^ (redF n k).2):=by
 intro k
 induction k with
 |zero=>intro n;rfl
 |succ k ih=>
  intro n
  show rqS k (if n % 5=0∧1=1 then _ else _)=_
  unfold redF
  by_cases h:n % 5=0
  ·rw[if_pos ⟨h,rfl⟩,if_pos h,ih]
  ·rw[if_neg (fun c=>h c.1),if_neg h,rqS_rest k n (1*5) (.inl h),Nat.pow_succ,Nat.one_mul,Nat.mul_comm 5]
theorem five_two (n:Nat): ∀t,(n*2^t) % 5=0↔n % 5=0:=by
 intro t
 induction t with
 |zero=>rw[Nat.pow_zero,Nat.mul_one]
 |succ t ih=>
  rw[Nat.pow_succ,←Nat.mul_assoc,←ih];generalize n*2^t=m;omega
theorem redF_two: ∀k n t,redF (n*2^t) k=((redF n k).1*2^t,(redF n k).2):=by
 intro k
 induction k with
 |zero=>intro n t;rfl
 |succ k ih=>
  intro n t;unfold redF
  by_cases h:n % 5=0
  ·rw[if_pos ((five_two n t).2 h),if_pos h,←ih]
   congr 1
   obtain⟨q,rfl⟩: ∃q,n=5*q:=⟨n/5,by omega⟩;rw[Nat.mul_assoc,Nat.mul_div_cancel_left _ (by omega),Nat.mul_div_cancel_left _ (by omega)]
  ·rw[if_neg (fun c=>h ((five_two n t).1 c)),if_neg h]
theorem redF_odd: ∀k n,n % 2=1→(redF n k).1 % 2=1:=by
 intro k
 induction k with
 |zero=>intro n h;exact h
 |succ k ih=>
  intro n h;unfold redF
  split
  ·exact ih _ (by omega)
  ·exact h
theorem five_odd (n:Nat)(h:n % 2=1): ∀k,(n*5^k) % 2=1:=by
 intro k
 induction k with
 |zero=>rw[Nat.pow_zero,Nat.mul_one];exact h
 |succ k ih=>
  rw[Nat.pow_succ,←Nat.mul_assoc];generalize n*5^k=m at*;omega
theorem odd_two {m t:Nat}(h:m % 2=1):tz (m*2^t)=t∧m*2^t/2^tz (m*2^t)=m:=by
 have e:tz (m*2^t)=t:=F8 (m:=m/2) (by rw[Nat.mul_comm];congr 1;omega);refine⟨e, ?_⟩;rw[e,Nat.mul_div_cancel _ (Nat.pow_pos (by omega))]
theorem odd_of {N:Nat}(h:N≠0):N/2^tz N % 2=1∧N=N/2^tz N*2^tz N:=by
 obtain⟨m,hm⟩:=fO h;have hp:0<2^tz N:=Nat.pow_pos (by omega);have e:N/2^tz N=2*m+1:=by
  conv=>lhs;lhs;rw[hm]
  exact Nat.mul_div_cancel_left _ hp
 rw[e];exact⟨by omega,by rw[Nat.mul_comm];exact hm⟩
theorem nr_rq {N:Nat}(h:N≠0)(p:Int):
  (rqS (-p).toNat (N/2^tz N*5^p.toNat,1)).1=(nrM N p).1/2^tz (nrM N p).1∧(rqS (-p).toNat (N/2^tz N*5^p.toNat,1)).2=(nrM N p).2∧tz (nrM N p).1=tz N:=by
 obtain⟨h1,h2⟩:=odd_of h;obtain⟨t,ht⟩: ∃t,tz N=t:=⟨_,rfl⟩;rw[ht] at h1 h2⊢;generalize N/2^t=n at*;subst h2;unfold nrM
 by_cases hp:0<p
 ·rw[if_pos hp,show(-p).toNat=0 by omega]
  have e:n*2^t*5^p.toNat=n*5^p.toNat*2^t:=Nat.mul_right_comm ..;obtain⟨k1,k2⟩:=odd_two (t:=t) (five_odd n h1 p.toNat)
  show _=n*2^t*5^p.toNat/_∧_
  rw[e];exact⟨k2.symm,rfl,k1⟩
 ·rw[if_neg hp,show p.toNat=0 by omega,Nat.pow_zero,Nat.mul_one,rqS_red,redF_two]
  obtain⟨k1,k2⟩:=odd_two (t:=t) (redF_odd (-p).toNat n h1);exact⟨k2.symm,rfl,k1⟩
theorem refRatio_any (t:ByteArray)(w:World):
  (raE t≠0→yC 10 #[.string t] w (yR w (.tuple #[yrV false yN yN 0,yi (raE t)])))∧
  (raE t=0→yC 10 #[.string t] w (RqE w (raV t).1 (raV t).2.1 (raV t).2.2.1 (raV t).2.2.2 0)):=by
 by_cases h4:400<t.size
 ·have e:raE t=2:=by
   unfold raE nmV;rw[if_pos h4]
  exact⟨fun _=>by rw[e];exact ratioOf_many t w h4,fun h=>absurd (e.symm.trans h) (by decide)⟩
 have h4':t.size≤400:=by omega
 have hnm:=nm_list t h4';have HN:=fun w1=>numeral_any t w1 h4'
 have hnn:=nu_nm (undash t).data.toList
 cases hl:nmL (undash t).data.toList with
 |none=>
  rw[hl] at hnm hnn;have e:raE t=1:=by
   unfold raE;rw[hnm]
  refine⟨fun _=> ?_,fun h=>absurd (e.symm.trans h) (by decide)⟩
  rw[e];refine ratioOf_formE t w h4' (fun w1 _=>(HN w1).mono fun z w' hz=> ?_)
  obtain⟨rfl,g,d,p,ok,hz2,hk⟩:=hz
  rcases hk with⟨-,rfl⟩| ⟨D,P,hD,-⟩
  ·exact⟨g,d,p,hz2,Below.refl _ _⟩
  ·rw[hnn] at hD
   cases hD
 |some dp=>
  obtain⟨D,P⟩:=dp;rw[hl] at hnm hnn;have HN2:yH w 29 #[.string t] (.tuple #[.bool (dash t),.string ⟨D.toArray⟩,yi P,.bool true]):=fun w1 _=>(HN w1).mono fun z w' hz=>by
   obtain⟨rfl,g,d,p,ok,hz2,hk⟩:=hz
   rcases hk with⟨hD,-⟩| ⟨D2,P2,hD,rfl,rfl,rfl,rfl⟩
   ·rw[hnn] at hD
    cases hD
   ·rw[hnn] at hD
    cases hD
    exact⟨hz2,Below.refl _ _⟩
  simp only at hnm
  by_cases hlo:P< -6000
  ·rw[if_pos (.inl hlo)] at hnm
   have e:raE t=3:=by
    unfold raE;rw[hnm]
   exact⟨fun _=>by rw[e];exact ratioOf_low _ _ t P w h4' hlo HN2,fun h=>absurd (e.symm.trans h) (by decide)⟩
  by_cases hhi:6000<P
  ·rw[if_pos (.inr hhi)] at hnm
   have e:raE t=3:=by
    unfold raE;rw[hnm]
   exact⟨fun _=>by rw[e];exact ratioOf_high _ _ t P w h4' hlo hhi HN2,fun h=>absurd (e.symm.trans h) (by decide)⟩
  rw[if_neg (fun c=>c.elim hlo hhi)] at hnm
  have e:raE t=0:=by
   unfold raE;rw[hnm]
  obtain⟨z1,z2,-,-⟩:=nmV_zero e;rw[hnm] at z1 z2;simp only at z1 z2;have hdig:=((digB_iff _).1 z2).2;refine⟨fun h=>absurd e h,fun _=> ?_⟩
  have HU:=fun w1=>tI ⟨D.toArray⟩ w1 (by omega) hdig
  have hv:raV t=nrV (dash t,⟨D.toArray⟩,P):=by
   unfold raV;rw[hnm]
  rw[hv];obtain⟨N,hN⟩: ∃N,pv ⟨D.toArray⟩ (⟨D.toArray⟩:ByteArray).size=N:=⟨_,rfl⟩;obtain⟨a,ha⟩: ∃a,a=1600:=⟨_,rfl⟩;have hNa:N<2^a:=by
   rw[←hN];exact Nat.lt_of_lt_of_le (Tb _ hdig _ (Nat.le_refl _)) (Nat.le_trans (pow10_two _) (Nat.pow_le_pow_right (by omega) (by omega)))
  have hNl:(Dg.dg 65536 N).length≤110:=UI (k:=a) (Nat.le_of_lt hNa) (by omega);unfold nrV;simp only;rw[hN] at HU⊢;have HB: ∀no nc w1,Rd w1 .i64 (yS no N nc) (Dg.dg 65536 N)→yC 32 #[ydV (dash t) (yS no N nc) 0] w1 (dr w1 (bare ⟨dash t,N,0⟩)):=fun no nc w1 hr=>iJ _ ⟨dash t,N,0⟩ w1 ⟨_,rfl,hr⟩ (by show(Dg.dg 65536 N).length≤100000;omega) (by show-1000000≤(0:Int);omega) (by show(0:Int)≤1000000;omega)
  by_cases h0:N=0
  ·subst h0
   rw[if_pos rfl];refine(ratioOf_zero 0 0 (dash t) false ⟨D.toArray⟩ t P w h4' hlo hhi HN2 HU (fun no nc w1 hr=>(HB no nc w1 hr).mono fun z w' hz=> ?_)).mono fun z w' hz=> ?_
   ·obtain⟨s,e1,r,b⟩:=hz
    obtain⟨ao,ac,rfl⟩:=r.shape;exact⟨ao,ac,e1,b⟩
   ·obtain⟨q,e1,l,b⟩:=hz
    refine⟨_,_,e1, ?_, ?_,b⟩
    ·rw[show Dg.dg 65536 0=[] from rfl]
     exact aN _ _
    ·rw[show Dg.dg 65536 1=[1] by decide]
     exact rd_one16 (l.c 0 rfl)
  ·rw[if_neg h0]
   obtain⟨x,hx⟩: ∃x,bare ⟨dash t,N,0⟩=x:=⟨_,rfl⟩;have hx2:=hx;unfold bare at hx2;rw[if_neg h0] at hx2;have xn:x.n=N/2^tz N:=by rw[←hx2]
   have xe:x.e=(tz N:Int):=by rw[←hx2];exact Int.zero_add _
   rw[hx] at HB;obtain⟨q1,q2,q3⟩:=nr_rq h0 P;rw[←xn] at q1 q2;have htz:=tz_bits h0 hNa;have hxl: ¬(Dg.dg 65536 x.n).length=0:=fun c=>by
    have:=(Dg.dg_nil_iff 65536 _ (by omega)).1 (List.length_eq_zero_iff.1 c);have ho:=(odd_of h0).1;rw[←xn,this] at ho
    cases ho
   have hxN:x.n≤N:=by rw[xn];exact Nat.div_le_self _ _
   obtain⟨c,hc⟩: ∃c,c=18000:=⟨_,rfl⟩;have h5: ∀k:Nat,k≤6000→5^k≤2^c:=fun k hk=>Nat.le_trans (pow5_two k) (Nat.pow_le_pow_right (by omega) (by omega))
   obtain⟨B,hB⟩: ∃B,x.n*5^P.toNat+5^ (-P).toNat=B:=⟨_,rfl⟩;obtain⟨A,hA⟩: ∃A,A=20000:=⟨_,rfl⟩;have hBA:B<2^A:=by
    have k1:x.n*5^P.toNat≤2^a*2^c:=Nat.mul_le_mul (Nat.le_of_lt (Nat.lt_of_le_of_lt hxN hNa)) (h5 _ (by omega));have k2:=h5 (-P).toNat (by omega);rw[←Nat.pow_add] at k1;have k3:2^ (a+c)<2^ (A-1):=Nat.pow_lt_pow_right (by omega) (by omega);have k4:2^c<2^ (A-1):=Nat.pow_lt_pow_right (by omega) (by omega);have k5:2^A=2^ (A-1)+2^ (A-1):=by
     conv=>lhs;rw[show A=A-1+1 by omega,Nat.pow_succ,Nat.mul_two]
    omega
   have hBl: ∀m,m≤B→(Dg.dg 65536 m).length≤1260:=fun m hm=>UI (k:=A) (Nat.le_of_lt (Nat.lt_of_le_of_lt hm hBA)) (by omega)
   have hew:IntKind.i64.wrap (x.e+P)=x.e+P:=IntWalk.i64_in _ ⟨by omega,by omega⟩;have:=refRatioOf_W N B x (dash t) ⟨D.toArray⟩ t P (x.e+P) w h4' hlo hhi hew hxl (hB▸Nat.le_add_right _ _) (hB▸Nat.le_add_left _ _) _ rfl HN2 HU HB
    (fun m v q w1 hm hr hq=>by
     have:=fN v _ _ _ w1 hr (rd_five hq) (Dg.small_dg _ _ (by omega)) (Dg.small_dg _ _ (by omega)) (by have:=hBl m hm;omega) (by rw[show Dg.dg 65536 5=[5] by decide];simp)
     rwa [Dg.vl_dg _ _ (by omega),Dg.vl_dg _ _ (by omega)] at this)
    (fun m v q w1 hm hr hq=>qM v _ m 5 w1 hr (rd_five hq) (by have:=hBl m hm;omega) (by rw[show Dg.dg 65536 5=[5] by decide];simp) (by omega))
   rw[q1,q2,show x.e+P=P+(tz (nrM N P).1:Int) by rw[q3,xe];omega] at this
   exact this
theorem sameRatio_any (g:Bool)(N D:Nat)(e:Int)(hN:(Dg.dg 65536 N).length≤2000)(hD:(Dg.dg 65536 D).length≤2000)(ao bo xo yo:Option Addr)(ac bc xc yc:Nat)(w:World)
  (ra:Rd w .u32 (yT ao N ac) (Dg.dg 4294967296 N)) (rb:Rd w .u32 (yT bo D bc) (Dg.dg 4294967296 D)) (rx:Rd w .i64 (yS xo N xc) (Dg.dg 65536 N)) (ry:Rd w .i64 (yS yo D yc) (Dg.dg 65536 D)):
  yC 12 #[yrV g (yT ao N ac) (yT bo D bc) e,yrV g (yS xo N xc) (yS yo D yc) e] w (yR w (.bool true)):=by
 refine sameRatio_W g N D e ao bo xo yo ac bc xc yc w ra rb rx ry (fun m o c w1 hm hr=> ?_) (fun m o c o2 c2 w1 h1 h2=> ?_)
 ·have hl:(Dg.dg 65536 m).length≤3000000:=by rcases hm with rfl|rfl<;>omega
  exact(xM _ m w1 hr hl).mono fun _ _ h=>num_nmR h
 ·have:=gM _ _ _ _ w1 h1 h2
  rwa [decide_eq_true rfl] at this
theorem textRatios_walk (t:ByteArray)(w:World)(hT:TxW w):yC 3 #[.string t] w (yR w (.bool true)):=by
 have HB:=fun w1 (h:yB w w1)=>textBegun_any w1 (hT.l h)
 by_cases he:raE t=0
 ·obtain⟨h1,h2,h3,h4⟩:=nmV_zero he
  have hin:(Dg.dg 65536 (raV t).2.1).length≤2000∧(Dg.dg 65536 (raV t).2.2.1).length≤2000:=by
   have hdig:=((digB_iff _).1 h2).2;obtain⟨a,ha⟩: ∃a,a=1600:=⟨_,rfl⟩;have hN:pv (nmV t).1.2.1 (nmV t).1.2.1.size<2^a:=Nat.lt_of_lt_of_le (Tb _ hdig _ (Nat.le_refl _)) (Nat.le_trans (pow10_two _) (Nat.pow_le_pow_right (by omega) (by omega)));unfold raV nrV
   split
   ·exact⟨by decide,by decide⟩
   ·rename_i h0
    obtain⟨m0,mlt⟩:=nrM_in (p:=(nmV t).1.2.2) h0 hN h4;have k1:=Nat.div_le_self (nrM (pv (nmV t).1.2.1 (nmV t).1.2.1.size) (nmV t).1.2.2).1 (2^tz (nrM (pv (nmV t).1.2.1 (nmV t).1.2.1.size) (nmV t).1.2.2).1);obtain⟨c,hc⟩: ∃c,c=18000:=⟨_,rfl⟩;have k2:(nrM (pv (nmV t).1.2.1 (nmV t).1.2.1.size) (nmV t).1.2.2).2≤2^c:=by
     unfold nrM
     split
     ·exact Nat.pow_pos (by omega)
     ·refine Nat.le_trans (pow5_two _) (Nat.pow_le_pow_right (by omega) ?_)
      have:=(redF_le (-(nmV t).1.2.2).toNat (pv (nmV t).1.2.1 (nmV t).1.2.1.size)).2;omega
    exact⟨UI (k:=a+18000) (Nat.le_of_lt (Nat.lt_of_le_of_lt k1 mlt)) (by omega),UI (k:=c) k2 (by omega)⟩
  exact ratios_ok (raV t).1 (raV t).2.1 (raV t).2.2.1 (raV t).2.2.2 t w (fun w1 h=>(tRatio_any t w1 (hT.l h)).1 he) (fun w1 _=>(refRatio_any t w1).2 he) HB (fun ao ac bo bc xo xc yo yc w1 _ ra rb rx ry=>sameRatio_any _ _ _ _ hin.1 hin.2 ao bo xo yo ac bc xc yc w1 ra rb rx ry)
 ·refine ratios_err (raE t) t w (fun w1 h=>(tRatio_any t w1 (hT.l h)).2 he) (fun w1 _=>(refRatio_any t w1).1 he) HB (fun w1 _=> ?_)
  exact sameRatio_any false 0 0 0 (by decide) (by decide) none none none none 0 0 0 0 w1 (aN _ _) (aN _ _) (aN _ _) (aN _ _)
end Go.Proofs.YtpgijbdgljkeeaaGreatDoor
namespace Go.Proofs.YtpgijbdgljkeeaaGreatDoor.dy
open Go.ChangeShapes Go.WideShapes Go.ChangeAt Go.RowKit Go.Joins
theorem laidOut:laidOutB Tryz.prog=true:=by kernel_rfl
theorem door_met (os:Os)(args:Array Value):laidMetH Tryz.prog Rows.textRatiosRow.laid ((World.doorLaid Tryz.prog 400 os).forCall (fun _ _=>0) ⟨#[],args,[]⟩).memory:=
 laidMetH_of_parts3 (fuel:=8) (laidMet_of_run' 8 (by kernel_rfl) (by kernel_rfl)) (by kernel_rfl) (by kernel_rfl)
theorem and_mk {a b:Bool}(ha:a=true)(hb:b=true):(a&&b)=true:=by rw[ha,hb];rfl
theorem words_cut (a r:List Char)(h: ∀c∈a,c≠Char.ofNat 32):wordsSigns (a++Char.ofNat 32::r)=a::wordsSigns r:=by
 induction a with
 |nil=>rfl
 |cons c a ih=>
  have h1:c≠Char.ofNat 32:=h c (by simp);have h2:=ih (fun x hx=>h x (by simp[hx]))
  show wordsSigns (c::(a++Char.ofNat 32::r))=_
  rw[wordsSigns]
  ·rw[h2]
  ·intro e;exact h1 e
theorem initS:Tryz.prog.initOrder= "harness" ++(" " ++("a852d428f9119d5542430a37dbc93668ed18b05fa7ff4b0deebe9d9f97c84673" ++(" " ++("cut" ++(" " ++ "at slipstick/slipsticklaw.TextRatios slipstick/slipsticklaw.TextParses slipstick/slipsticklaw.TextPrints slipstick/slipsticklaw.TextShortests slipstick/slipsticklaw.TextBack slipstick/slipsticklaw.TextNoShorter"))))):=by kernel_rfl
theorem blank:(" " :String).toList=[Char.ofNat 32]:=by decide+kernel
theorem no_blank1: ∀c∈("harness" :String).toList,c≠Char.ofNat 32:=by decide+kernel
theorem no_blank2: ∀c∈("a852d428f9119d5542430a37dbc93668ed18b05fa7ff4b0deebe9d9f97c84673" :String).toList,c≠Char.ofNat 32:=by decide+kernel
theorem no_blank3: ∀c∈("cut" :String).toList,c≠Char.ofNat 32:=by decide+kernel
theorem sum_signs:isSumSigns ("a852d428f9119d5542430a37dbc93668ed18b05fa7ff4b0deebe9d9f97c84673" :String).toList=true:=by decide+kernel
theorem words_of {P:Program}{s r:String}(h:P.initOrder= "harness" ++(" " ++(s++(" " ++("cut" ++(" " ++r))))))(hn: ∀c∈s.toList,c≠Char.ofNat 32):
  wordsSigns P.initOrder.toList=("harness" :String).toList::s.toList::("cut" :String).toList::wordsSigns r.toList:=by
 rw[h,String.toList_append,String.toList_append,String.toList_append,String.toList_append,String.toList_append,String.toList_append,blank];simp only[List.singleton_append];rw[words_cut _ _ no_blank1,words_cut _ _ hn,words_cut _ _ no_blank3]
theorem main_of {P:Program}{s:List Char}{ws:List (List Char)}(h:wordsSigns P.initOrder.toList=("harness" :String).toList::s::ws)(hs:isSumSigns s=true):P.mainIs=some (true,s):=by
 unfold Program.mainIs;rw[h];simp only[hs,Bool.not_true,Bool.false_eq_true,if_false,beq_self_eq_true,if_true]
theorem cut_gc:(("cut" :String).toList==("gc" :String).toList)=false:=by decide+kernel
theorem cut_spec:(("cut" :String).toList==("spec" :String).toList)=false:=by decide+kernel
theorem lifts_of {P:Program}{s:List Char}{ws:List (List Char)}(h:wordsSigns P.initOrder.toList=("harness" :String).toList::s::("cut" :String).toList::ws)(hs:isSumSigns s=true):P.headLifts=[]:=by
 unfold Program.headLifts;rw[behind_of h hs,strip_none _ _ _ cut_none];simp
theorem make_of {P:Program}{s:List Char}{ws:List (List Char)}(h:wordsSigns P.initOrder.toList=("harness" :String).toList::s::("cut" :String).toList::ws)(hs:isSumSigns s=true):P.make=some .cut:=by
 unfold Program.make;rw[behind_of h hs];simp only[cut_gc,cut_spec,Bool.or_self,Bool.false_eq_true,if_false,beq_self_eq_true,Bool.true_or,if_true]
theorem final_of {P:Program}{s:List Char}{ws:List (List Char)}(h:wordsSigns P.initOrder.toList=("harness" :String).toList::s::("cut" :String).toList::ws)(hs:isSumSigns s=true):P.liftsFinal=false:=by
 unfold Program.liftsFinal;rw[behind_of h hs,lifts_of h hs];have e:((some ("cut" :String).toList:Option (List Char))==some ("carried" :String).toList)=false:=by decide+kernel
 simp only[List.head?_cons,e,Bool.false_and,List.contains_nil,Bool.or_self]
theorem words_is:wordsSigns Tryz.prog.initOrder.toList=("harness" :String).toList::("a852d428f9119d5542430a37dbc93668ed18b05fa7ff4b0deebe9d9f97c84673" :String).toList::("cut" :String).toList::wordsSigns ("at slipstick/slipsticklaw.TextRatios slipstick/slipsticklaw.TextParses slipstick/slipsticklaw.TextPrints slipstick/slipsticklaw.TextShortests slipstick/slipsticklaw.TextBack slipstick/slipsticklaw.TextNoShorter" :String).toList:=words_of initS no_blank2
theorem main_is:Tryz.prog.mainIs=some (true,("a852d428f9119d5542430a37dbc93668ed18b05fa7ff4b0deebe9d9f97c84673" :String).toList):=main_of words_is sum_signs
theorem make_is:Tryz.prog.make=some .cut:=make_of words_is sum_signs
theorem final_is:Tryz.prog.liftsFinal=false:=final_of words_is sum_signs
theorem enter_is:Tryz.prog.mayEnter=true:=enter_of words_is sum_signs (by kernel_rfl) (by kernel_rfl) (by kernel_rfl)
end Go.Proofs.YtpgijbdgljkeeaaGreatDoor.dy
