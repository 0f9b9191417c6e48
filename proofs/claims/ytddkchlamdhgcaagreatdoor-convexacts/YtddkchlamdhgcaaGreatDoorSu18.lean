/-
  Texts laid together: Dz, Minus, Ref6, Gm1, Gh5, Gk2, Ce11, Ce12, Eg3, Fi6, Oq1, BlM, Cv4, Eh1, Eh4, Eh5.
-/
import Derived.Test.YtddkchlamdhgcaaGreatDoorSu13
import Derived.Test.YtddkchlamdhgcaaGreatDoorSu15
import Derived.Test.YtddkchlamdhgcaaGreatDoorSu17
set_option maxRecDepth 100000
set_option maxHeartbeats 3200000
namespace Go.Proofs.YtddkchlamdhgcaaGreatDoor
open _root_.Go.Proofs.Tryz
open Go.RowKit
theorem acz {K:Nat}{a:ak}{e:Int}(h1: -(K:Int)≤e)(h2:a.n=0∨e≤a.e):V K a=sz a.s (a.n*2^ (max 0 (a.e-e)).toNat)*((2^ (e+K).toNat:Nat):Int):=by
 rcases h2 with h2|h2
 ·rw[eV,h2,Nat.zero_mul,Nat.zero_mul];simp[sz]
 ·rw[adk h1 h2]
  have:max 0 (a.e-e)=a.e-e:=by omega
  rw[this]
theorem zx {K:Nat}{a b:ak}(ha: -(K:Int)≤a.e)(hb: -(K:Int)≤b.e):V K (cO a b)=V K a+V K b:=by
 obtain⟨e,he⟩: ∃e,(if b.n=0 then a.e else if a.n=0 then b.e else min a.e b.e)=e:=⟨_,rfl⟩
 have h0: -(K:Int)≤e:=by rw[←he];split<;>(try split)<;>omega
 have h1:a.n=0∨e≤a.e:=by
  rw[←he]
  by_cases x:b.n=0
  ·rw[if_pos x];exact .inr (Int.le_refl _)
  ·rw[if_neg x]
   by_cases y:a.n=0
   ·exact .inl y
   ·rw[if_neg y];exact .inr (Int.min_le_left _ _)
 have h2:b.n=0∨e≤b.e:=by
  rw[←he]
  by_cases x:b.n=0
  ·exact .inl x
  ·rw[if_neg x]
   by_cases y:a.n=0
   ·rw[if_pos y];exact .inr (Int.le_refl _)
   ·rw[if_neg y];exact .inr (Int.min_le_right _ _)
 rw[acz h0 h1,acz h0 h2,←Int.add_mul,Y6];unfold cO V;simp only[he]
 split
 ·rfl
 ·by_cases hle:b.n*2^ (max 0 (b.e-e)).toNat≤a.n*2^ (max 0 (a.e-e)).toNat
  ·rw[if_pos hle,if_neg (by omega)]
  ·rw[if_neg hle,if_pos (by omega)]
theorem zL (va vb:Value)(xs ys:List Nat)(w:World)(ha:Rd w .u32 va xs)(hb:Rd w .u32 vb ys)(sa:Dg.Small 4294967296 xs)(sb:Dg.Small 4294967296 ys)(hla:xs.length≤1000000)(hlb:ys.length≤xs.length)(hv:Dg.vl 4294967296 ys≤Dg.vl 4294967296 xs):
  yC 152 #[va,vb] w (Num w (Dg.vl 4294967296 xs-Dg.vl 4294967296 ys)):=by
 obtain⟨i0,hi,hz0,hz1,hz2⟩:=info_parts Tryz.infoU32;obtain⟨ao,ca,rfl,-,-,hca⟩:=ha;obtain⟨bo,cb,rfl,-,-,hcb⟩:=hb;have HV:Hid _:=hv;clear hv
 go_enter func152,ntmps152
 go_wp2_with (at_make;refine wpList_make_full _ rfl _ _ 136 rfl w.heap.size 135 i0 (.int .u32 0) 1 underlying136 hi hz0 hz1 _ _ _ _ xs.length rfl rfl (by omega) (by omega) ?b2 ?b3 (Nat.le_refl _) ?_)
 case b2=>rw[hz2];omega
 case b3=>unfold maxLen;omega
 intro w0 hown0 hgrow0;have own0:=gL hown0;have bel0:yB w w0:=(Below.refl _ _).grown hgrow0 (Nat.le_refl _) (fun k h=>by cases h)
 clear hown0 hgrow0
 go_wp2
 go_loopw [6,15] (fun cv kv wr=> ∃(k c:Nat) (ps:List Nat),k≤ys.length∧kv=yi k∧cv= .int .u32 c∧Own wr w.heap.size 135 .u32 (.slice (some ⟨w.heap.size,0,none⟩) xs.length xs.length) ps∧Z7 xs ys ps k c∧yB w wr)
  (fun _ kv _=>ys.length-(intOf kv).toNat)
 case atStart=>exact⟨0,0,_,Nat.zero_le _,rfl,rfl,own0,⟨by simp,Dg.small_replicate _ _ (by omega),by omega,by simp[Dg.vl]⟩,bel0⟩
 case round=>
  clear own0 bel0;obtain⟨k,c,ps,hkl,rfl,rfl,own,hI,bel⟩:=hrel;have hpl:=hI.1;have hcl:=hI.2.2.1
  by_cases hlt:k<ys.length
  ·obtain⟨b,off,rfl,hcell⟩:=hca (by omega)
   obtain⟨b2,off2,rfl,hcell2⟩:=hcb (by omega);have hx:=cell_later bel (hcell k (by omega));have hy:=cell_later bel (hcell2 k (by omega));have hp:=own.c k (by omega);have hf:=own.f k;have hxl:=sa k;have hyl:=sb k;obtain⟨x,ex⟩: ∃x,xs.getD k 0=x:=⟨_,rfl⟩;obtain⟨y,ey⟩: ∃y,ys.getD k 0=y:=⟨_,rfl⟩;have hst:=Jq hI (by omega) ex ey (by omega) (by omega);rw[ex] at hx hxl;rw[ey] at hy hyl;clear ex ey hcell hcell2 hca hcb
   go_wp2_with fail
   refine(zA x y c _ hxl hyl hcl).mono ?_;rintro e w' ⟨rfl,rfl⟩
   go_wp2
   go_roundw
   case rel=>exact⟨k+1,_,_,by omega,by go_num,rfl,own.store k _,hst,bel.setCell (by exact Nat.le_refl _) _⟩
   case measure=>simp[intOf];omega
  ·have hk:k=ys.length:=by omega
   subst hk
   go_wp2
   go_loopw [6,9] (fun cv kv wr=> ∃(k c:Nat) (ps:List Nat),ys.length≤k∧k≤xs.length∧kv=yi k∧cv= .int .u32 c∧Own wr w.heap.size 135 .u32 (.slice (some ⟨w.heap.size,0,none⟩) xs.length xs.length) ps∧Z7 xs ys ps k c∧yB w wr)
    (fun _ kv _=>xs.length-(intOf kv).toNat)
   case atStart=>exact⟨ys.length,c,ps,Nat.le_refl _,by omega,rfl,rfl,own,hI,bel⟩
   case round=>
    clear own hI bel hpl hcl;obtain⟨k,c,ps,hky,hkl,rfl,rfl,own,hI,bel⟩:=hrel;have hpl:=hI.1;have hcl:=hI.2.2.1
    by_cases hlt:k<xs.length
    ·obtain⟨b,off,rfl,hcell⟩:=hca (by omega)
     have hx:=cell_later bel (hcell k (by omega));have hp:=own.c k (by omega);have hf:=own.f k;have hxl:=sa k;obtain⟨x,ex⟩: ∃x,xs.getD k 0=x:=⟨_,rfl⟩;have hst:=Jq hI (by omega) ex (Dg.getD_of_le ys k hky) (by omega) (by omega);rw[ex] at hx hxl;clear ex hcell hca hcb
     go_wp2_with fail
     refine(zA x 0 c _ hxl (by omega) hcl).mono ?_;rintro e w' ⟨rfl,rfl⟩
     go_wp2
     go_roundw
     case rel=>exact⟨k+1,_,_,by omega,by omega,by go_num,rfl,own.store k _,hst,bel.setCell (by exact Nat.le_refl _) _⟩
     case measure=>simp[intOf];omega
    ·have hk:k=xs.length:=by omega
     subst hk;have hen:=Z8 hI (by omega) HV.out;have rd:=own.rd
     go_wp2_with fail
     refine(jD _ _ _ _ _ rd).mono ?_;rintro e w' ⟨m,rfl,hm,rfl⟩;have ht:=jW 4294967296 (by omega) own hI.2.1 hm;rw[hen] at ht;clear rd hen own
     go_wp2
     go_ret
     exact⟨_,rfl,ht,bel⟩
theorem Ft (va:Value)(xs:List Nat)(n wh pt P Q:Nat)(w:World)(ha:Rd w .i64 va xs)(sa:Dg.Small 65536 xs)(hla:xs.length≤1000000)(hn:n=16*wh+pt)(hpt:pt<16)(hnl:n≤100000000)(hP:P=2^pt)(hQ:Q=2^ (16-pt)):
  yC 25 #[va,yi n] w (cG w (Dg.vl 65536 xs/2^n)):=
 (MD va xs n wh pt P Q w ha sa hla hn hpt hnl hP hQ).mono fun _ _ ⟨v,h1,h2,_,h3⟩=>⟨v,h1,h2,h3⟩
theorem xx (R D k:Int)(N M:Nat)(E:Int)(h1:1≤D)(hN:N≠0)(hM:M≠0):
  bitLen (eZ N (E-(ai R:Int)*k)/dX M (E-(ai R:Int)*k))<ai R*(D-1).toNat+1↔aT R D (dY N M E)<k:=by
 rw[pP,BD N M _ _ hN hM,qD N M E];unfold aT;obtain⟨t,ht⟩: ∃t,dY N M 0=t:=⟨_,rfl⟩;rw[ht];unfold ai
 split<;>simp<;>omega
theorem rP (R D L:Int)(gr:Bool)(N M:Nat)(E:Int)(h1:1≤D)(hN:N≠0)(hM:M≠0):cH R D L gr N M E<2^ (ai R*D.toNat):=by
 refine Nat.lt_of_not_le fun c=> ?_
 unfold cH shP at c;rw[BD N M _ _ hN hM] at c;have hc:aT R D (dY N M E)≤dj R D L gr N M E:=by
  unfold dj
  by_cases h:(decide (aT R D (dY N M E)<L)&&gr)=true
  ·rw[if_pos h]
   have:=of_decide_eq_true (Bool.and_eq_true_iff.1 h).1;omega
  ·rw[if_neg h]
   exact Int.le_refl _
 obtain⟨k,hk⟩: ∃k,dj R D L gr N M E=k:=⟨_,rfl⟩;rw[hk] at c hc;rw[qD] at hc;obtain⟨t,ht⟩: ∃t,dY N M 0=t:=⟨_,rfl⟩;rw[ht] at c hc;unfold aT ai at hc;unfold ai at c
 split at c<;>simp_all<;>omega
theorem Vf (R D L:Int)(gr:Bool)(N M:Nat)(E:Int)(h1:1≤D)(hN:N≠0)(hM:M≠0)(h:dj R D L gr N M E=aT R D (dY N M E)):0<cH R D L gr N M E:=by
 have h2: ¬bitLen (cH R D L gr N M E)<ai R*(D-1).toNat+1:=by
  unfold cH shP;rw[h,xx R D _ N M E h1 hN hM];omega
 have:cH R D L gr N M E≠0:=by
  intro c;rw[c] at h2;simp at h2;rw[gP] at h2;omega
 omega
theorem Ga (R D L:Int)(gr:Bool)(N M:Nat)(E:Int)(h1:1≤D)(hN:N≠0)(hM:M≠0):ai R*D.toNat<bitLen (cH R D L gr N M E+1)↔cH R D L gr N M E+1=2^ (ai R*D.toNat):=by
 have h:=rP R D L gr N M E h1 hN hM;have h2:=pP (cH R D L gr N M E+1) (ai R*D.toNat);omega
def Zo (xs:List Nat)(e R D L G:Int)(gr:Bool):Nat:=if onC (aS xs e) (bk R D L G)=0 then fD R D L G gr (Dg.vl 4294967296 xs) e else 0
def Zp (xs:List Nat)(e R D L G:Int)(gr:Bool):Int:=if onC (aS xs e) (bk R D L G)=0 then fK R D L G gr (Dg.vl 4294967296 xs) e else 0
theorem lU {n:Nat}(h:n≠0)(E:Int):dY n 1 E=(bitLen n:Int)-1+E:=by
 obtain⟨b1,b2,b3⟩:=uB n h;have t1:=(BC n 1 0 (bitLen n-1) h (by omega)).1 (by simpa using b2);have t2: ¬((bitLen n:Nat):Int)≤dY n 1 0+((0:Nat):Int):=fun c=>by
  have:=(BC n 1 0 (bitLen n) h (by omega)).2 c;simp at this;omega
 rw[qD];omega
def enH (k:Nat)(t:ak):Bool:=um (Dg.dg 4294967296 t.n) t.e (rdN k) (dgN k) (lsI k) (gsI k) (decide (k≤3))
def enE (k:Nat)(ng:Bool)(xs:List Nat)(p:Int):Int:=
 if p< -20000∨20000<p then 3 else if xs.length=0 then 4 else if(enN k ng xs p).2=0∧enH k (enN k ng xs p).1=true then 0 else 4
def gI (n c:Int)(ng:Bool)(xs:List Nat)(p:Int):Int:=
 if dK n=0∨c<1∨5<c then 6 else if chk xs≠0 then chk xs else if c=2 then enE n.toNat ng xs p else qX n.toNat c.toNat xs.length ng p
theorem AW {k:Nat}{ng:Bool}{xs:List Nat}{p:Int}(hx:chk xs=0)(hl:xs.length≠0)(hp: ¬(p< -20000∨20000<p))(sa:Dg.Small 4294967296 xs)(hE:enE k ng xs p=0):
  (enN k ng xs p).1=bare ⟨ng,Dg.vl 4294967296 xs,(ai (rdN k):Int)*p⟩∧(Dg.dg 65536 (bare ⟨ng,Dg.vl 4294967296 xs,(ai (rdN k):Int)*p⟩).n).length≤20000∧ -79000≤(bare ⟨ng,Dg.vl 4294967296 xs,(ai (rdN k):Int)*p⟩).e∧(bare ⟨ng,Dg.vl 4294967296 xs,(ai (rdN k):Int)*p⟩).e≤200000:=by
 have h2:(enN k ng xs p).2=0:=by
  refine Decidable.byContradiction fun c=> ?_
  unfold enE at hE;rw[if_neg hp,if_neg hl,if_neg (fun h=>c h.1)] at hE
  omega
 have hr:=wI (show cC (ix xs p (rdN k) (dgN k) (lsI k) (gsI k)) ⟨ng,Dg.vl 4294967296 xs,(ai (rdN k):Int)*p⟩=((enN k ng xs p).1,0) from Prod.ext rfl h2)
 have hd:=hr.2;rw[hr.1] at hd;obtain⟨-,e1,e2⟩:=bL hd;have hb:=AE (t:=⟨ng,Dg.vl 4294967296 xs,(ai (rdN k):Int)*p⟩) (JN hx hl);have hl2:=KN sa (aF hx).2;refine⟨hr.1,Nat.le_trans hb.1 ?_,by omega,by omega⟩
 show(Dg.dg 65536 (Dg.vl 4294967296 xs)).length≤20000
 omega
theorem RVG.near {w:World}{c:Int}{g:Bool}{t:ak}{fl:Int}{z:Ending}{w':World}(h:RVG w c g t fl z w'):RVF w c g t fl z w':=by
 obtain⟨s,h1,h2,-,h3⟩:=h;exact⟨s,h1,h2,h3⟩
theorem tg.snoc {w:World}{n:Int}{g:Option Nat}{p:ByteArray}{v:Value}(hv:Gw w n g p v): ∀{ps:List ByteArray} {cs:List Value},tg w n g ps cs→tg w n g (ps++[p]) (cs++rfC n p v)
 | [],cs,hc=>by
  have:cs=[]:=hc;subst this;exact⟨v,[],by simp,hv,rfl⟩
 |q::_,_,hc=>by
  obtain⟨u,rest,h1,h2,h3⟩:=hc;subst h1;exact⟨u,rest++rfC n p v,by simp,h2,tg.snoc hv h3⟩
def Ri (w:World)(n:Int)(ps:List ByteArray)(e:Int)(z:Ending)(w':World):Prop:=
 (e=0∧ ∃v cs,z= .returned (.tuple #[v,yi 0])∧w'.ownsRow w.heap.size 32 5 v ps.length cs∧tg w' n v.ownBlock ps cs∧yB w w')∨
 (e≠0∧z= .returned (.tuple #[yN,yi e])∧yB w w')
theorem SL {w:World}{n:Int}{g:Option Nat}: ∀{ps:List ByteArray} {cs:List Value} {i:Nat} {p:ByteArray},tg w n g ps cs→ps[i]? =some p→ ∃v,Gw w n g p v∧ ∀j u,(rfC n p v)[j]? =some u→cs[5*i+j]? =some u
 | [],_,_,_,_,hp=>by simp at hp
 |q::ps,cs,0,p,hc,hp=>by
  obtain⟨v,rest,h1,h2,h3⟩:=hc;have:q=p:=by simpa using hp
  subst this;refine⟨v,h2,fun j u hj=> ?_⟩
  subst h1;rw[List.getElem?_append_left]
  ·simpa using hj
  ·have:=(List.getElem?_eq_some_iff.1 hj).1
   omega
 |q::ps,cs,i+1,p,hc,hp=>by
  obtain⟨v,rest,h1,h2,h3⟩:=hc;obtain⟨u,h4,h5⟩:=SL h3 (by simpa using hp);refine⟨u,h4,fun j x hj=> ?_⟩
  subst h1;rw[List.getElem?_append_right (by simp[rfC];omega)];have:=h5 j x hj;rw[show 5*(i+1)+j-(rfC n q v).length=5*i+j from by simp[rfC];omega]
  exact this
theorem ab6 {w:World}{n:Int}{ps:List ByteArray}{base:Nat}{v:Value}{cs:List Value}(h0:ps≠[])(ho:w.ownsRow base 32 5 v ps.length cs)(hat:tg w n v.ownBlock ps cs):
  ∃g cap,v= .slice (some ⟨g,0,none⟩) ps.length cap∧ab5 w n ps g cap:=by
 rcases ho.2 with⟨-,h⟩| ⟨g,cap,cur,hv,-,-,h1,h2,-,-⟩
 ·exact absurd (List.eq_nil_of_length_eq_zero h) h0
 ·refine⟨g,cap,hv,h1,h2,fun i p hp=> ?_⟩
  obtain⟨u,⟨⟨so,sc,rfl⟩,k2,k3⟩,k4⟩:=SL hat hp;refine⟨so,sc,fun j x hj=> ?_,k2⟩
  have:=ho.cells (g:=g) (by rw[hv];rfl) (5*i+j) x (k4 j x hj);rw[Addr.add_mid,Nat.zero_add] at this;rw[Nat.mul_comm i 5];exact this
theorem Z0 {K:Nat}{a b:ak}(ha: -(K:Int)≤a.e)(hb: -(K:Int)≤b.e):dJ (bare (cO a (dB b)))=sgn (V K a-V K b):=by
 have hm: -(K:Int)≤(dB b).e:=hb;rw[Jl K,dw (zy ha hm),zx ha hm,EI]
 congr 1
theorem fam_any (k:Int)(w:World):yC 51 #[yi k] w (yR w (yi (dK k))):=
 (jk k w).mono (fun z w' h=>⟨h.1,by rw[h.2];exact Below.refl _ _⟩)
theorem dys_get {w:World}{g:Option Nat}: ∀{ts:List ak} {cs:List Value} {i:Nat} {t:ak},DysAt w g ts cs→ts[i]? =some t→ ∃so sc,RowAt w g (yT so t.n sc) (Dg.dg 4294967296 t.n)∧ ∀j u,(dyC t (yT so t.n sc))[j]? =some u→cs[3*i+j]? =some u
 | [],_,_,_,_,hp=>by simp at hp
 |q::ts,cs,0,t,hc,hp=>by
  obtain⟨so,sc,rest,h1,h2,h3⟩:=hc;have:q=t:=by simpa using hp
  subst this;refine⟨so,sc,h2,fun j u hj=> ?_⟩
  subst h1;rw[List.getElem?_append_left]
  ·simpa using hj
  ·have:=(List.getElem?_eq_some_iff.1 hj).1
   omega
 |q::ts,cs,i+1,t,hc,hp=>by
  obtain⟨so,sc,rest,h1,h2,h3⟩:=hc;obtain⟨so',sc',h4,h5⟩:=dys_get h3 (by simpa using hp);refine⟨so',sc',h4,fun j x hj=> ?_⟩
  subst h1;rw[List.getElem?_append_right (by simp[dyC];omega)];have:=h5 j x hj;rw[show 3*(i+1)+j-(dyC q (yT so q.n sc)).length=3*i+j from by simp[dyC];omega]
  exact this
theorem dysV_of {w:World}{base:Nat}{ts:List ak}{v:Value}(h0:ts≠[])(h:HdI base ts v w): ∃g cap,v= .slice (some ⟨g,0,none⟩) ts.length cap∧DysV w ts g cap:=by
 obtain⟨cs,ho,hat⟩:=h
 rcases ho.2 with⟨-,h⟩| ⟨g,cap,cur,hv,-,-,h1,h2,-,-⟩
 ·exact absurd (List.eq_nil_of_length_eq_zero h) h0
 ·refine⟨g,cap,hv,h1,h2,fun i t ht=> ?_⟩
  obtain⟨so,sc,⟨k2,-⟩,k4⟩:=dys_get hat ht;refine⟨so,sc,fun j x hj=> ?_,k2⟩
  have:=ho.cells (g:=g) (by rw[hv];rfl) (3*i+j) x (k4 j x hj);rw[Addr.add_mid,Nat.zero_add] at this;rw[Nat.mul_comm i 3];exact this
theorem exact_1 (k j er:Int)(w:World)(he: ¬er=0)
  (HA:yJ 43 #[yi k] (.tuple #[ygV 0 0 0 0 false,yi er])):
  yC 17 #[yi k,yi j] w (yR w (.tuple #[.bool false,yi er])):=by
 replace HA:Hid _:=HA
 go_enter func17,ntmps17
 have b0:=Below.refl w.heap.size w
 go_wp2_with fail
 refine(HA.out _).mono ?_;rintro zz w1 ⟨rfl,bb2⟩;have b3:=aa b0 bb2;clear b0 bb2 HA;obtain⟨W6,hW5,q7,al4⟩:=cA w1 (ygL 0 0 0 0 false) 40;replace hW5:Hid _:=hW5;have hl8:w.heap.size≤w1.heap.size:=b3.size;have b9:=aa b3 al4;clear b3 al4 q7
 go_upto_region 2 with fail
 rw[hW5.out];clear hW5
 go_wp2
 go_ret2
 exact⟨by simp,b9⟩
theorem exact_2 (k j er Ra Da La Ga:Int)(gra:Bool)(w:World)(he: ¬er=0)
  (HA:yJ 43 #[yi k] (.tuple #[ygV Ra Da La Ga gra,yi 0]))
  (HB:yJ 43 #[yi j] (.tuple #[ygV 0 0 0 0 false,yi er])):
  yC 17 #[yi k,yi j] w (yR w (.tuple #[.bool false,yi er])):=by
 replace HA:Hid _:=HA;replace HB:Hid _:=HB
 go_enter func17,ntmps17
 have b0:=Below.refl w.heap.size w
 go_wp2_with fail
 refine(HA.out _).mono ?_;rintro zz w1 ⟨rfl,bb2⟩;have b3:=aa b0 bb2;clear b0 bb2 HA;obtain⟨W6,hW5,q7,al4⟩:=cA w1 (ygL Ra Da La Ga gra) 40;replace hW5:Hid _:=hW5;have hl8:w.heap.size≤w1.heap.size:=b3.size;have b9:=aa b3 al4;clear b3 al4 q7
 go_upto_region 2 with fail
 rw[hW5.out];clear hW5
 go_wp2_with fail
 refine(HB.out _).mono ?_;rintro zz w10 ⟨rfl,bb11⟩;have b12:=aa b9 bb11;clear b9 bb11 HB;obtain⟨W15,hW14,q16,al13⟩:=cA w10 (ygL 0 0 0 0 false) 40;replace hW14:Hid _:=hW14;have hl17:w.heap.size≤w10.heap.size:=b12.size;have b18:=aa b12 al13;clear b12 al13 q16
 go_upto_region 5 with fail
 rw[hW14.out];clear hW14
 go_wp2
 go_ret2
 exact⟨by simp,b18⟩
def hdB8 (j:Nat)(t:ak):Bool:=dA (rdN j) (dgN j) (lsI j) (gsI j) (decide (j≤3)) t.n t.e
def exB (k j:Nat):Bool:=(hdL k).all (hdB8 j)
theorem hd_fine {k:Nat}(hk:1≤k∧k≤8):(hdL k).all (fun t=>aS (Dg.dg 4294967296 t.n) t.e==0)=true∧hdL k≠[]:=by
 rcases bO hk with rfl|rfl|rfl|rfl|rfl|rfl|rfl|rfl<;>exact⟨by kernel_rfl,fun c=>by cases c⟩
theorem ex_is {k j:Nat}(hk:1≤k∧k≤8)(hj:1≤j∧j≤8):exB k j=exP k j:=by
 rcases bO hk with rfl|rfl|rfl|rfl|rfl|rfl|rfl|rfl
 all_goals
  rcases bO hj with rfl|rfl|rfl|rfl|rfl|rfl|rfl|rfl
  all_goals kernel_rfl
theorem exact_holds {k j:Nat}(hk:1≤k∧k≤8)(hj:1≤j∧j≤8)(h:exB k j=true)(n:Nat)(e:Int)(hh:dA (rdN k) (dgN k) (lsI k) (gsI k) (decide (k≤3)) n e=true):dA (rdN j) (dgN j) (lsI j) (gsI j) (decide (j≤3)) n e=true:=by
 by_cases h0:n=0
 ·exact decide_eq_true (.inl h0)
 have htz:(tz n:Int)≤(bitLen n:Int)-1:=by
  obtain⟨-,t2,t3⟩:=gN (t:=⟨false,n,0⟩) h0;have b1:=(gN (t:=⟨false,n,0⟩) h0).1;have:=Gq b1;simp only at t2 t3;omega
 unfold dA at hh⊢;rw[decide_eq_true_eq] at hh⊢;refine .inr ?_;replace hh:=hh.resolve_left h0;unfold cP aT at hh⊢;generalize(tz n:Int)=z at*;generalize(bitLen n:Int)=b at*;rw[ex_is hk hj] at h
 rcases bO hk with rfl|rfl|rfl|rfl|rfl|rfl|rfl|rfl
 all_goals
  rcases bO hj with rfl|rfl|rfl|rfl|rfl|rfl|rfl|rfl
  all_goals first
   |exact absurd h (by decide)
   | (clear h;simp[rdN,dgN,lsI,gsI,ai] at hh⊢;omega)
   | (clear h;simp[rdN,dgN,lsI,gsI,ai] at hh⊢;split at hh<;>first|omega| (split<;>omega))
end Go.Proofs.YtddkchlamdhgcaaGreatDoor
