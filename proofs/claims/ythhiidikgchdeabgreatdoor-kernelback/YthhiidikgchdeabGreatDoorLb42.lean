/- Texts laid together. -/
import Derived.Test.YthhiidikgchdeabGreatDoorLb35
import Derived.Test.YthhiidikgchdeabGreatDoorLb36
import Derived.Test.YthhiidikgchdeabGreatDoorLb37
import Derived.Test.YthhiidikgchdeabGreatDoorLb38
set_option maxRecDepth 100000
set_option maxHeartbeats 3200000
namespace Go.Proofs.YthhiidikgchdeabGreatDoor
open _root_.Go.Proofs.Tryz
open Go.RowKit
theorem acz {K:Nat}{a:ak}{e:Int}(c: -(K:Int)≤e)(b:a.n=0∨e≤a.e):V K a=sz a.s (a.n*2^ (max 0 (a.e-e)).toNat)*((2^ (e+K).toNat:Nat):Int):=by
 rcases b with b|b
 ·rw[eV,b,Nat.zero_mul,Nat.zero_mul];simp[sz]
 ·rw[adk c b]
  have:max 0 (a.e-e)=a.e-e:=by omega
  rw[this]
theorem gM (D E:Value)(xs a:List Nat)(w:World)(H:Rd w .u32 D xs)(I:Rd w .u32 E a):
  yC 52 #[D,E] w (yR w (.bool (decide (xs=a)))):=by
 obtain⟨Q,T,rfl,J,K,m⟩:=H;obtain⟨S,U,rfl,X,L,u⟩:=I;unfold maxLen at K L;obtain⟨r,f⟩: ∃r,decide (xs=a)=r:=⟨_,rfl⟩;rw[f]
 by_cases d:xs.length=a.length
 ·have s:Hid _:=f
  have q:Hid _:=d;rw[d] at J m⊢;clear f d
  go_enter func52,ntmps52
  go_wp2
  go_loopw [5] (fun p wr=> ∃k:Nat,k≤a.length∧p=yi k∧Hid (∀j,j<k→xs.getD j 0=a.getD j 0)∧yB w wr) (fun p _=>a.length-(intOf p).toNat)
  case atStart=>exact⟨0,Nat.zero_le _,rfl,fun j n=>by omega,Below.refl _ _⟩
  case round=>
   obtain⟨k,W,rfl,t,c⟩:=hrel
   by_cases B:k<a.length
   ·obtain⟨b,Y,rfl,v⟩:=m (by omega)
    obtain⟨R,Z,rfl,z⟩:=u (by omega);have O:=cell_later c (v k B);have P:=cell_later c (z k B);have g:xs.getD k 0≠a.getD k 0→decide (xs=a)=false:=fun h=>by
     rw[decide_eq_false];intro e;rw[e] at h;exact h rfl
    rw[s.out] at g;obtain⟨x,i⟩: ∃x,xs.getD k 0=x:=⟨_,rfl⟩;obtain⟨y,l⟩: ∃y,a.getD k 0=y:=⟨_,rfl⟩;have F:Hid _:=i;have G:Hid _:=l;rw[i] at O g;rw[l] at P g;clear i l v z m u
    by_cases C:x=y
    ·subst C
     clear g
     go_wp2
     go_quiet (fail)
     go_wp2
     go_roundw
     case rel=>exact⟨k+1,by omega,by go_num,fun j n=>by
      by_cases e:j=k
      ·rw[e];exact F.out.trans G.out.symm
      ·exact t j (by omega),aL c _⟩
     case measure=>simp[intOf];omega
    ·have o:=g C
     subst o;have M:((x:Int) != (y:Int))=true:=by rw[bne_iff_ne];omega
     go_wp2
     go_quiet (fail)
     go_wp2
     go_ret
     exact⟨rfl,aL c _⟩
   ·have A:xs=a:=Dg.eq_of_all xs a q.out (fun j=>by
     by_cases n:j<k
     ·exact t j n
     ·rw[Dg.getD_of_le xs j (by rw[q.out];omega),Dg.getD_of_le a j (by omega)])
    have N:r=true:=by rw[←s.out];exact decide_eq_true A
    subst N;clear A
    go_wp2
    go_ret
    exact⟨rfl,c⟩
 ·have o:r=false:=by rw[←f];apply decide_eq_false;intro e;rw[e] at d;exact d rfl
  subst o;clear f;have M:((xs.length:Int) != (a.length:Int))=true:=by rw[bne_iff_ne];omega
  go_enter func52,ntmps52
  go_wp2
  go_ret
  exact⟨rfl,Below.refl _ _⟩
theorem sE {t u:ak}(h:bare t=bare u):bU t=bU u:=by unfold bU;rw[h]
theorem Nr {x y:Nat}(h:x≤y):bitLen x≤bitLen y:=bF x _ (Nat.lt_of_le_of_lt h (bitLen_spec y).1)
theorem ada (k:Nat):tz (2^k)=k:=F8 (m:=0) (by simp)
theorem Bx (A:ak)(b:Int)(up:Bool)(g:1≤b):(bitLen (bare (aY A b up)).n:Int)≤b:=by
 rcases mX A b up g with⟨f,a⟩| ⟨j,q,_,_,_,_,_,_,l,m,_,a⟩
 ·rw[a];exact f
 ·rw[a]
  have i: ∀x:Nat,x≤2^b.toNat→ ∀s e,(bitLen (bare ⟨s,x,e⟩).n:Int)≤b:=fun x o s e=>by
   rcases Nat.lt_or_ge x (2^b.toNat) with h|h
   ·have c:=Nr (FW ⟨s,x,e⟩)
    have k:=bF x _ h;simp only at c;omega
   ·have d:x=2^b.toNat:=by omega
    have c:(bare ⟨s,x,e⟩).n=1:=by
     unfold bare;simp only;rw[if_neg (by rw[d];exact Nat.pos_iff_ne_zero.1 (Nat.pow_pos (by omega)))];simp only;rw[d,ada,Nat.div_self (Nat.pow_pos (by omega))]
    rw[c];have:bitLen 1≤1:=bF 1 1 (by omega);omega
  refine i _ ?_ _ _
  split<;>omega
theorem mi (A:ak)(b:Int)(up:Bool)(c:1≤b):(bare (aY A b up)).n<2^b.toNat:=by
 have d:=Bx A b up c;have a:=(bitLen_spec (bare (aY A b up)).n).1;exact Nat.lt_of_lt_of_le a (Nat.pow_le_pow_right (by omega) (by omega))
def du (x:Nat→ak)(m:Nat)(n:Int):ak×ak×Int:=iD (bU (aY (loT x (m-1)) n false)) (bU (aY (hiT x (m-1)) n true))
def rf (R D L:Int)(gr qs:Bool)(N M:Nat)(E way:Int):Bool:=
 gY way (dm ((gF R D L gr N M E*2:Nat):Int) ((dX M (shP R D L gr N M E):Nat):Int)) (decide (cH R D L gr N M E % 2=1)) qs
def fM (R D L:Int)(gr qs:Bool)(N M:Nat)(E way:Int):Nat:=
 if decide (gF R D L gr N M E=0)=false∧rf R D L gr qs N M E way=true then cH R D L gr N M E+1 else cH R D L gr N M E
def cI (R D L G:Int)(gr qs:Bool)(N M:Nat)(E way:Int):fz:=
 if fM R D L gr qs N M E way=0 then⟨qs,0,0,decide (gF R D L gr N M E=0),false,decide (aT R D (dY N M E)<L)⟩
 else⟨qs,io R D (fM R D L gr qs N M E way),gD R D (fM R D L gr qs N M E way) (dj R D L gr N M E),decide (gF R D L gr N M E=0),decide (G<gD R D (fM R D L gr qs N M E way) (dj R D L gr N M E)),decide (aT R D (dY N M E)<L)⟩
def df (xs ys:List Nat)(E R D L G:Int)(gr qs:Bool)(way:Int):fz:=
 if eE xs ys E R D L G way=0 then(if xs.length=0 then⟨false,0,0,true,false,false⟩ else cI R D L G gr qs (Dg.vl 4294967296 xs) (Dg.vl 4294967296 ys) E way) else oI
theorem uh (R D L:Int)(gr:Bool)(N M:Nat)(E:Int)(a:1≤D)(c:N≠0)(b:M≠0)(p:Int):io R D (cH R D L gr N M E)=cH R D L gr N M E∧gD R D (cH R D L gr N M E) p=p:=by
 have h:=rP R D L gr N M E a c b;unfold io gD;rw[if_neg (by omega),if_neg (by omega)];exact⟨rfl,rfl⟩
theorem KL (R D L:Int)(gr qs:Bool)(N M:Nat)(E way:Int):cH R D L gr N M E≤fM R D L gr qs N M E way:=by
 unfold fM
 split<;>omega
theorem kJ {R D L G:Int}(gr qs:Bool)(N M:Nat)(E way:Int)(b:1≤D)(j:L≤G)(f:N≠0)(d:M≠0):
  cI R D L G gr qs N M E way=⟨qs,io R D (fM R D L gr qs N M E way),if io R D (fM R D L gr qs N M E way)=0 then 0 else gD R D (fM R D L gr qs N M E way) (dj R D L gr N M E),decide (gF R D L gr N M E=0),decide (G<gD R D (fM R D L gr qs N M E way) (dj R D L gr N M E)),decide (aT R D (dY N M E)<L)⟩:=by
 unfold cI
 by_cases a:fM R D L gr qs N M E way=0
 ·have i:cH R D L gr N M E=0:=by
   have:=KL R D L gr qs N M E way;omega
  have h:dj R D L gr N M E=L:=by
   refine Decidable.byContradiction fun c=> ?_
   have e:dj R D L gr N M E=aT R D (dY N M E):=by
    unfold dj at c⊢
    split at c
    ·exact absurd rfl c
    ·rw[if_neg (by assumption)]
   have:=Vf R D L gr N M E b f d e;omega
  have g:=uh R D L gr N M E b f d (dj R D L gr N M E);rw[if_pos a,a,if_pos ((CD R D 0).2 rfl),(CD R D 0).2 rfl];rw[i] at g;rw[g.2,h,decide_eq_false (show¬G<L by omega)]
 ·rw[if_neg a,if_neg (fun c=>a ((CD R D _).1 c))]
theorem tO (R D L G:Int)(gr:Bool)(e:Int):dA R D L G gr 0 e=true:=decide_eq_true (.inl rfl)
def dR (xs ys:List Nat)(E R D L G:Int)(gr qs:Bool)(way:Int):Bool:=
 !decide (eE xs ys E R D L G way=0)||(df xs ys E R D L G gr qs way).ov||((df xs ys E R D L G gr qs way).un&& !gr)
def iu (xs ys:List Nat)(E R D L G:Int)(gr qs:Bool)(way:Int):ak:=
 if dR xs ys E R D L G gr qs way=true then⟨false,0,0⟩ else bare ⟨(df xs ys E R D L G gr qs way).s,(df xs ys E R D L G gr qs way).d,(ai R:Int)*(df xs ys E R D L G gr qs way).p⟩
theorem kN {xs a:List Nat}{E R D L G:Int}{gr qs:Bool}{way:Int}(h:dR xs a E R D L G gr qs way=false):eE xs a E R D L G way=0∧(df xs a E R D L G gr qs way).ov=false∧((df xs a E R D L G gr qs way).un=false∨gr=true):=by
 unfold dR at h;simp only[Bool.or_eq_false_iff,Bool.and_eq_false_iff,Bool.not_eq_false',decide_eq_true_iff] at h;exact⟨h.1.1,h.1.2,h.2⟩
theorem short_is {t:ak}{b:Nat}(f:b≤1000)(a:(bare t).n<2^b)(c: -20000≤(bare t).e)(d:(bare t).e≤20000):bU t=(bare t,0):=by
 unfold bU;have g:(Dg.dg 4294967296 (bare t).n).length≤32:=jq a (by omega);rw[if_neg (by omega),if_neg (by omega)]
theorem snarrow9 (v:Value)(a b:ak)(n:Nat)(w:World)(J:SpanV w v a b)(j:Fit9 a)(m:Fit9 b)(F:0<qT a)(P:qT b-qT a≤p2 (-(n:Int))*qT a)(Q:qT a≤qT b)(R:n≤10000):
  yC 58 #[v,yi n] w (yR w (.bool true)):=by
 obtain⟨q,r⟩:=pos_sign F;obtain⟨h,s⟩:=pos_sign (show 0<qT b by grind)
 obtain⟨t,u,rfl,i,k⟩:=J;obtain⟨A,z,rfl⟩:=i.shape;obtain⟨E,D,rfl⟩:=k.shape;obtain⟨N,x,y⟩:=j.all;obtain⟨O,B,C⟩:=m.all;obtain⟨S,e,d⟩:=a;obtain⟨T,bn,g⟩:=b;simp only at q h r s i k N O x y B C;subst q h;have K:RgT 2000000000 2000000000 (aG ⟨false,bn,g⟩ (dV ⟨false,e,d⟩)):=(RgT.plus m j.neg).mono (by omega) (by omega);have M:RgT 2000000000 2000000000 (upT ⟨false,e,d⟩ (-(n:Int))):=(j.up (-(n:Int))).mono (by omega) (by omega);have H:bJ (aG ⟨false,bn,g⟩ (dV ⟨false,e,d⟩)) (upT ⟨false,e,d⟩ (-(n:Int)))≤0:=by
  rcases Int.lt_or_le 0 (bJ (aG ⟨false,bn,g⟩ (dV ⟨false,e,d⟩)) (upT ⟨false,e,d⟩ (-(n:Int)))) with c|c
  ·rw[cmp_gt,qT_up,qT_plus,qT_neg] at c
   exfalso
   grind
  ·exact c
 have t:dJ ⟨false,e,d⟩=1:=by unfold dJ;rw[if_neg r];rfl
 have u:dJ ⟨false,bn,g⟩=1:=by unfold dJ;rw[if_neg s];rfl
 have I:IntKind.i64.wrap (d+ -(n:Int))=d+ -(n:Int):=IntWalk.i64_in _ ⟨by omega,by omega⟩;refine narrow_W ⟨false,e,d⟩ ⟨false,bn,g⟩ A E z D _ n (-(n:Int)) (d+ -(n:Int)) _ w i (IntWalk.i64_in _ ⟨by omega,by omega⟩) H
  (fun f h=>signs_pos ⟨false,e,d⟩ ⟨false,bn,g⟩ _ _ _ _ f (fun p o=> ?_) (fun p o=> ?_))
  (fun f h=>dminus9 _ _ ⟨false,bn,g⟩ ⟨false,e,d⟩ f ⟨_,rfl,k.l h⟩ ⟨_,rfl,i.l h⟩ m j)
  (fun f=>dsize_W ⟨false,e,d⟩ _ _ f) (fun f=>dscaled_W _ _ _ _ _ _ _ f I)
  (fun W U f _ L G=>dcmp9 _ _ _ (upT ⟨false,e,d⟩ (-(n:Int))) f ⟨_,rfl,L⟩ ⟨_,rfl,G⟩ K M)
 ·have:=qB _ ⟨false,e,d⟩ p ⟨_,rfl,(i.l h).l o⟩
  rwa [t] at this
 ·have:=qB _ ⟨false,bn,g⟩ p ⟨_,rfl,(k.l h).l o⟩
  rwa [u] at this
theorem mI {R D L G:Int}{gr s:Bool}{d:Nat}{p:Int}(j:bk R D L G=0)(h:ia R D L G gr d p):dA R D L G gr (bare ⟨s,d,(ai R:Int)*p⟩).n (bare ⟨s,d,(ai R:Int)*p⟩).e=true:=by
 obtain⟨-,a,-,-,-,-,-,lg,-⟩:=cB j;rw[nN gr _ lg]
 rcases h with⟨rfl,rfl⟩| ⟨b,c,f,g,i⟩
 ·exact tO R D L G gr _
 ·rw[tN a g c i b]
  exact decide_eq_true f
theorem GR (s:Bool)(e f:Int):bare ⟨s,0,e⟩=bare ⟨s,0,f⟩:=by simp[bare]
theorem ZV {xs a:List Nat}{E R D L G:Int}{gr qs:Bool}{way:Int}(e:eE xs a E R D L G way=0)(r:Dg.Small 4294967296 xs)(s:Dg.Small 4294967296 a)(h: ¬xs.length=0):
  (dR xs a E R D L G gr qs way=false↔ ¬G<gD R D (fM R D L gr qs (Dg.vl 4294967296 xs) (Dg.vl 4294967296 a) E way) (dj R D L gr (Dg.vl 4294967296 xs) (Dg.vl 4294967296 a) E)∧(¬aT R D (dY (Dg.vl 4294967296 xs) (Dg.vl 4294967296 a) E)<L∨gr=true))∧
  (dR xs a E R D L G gr qs way=false→iu xs a E R D L G gr qs way=bare ⟨qs,fM R D L gr qs (Dg.vl 4294967296 xs) (Dg.vl 4294967296 a) E way,(ai R:Int)*dj R D L gr (Dg.vl 4294967296 xs) (Dg.vl 4294967296 a) E⟩)∧
  (df xs a E R D L G gr qs way).ex=decide (gF R D L gr (Dg.vl 4294967296 xs) (Dg.vl 4294967296 a) E=0):=by
 obtain⟨k,l,t⟩:=mh e;obtain⟨-,c,-,-,-,-,-,lg,-⟩:=cB l;obtain⟨i,j,u,-,-⟩:=gO k;have o:=nF r i h;have m:=nF s j (by omega);have b:df xs a E R D L G gr qs way=cI R D L G gr qs (Dg.vl 4294967296 xs) (Dg.vl 4294967296 a) E way:=(if_pos e).trans (if_neg h);rw[kJ gr qs _ _ E way c lg o m] at b;obtain⟨N,p⟩: ∃N,Dg.vl 4294967296 xs=N:=⟨_,rfl⟩;obtain⟨M,n⟩: ∃M,Dg.vl 4294967296 a=M:=⟨_,rfl⟩;rw[p,n] at b⊢;refine⟨?_, ?_,by rw[b]⟩
 ·unfold dR
  rw[b,e]
  by_cases d:G<gD R D (fM R D L gr qs N M E way) (dj R D L gr N M E)
  ·simp[d]
  ·by_cases g:aT R D (dY N M E)<L
   ·cases gr<;>simp[d,g]
   ·simp[d,g]
 ·intro q
  unfold iu;rw[if_neg (by rw[q];decide),b];simp only
  by_cases f:io R D (fM R D L gr qs N M E way)=0
  ·rw[if_pos f,←sD R D qs (fM R D L gr qs N M E way) _ c,f]
   exact GR _ _ _
  ·rw[if_neg f]
   exact sD R D qs _ _ c
theorem DY (R D L:Int)(gr qs:Bool)(N M:Nat)(E way:Int):fM R D L gr qs N M E way=cH R D L gr N M E∨fM R D L gr qs N M E way=cH R D L gr N M E+1:=by
 unfold fM
 split
 ·exact .inr rfl
 ·exact .inl rfl
theorem BS {R D L:Int}{gr qs:Bool}{N M:Nat}{E way:Int}(h:gF R D L gr N M E=0):fM R D L gr qs N M E way=cH R D L gr N M E:=by
 unfold fM;rw[if_neg];rintro⟨c,-⟩;exact of_decide_eq_false c h
theorem GS {R D L:Int}{gr qs:Bool}{N M:Nat}{E:Int}(h: ¬gF R D L gr N M E=0):fM R D L gr qs N M E 5=if qs=true then cH R D L gr N M E+1 else cH R D L gr N M E:=by
 have a:rf R D L gr qs N M E 5=qs:=by
  unfold rf gY;simp
 unfold fM;rw[a,decide_eq_false h];simp
theorem RG {R D L:Int}{gr qs:Bool}{N M:Nat}{E:Int}(h: ¬gF R D L gr N M E=0):fM R D L gr qs N M E 4=if qs=true then cH R D L gr N M E else cH R D L gr N M E+1:=by
 have a:rf R D L gr qs N M E 4= !qs:=by
  unfold rf gY;simp
 unfold fM;rw[a,decide_eq_false h]
 cases qs<;>simp
theorem S8 (s:Bool)(d:Nat)(k:Int):bare ⟨s,d,k⟩≠bare ⟨s,d+1,k⟩:=fun h=>by
 have a:V (max (-k) 0).toNat (bare ⟨s,d,k⟩)=V (max (-k) 0).toNat (bare ⟨s,d+1,k⟩):=by rw[h]
 rw[dw (by simp only;omega),dw (by simp only;omega),eV,eV] at a;simp only at a;have:=QI a.symm (Nat.ne_of_gt (Nat.mul_pos (by omega) (bG _)));have b:=Nat.eq_of_mul_eq_mul_right (bG _) this.2;omega
theorem Bv {R D L:Int}{gr:Bool}{N M:Nat}{E:Int}(d:1≤D)(f:N≠0)(e:M≠0)(b: ¬aT R D (dY N M E)<L∨gr=true):
  L≤dj R D L gr N M E∧(2^ (ai R*(D-1).toNat)≤cH R D L gr N M E∨(gr=true∧dj R D L gr N M E=L)):=by
 have hcut:L≤dj R D L gr N M E∧(dj R D L gr N M E=aT R D (dY N M E)∨(gr=true∧dj R D L gr N M E=L)):=by
  unfold dj
  by_cases a:(decide (aT R D (dY N M E)<L)&&gr)=true
  ·rw[if_pos a]
   exact⟨Int.le_refl _,.inr ⟨(Bool.and_eq_true_iff.1 a).2,rfl⟩⟩
  ·rw[if_neg a]
   refine⟨?_,.inl rfl⟩
   rcases b with b|b
   ·omega
   ·rw[b,Bool.and_true] at a
    have: ¬aT R D (dY N M E)<L:=fun c=>a (decide_eq_true c)
    omega
 refine⟨hcut.1, ?_⟩
 rcases hcut.2 with h|h
 ·left
  have:=mt (xx R D (aT R D (dY N M E)) N M E d f e).1 (Int.lt_irrefl _);rw[pP] at this;unfold cH shP;rw[h];omega
 ·exact .inr h
theorem Qx {xs a:List Nat}{E R D L G way:Int}(b:eA xs a E=0)(c:bk R D L G=0)(d:iC way=true):eE xs a E R D L G way=0:=by
 unfold eE;rw[if_pos (show jg (eA xs a E) (bk R D L G)=0 from(if_pos b).trans c),if_pos d]
theorem Nk {n k:Nat}(a:n≠0)(h:n≤2^k):tz n≤k:=by
 obtain⟨m,d⟩:=fO a;have c:2^tz n*1≤2^tz n*(2*m+1):=Nat.mul_le_mul_left _ (by omega);have b:2^tz n≤2^k:=by omega
 exact(Nat.pow_le_pow_iff_right (by omega)).1 b
theorem FQ {A:ak}{b:Int}{up:Bool}{d c:Int}(i:1≤b)(o:d≤A.e)(p:A.e+(bitLen A.n:Int)≤c)(f:d≤0)(g:0≤c):d≤(bare (aY A b up)).e∧(bare (aY A b up)).e≤c:=by
 by_cases a:(aY A b up).n=0
 ·unfold bare
  rw[if_pos a];exact⟨f,g⟩
 ·rcases mX A b up i with⟨_,h⟩| ⟨j,q,_,m,r,_,_,_,t,_,_,h⟩
  ·rw[h] at a⊢
   have k:=Nk a (Nat.le_of_lt (bitLen_spec A.n).1);unfold bare;rw[if_neg a]
   show d≤A.e+(tz A.n:Int)∧A.e+(tz A.n:Int)≤c
   omega
  ·rw[h] at a⊢
   have l:q+(if(up != A.s)=true then 1 else 0)≤2^b.toNat:=by split<;>omega
   have k:tz (q+(if(up != A.s)=true then 1 else 0))≤b.toNat:=Nk a l
   unfold bare;rw[if_neg a]
   show d≤A.e+(j:Int)+(tz (q+(if(up != A.s)=true then 1 else 0)):Int)∧A.e+(j:Int)+(tz (q+(if(up != A.s)=true then 1 else 0)):Int)≤c
   omega
def EndB (E:Int)(t:ak):Prop:= -1120≤t.e∧t.e≤E∧t.n<2^1000
def BareB (l h:ak):Prop:=(∃y,l=bare y)∧(∃y,h=bare y)
def InB (E:Int)(Y:Int)(l h:ak):Prop:=EndB E l∧EndB E h∧V 1120 l≤Y∧Y≤V 1120 h
theorem end_cut {E:Int}{A:ak}{n:Nat}(up:Bool)(f: -1120≤A.e)(g:A.e+(bitLen A.n:Int)≤E)(h:0≤E)(i:1≤n∧n≤1000):EndB E (bare (aY A n up)):=by
 obtain⟨c,d⟩:=FQ (b:=(n:Int)) (up:=up) (by omega) f g (by omega) h;have a:=mi A n up (by omega);rw[Int.toNat_natCast] at a;exact⟨c,d,Nat.lt_of_lt_of_le a (two_mono (b:=1000) i.2)⟩
theorem end_short {E:Int}{A:ak}{n:Nat}{up:Bool}(h:EndB E (bare (aY A n up)))(e:E≤20000)(b:1≤n∧n≤1000):bU (aY A n up)=(bare (aY A n up),0):=by
 obtain⟨c,d,-⟩:=h;have a:=mi A n up (by omega);rw[Int.toNat_natCast] at a;exact short_is b.2 a (by omega) (by omega)
theorem least_in {x:Nat→ak}{n:Nat}{E Y:Int}(b:1≤n∧n≤1000)(l:0≤E)(m:E≤20000)(a: ∀j,j≤3→ -1120≤(x j).e∧(x j).e+(bitLen (x j).n:Int)≤E)(t: ∃j,j≤3∧V 1120 (x j)≤Y)(s: ∃j,j≤3∧Y≤V 1120 (x j)):
  ∃p q,du x 4 n=(p,q,0)∧InB E Y p q∧BareB p q:=by
 have g:=tB x 3;have d:hiI x 3≤3:=wN x 3;have i:=end_cut (A:=loT x 3) false (a _ g).1 (a _ g).2 l b;have k:=end_cut (A:=hiT x 3) true (a _ d).1 (a _ d).2 l b;refine⟨_,_, ?_,⟨i,k, ?_, ?_⟩,⟨_,rfl⟩,⟨_,rfl⟩⟩
 ·unfold du
  rw[show(4-1:Nat)=3 from rfl,end_short i m b,end_short k m b]
  rfl
 ·obtain⟨j,h,u⟩:=t
  have o:=Al (K:=1120) x 3 (fun j f=>(a j f).1) j h
  obtain⟨r,-,c,-⟩:=lE (K:=1120) (loT x 3) n (by omega) (a _ g).1;rw[dw c];omega
 ·obtain⟨j,h,u⟩:=s
  have o:=Ao (K:=1120) x 3 (fun j f=>(a j f).1) j h
  obtain⟨-,r,-,c⟩:=lE (K:=1120) (hiT x 3) n (by omega) (a _ d).1;rw[dw c];omega
theorem plus_bits {E:Int}{a b:ak}(c: -1120≤a.e∧a.e≤E∧a.n<2^1000)(d: -1120≤b.e∧b.e≤E∧b.n<2^1000)(m:0≤E): -1120≤(aG a b).e∧(aG a b).e+(bitLen (aG a b).n:Int)≤E+1001:=by
 have k:=plus_e_min a b;refine⟨by rw[k];omega, ?_⟩;have j:=dH (K:=1120) (a:=a) (b:=b) (by omega) (by omega);have g: ∀t:ak,-1120≤t.e→t.e≤E→t.n<2^1000→(V 1120 t).natAbs<2^ (E.toNat+2120):=fun t r u l=>by
  rw[eV];have:(sz t.s (t.n*2^ (t.e+((1120:Nat):Int)).toNat)).natAbs=t.n*2^ (t.e+((1120:Nat):Int)).toNat:=by
   unfold sz
   split<;>omega
  rw[this];exact mul_two l (by omega)
 have p:=g a c.1 c.2.1 c.2.2;have q:=g b d.1 d.2.1 d.2.2;have f:(V 1120 (aG a b)).natAbs<2^ (E.toNat+2121):=by
  rw[j,show E.toNat+2121=E.toNat+2120+1 by omega,Nat.pow_succ]
  generalize 2^ (E.toNat+2120)=P at*;omega
 rw[eV] at f;have h:(aG a b).n*2^ ((aG a b).e+((1120:Nat):Int)).toNat<2^ (E.toNat+2121):=by
  refine Nat.lt_of_le_of_lt ?_ f;generalize(aG a b).n*2^ ((aG a b).e+((1120:Nat):Int)).toNat=M;unfold sz
  split<;>omega
 have i:(aG a b).n<2^ (E.toNat+2121-((aG a b).e+((1120:Nat):Int)).toNat):=by
  refine Nat.lt_of_mul_lt_mul_right (a:=2^ ((aG a b).e+((1120:Nat):Int)).toNat) ?_;rw[←Nat.pow_add,Nat.sub_add_cancel (by omega)];exact h
 have o:=bF _ _ i;omega
theorem sshort9 (v:Value)(a b:ak)(w:World)(k:SpanV w v a b)(i:Fit9 a)(j:Fit9 b)(e:Tab w):yC 26 #[v] w (BRd w (iD (bU a) (bU b)).1 (iD (bU a) (bU b)).2.1 (iD (bU a) (bU b)).2.2):=by
 obtain⟨y,z,rfl,f,g⟩:=k;obtain⟨r,q,rfl⟩:=f.shape;obtain⟨x,u,rfl⟩:=g.shape;obtain⟨m,o,p⟩:=i.all;obtain⟨n,s,t⟩:=j.all;have ta:=gZ _ _ m;have A:=gZ _ _ n;exact(Hu _ _ _ _ _ _ _ _ _ _ _ _ w (fun d c=>kL _ a d ⟨_,rfl,f.l c⟩ (by omega) ⟨by omega,by omega⟩ (e.l c) (by omega)) (fun d c=>kL _ b d ⟨_,rfl,g.l c⟩ (by omega) ⟨by omega,by omega⟩ (e.l c) (by omega))).mono fun _ _ h=>own_brd h
theorem Cos_e3 (x u p q:ak)(s:Bool)(E:Option Addr)(M L:Nat)(e b f er:Int)(w:World)(hf:f=0)
  (k: ∀a,yB w a→yC 19 #[ydV s (.slice E M L) e,yi b] a (NRd a x 0))
  (j: ∀D C a,yB w a→Rd a .u32 (yT D x.n C) (Dg.dg 4294967296 x.n)→yC 20 #[yDV x D C] a (yR a (yi f)))
  (h: ∀a,yB w a→yC 25 #[yi 1] a (aeT a u u))
  (i: ∀S R U T a,yB w a→Rd a .u32 (yT S u.n R) (Dg.dg 4294967296 u.n)→Rd a .u32 (yT U u.n T) (Dg.dg 4294967296 u.n)→yC 26 #[.agg #[.bool u.s,yT S u.n R,yi u.e,.bool u.s,yT U u.n T,yi u.e]] a (BRd a p q er)):
  yC 8 #[ydV s (.slice E M L) e,yi b] w (BRd w p q er):=by
 replace k:Hid _:=k;replace j:Hid _:=j;replace h:Hid _:=h;replace i:Hid _:=i;obtain⟨W4,v,q1,q2,H⟩:=iG w (ydL s (.slice E M L) e) 25 [.bool false,yN,yi 0,.bool false,yN,yi 0] 29;replace v:Hid _:=v
 go_enter func8,ntmps8
 go_upto_region 1 with fail
 rw[v.out];clear v;obtain⟨c6,c7,c8⟩:=q1.cs3
 go_wp2_with fail
 refine(k.out _ H).mono ?_;rintro W w9 ⟨ap,rfl,O,K⟩;have N:=q2.l K;have F:=aa H K;obtain⟨D,C,c⟩:=O.shape;subst c;clear q1 q2 H K k c6 c7 c8;obtain⟨ae,t,Y,m⟩:=cA w9 (yDL x D C) 48;replace t:Hid _:=t;have al:w.heap.size≤w9.heap.size:=F.size;have an:=N.lt;have Z:=N.l m;have Q:=O.l m;have G:=aa F m;clear N O F m
 go_upto_region 2 with fail
 rw[t.out];clear t;obtain⟨a4,a5,a6⟩:=Y.cs3
 go_wp2_with fail
 refine(j.out _ _ _ G Q).mono ?_;rintro W ay ⟨rfl,o⟩;have a0:=Z.l o;have a2:=Q.l o;have I:=aa G o;clear Z Y Q G o j a4 a5 a6
 go_wp2_with fail
 refine(h.out _ I).mono ?_;rintro W az ⟨aq,av,rfl,y,A,r⟩;have a1:=a0.l r;have a3:=a2.l r;have J:=aa I r;obtain⟨S,R,c⟩:=y.shape;subst c;obtain⟨U,T,c⟩:=A.shape;subst c;clear a0 a2 I r h
 go_wp2_with fail
 refine(i.out _ _ _ _ _ J y A).mono ?_;rintro W b0 ⟨ar,ax,rfl,z,B,d⟩;have g:=a1.l d;have a7:=a3.l d;have a8:=y.l d;have a9:=A.l d;have X:=aa J d;obtain⟨po,pc,c⟩:=z.shape;subst c;obtain⟨qo,qc,c⟩:=B.shape;subst c;clear a1 a3 y A J d i;have hf:=fin6 (P:=Tryz.prog) g X (by omega) underlying29 rfl (by kernel_rfl) (.bool p.s) (yT po p.n pc) (yi p.e) (.bool q.s) (yT qo q.n qc) (yi q.e);have HH:Hid (_∧_∧_∧_):=⟨hf.1,hf.2.2.rd z (aX z g (by simp)),hf.2.2.rd B (aX B g (by simp)),hf.2.1⟩;obtain⟨⟨z0,z1,z2,z3,z4,z5⟩,y0,y1,y2,y3,y4,y5⟩:=csf6 g;clear hf g a7 a8 a9 z B X
 go_wp2
 obtain⟨hl,ac,ad,bR⟩:=HH.out;exact bodyPost_ret (aj results8 rfl rfl hl) rfl ⟨_,_,rfl,ac,ad,bR⟩
theorem lgI {x:ak}{B:Nat}(a:84≤B)(e:B≤1000)(l:x.s=false)(j:x.n≠0)(h:bitLen x.n≤1200):
  ∃I:Nat→ak×ak→ak×ak→Prop,I 0 (wTr 1,wTr 1) (wTr 1,wTr 1)∧ ∀k s t,I k s t→k≤B+1∧RgS 400000000 400000000 s∧RgS 400000000 400000000 t∧RgS 400000000 400000000 (partS (timesS t (cutSp (timesS (lgZ x B) (lgZ x B)) B)) (nxA (k+1)).1 (nxA (k+1)).2 B)∧
   (¬smallS (partS (timesS t (cutSp (timesS (lgZ x B) (lgZ x B)) B)) (nxA (k+1)).1 (nxA (k+1)).2 B) B→I (k+1) (cutSp (plusS s (partS (timesS t (cutSp (timesS (lgZ x B) (lgZ x B)) B)) (nxA (k+1)).1 (nxA (k+1)).2 B)) B) (partS (timesS t (cutSp (timesS (lgZ x B) (lgZ x B)) B)) (nxA (k+1)).1 (nxA (k+1)).2 B)):=by
 obtain⟨X,g,i⟩:=lgX_any l j;obtain⟨m,o,p⟩:=athU_any (z:=lgZ x B) a e (Rat.le_trans g (by grind)) (i B (by omega));obtain⟨q,-⟩:=wide_of a e;obtain⟨-,-,f⟩:=lgZ_fit h a e;have gu:=(f.times f).cut (b:=B) (by omega);refine pws_walk (c:=cArc) (mu:=1/2) (wU:=p2 (17-(B:Int))) (d:=p2 (2-(B:Int))) (E:=4600) (T:=2601) (by omega) rfl (fun k=>(cA_in k).1) (fun k=>(cA_in k).2) m o (fun k=> ?_) p q (gu.mono (by omega) (by omega)) (by omega) (by omega) (fun k r=> ?_) ?_
 ·have:=(cA_in k).1.2
  grind
 ·have:(2:Nat)^30=1073741824:=by decide
  show 2*(k+1)-1<2^30∧2*(k+1)+1<2^30
  omega
 ·have:((B:Int)+3)*(4600+2601+(B:Int)+50)≤1003*8251:=Int.mul_le_mul (by omega) (by omega) (by omega) (by omega)
  omega
theorem ath_fit {x:ak}{B:Nat}(a:84≤B)(b:B≤1000)(i:x.s=false)(h:x.n≠0)(d:bitLen x.n≤1200):
  RgS 400000001 400000004 (pwsT (cutSp (timesS (lgZ x B) (lgZ x B)) B) B nxA (B+2) 1 (wTr 1,wTr 1) (wTr 1,wTr 1))∧RgS 410000000 410000000 (athS (lgZ x B) B):=by
 obtain⟨I,I0,e⟩:=lgI a b i h d;have f:=pws_rg (nx:=nxA) (by omega) e (B+2) 0 _ _ I0 (by omega);obtain⟨-,-,g⟩:=lgZ_fit d a b;unfold athS;obtain⟨P,c⟩: ∃P,pwsT (cutSp (timesS (lgZ x B) (lgZ x B)) B) B nxA (B+2) 1 (wTr 1,wTr 1) (wTr 1,wTr 1)=P:=⟨_,rfl⟩;have gP:RgS 400000001 400000004 P:=by rw[←c];exact f
 rw[c];exact⟨gP,((g.times gP).up 1).mono (by omega) (by omega)⟩
theorem snarrowN (v:Value)(a b:ak)(n:Nat)(w:World)(N:SpanV w v a b)(m:Fit9 a)(j:Fit9 b)(I:qT b<0)(T:qT b-qT a≤p2 (-(n:Int))* -qT b)(U:qT a≤qT b)(W:n≤10000):
  yC 58 #[v,yi n] w (yR w (.bool true)):=by
 have x: ∀t:ak,qT t<0→t.s=true∧t.n≠0:=fun t X=>by
  have:=pos_sign (t:=dV t) (by rw[qT_neg];grind);exact⟨by have:=this.1;unfold dV at this;simpa using this,this.2⟩
 obtain⟨q,r⟩:=x a (by grind);obtain⟨h,u⟩:=x b I;obtain⟨y,z,rfl,k,i⟩:=N;obtain⟨D,C,rfl⟩:=k.shape;obtain⟨H,G,rfl⟩:=i.shape;obtain⟨R,A,B⟩:=m.all;obtain⟨S,E,F⟩:=j.all;obtain⟨Y,g,f⟩:=a;obtain⟨Z,bn,d⟩:=b;simp only at q h r u k i R S A B E F;subst q h;have L:qT (⟨false,bn,d⟩:ak)= -qT ⟨true,bn,d⟩:=by
  have:=qT_neg ⟨true,bn,d⟩;exact this
 have O:RgT 2000000000 2000000000 (aG ⟨true,bn,d⟩ (dV ⟨true,g,f⟩)):=(RgT.plus j m.neg).mono (by omega) (by omega);have Q:RgT 2000000000 2000000000 (upT ⟨false,bn,d⟩ (-(n:Int))):=(RgT.up (a:=⟨false,bn,d⟩) j (-(n:Int))).mono (by omega) (by omega);have K:bJ (aG ⟨true,bn,d⟩ (dV ⟨true,g,f⟩)) (upT ⟨false,bn,d⟩ (-(n:Int)))≤0:=by
  rcases Int.lt_or_le 0 (bJ (aG ⟨true,bn,d⟩ (dV ⟨true,g,f⟩)) (upT ⟨false,bn,d⟩ (-(n:Int)))) with c|c
  ·rw[cmp_gt,qT_up,qT_plus,qT_neg,L] at c
   exfalso
   grind
  ·exact c
 have y:dJ ⟨true,g,f⟩= -1:=by unfold dJ;rw[if_neg r];rfl
 have z:dJ ⟨true,bn,d⟩= -1:=by unfold dJ;rw[if_neg u];rfl
 have M:IntKind.i64.wrap (d+ -(n:Int))=d+ -(n:Int):=IntWalk.i64_in _ ⟨by omega,by omega⟩;refine narrow_N ⟨true,g,f⟩ ⟨true,bn,d⟩ D H C G _ n (-(n:Int)) (d+ -(n:Int)) _ w i (IntWalk.i64_in _ ⟨by omega,by omega⟩) K
  (fun e h=>signs_neg ⟨true,g,f⟩ ⟨true,bn,d⟩ _ _ _ _ e (fun p o=> ?_) (fun p o=> ?_))
  (fun e h=>dminus9 _ _ ⟨true,bn,d⟩ ⟨true,g,f⟩ e ⟨_,rfl,i.l h⟩ ⟨_,rfl,k.l h⟩ j m)
  (fun e=>dsize_W ⟨true,bn,d⟩ _ _ e) (fun e=>dscaled_W _ _ _ _ _ _ _ e M)
  (fun xo xc e _ P J=>dcmp9 _ _ _ (upT ⟨false,bn,d⟩ (-(n:Int))) e ⟨_,rfl,P⟩ ⟨_,rfl,J⟩ O Q)
 ·have:=qB _ ⟨true,g,f⟩ p ⟨_,rfl,(k.l h).l o⟩
  rwa [y] at this
 ·have:=qB _ ⟨true,bn,d⟩ p ⟨_,rfl,(i.l h).l o⟩
  rwa [z] at this
theorem cmpT_zero {a b:ak}:bJ a b=0↔qT a=qT b:=by
 have d:=cmp_lt a b;have e:=cmp_gt a b
 constructor
 ·intro h
  have f: ¬qT a<qT b:=fun c=>by have:=d.2 c;omega
  have g: ¬qT b<qT a:=fun c=>by have:=e.2 c;omega
  grind
 ·intro h
  rcases Int.lt_trichotomy (bJ a b) 0 with c|c|c
  ·have:=d.1 c
   grind
  ·exact c
  ·have:=e.1 c
   grind
end Go.Proofs.YthhiidikgchdeabGreatDoor
