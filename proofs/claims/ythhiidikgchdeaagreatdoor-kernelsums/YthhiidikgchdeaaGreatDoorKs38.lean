/- Texts laid together. -/
import Derived.Test.YthhiidikgchdeaaGreatDoorKs30
import Derived.Test.YthhiidikgchdeaaGreatDoorKs31
import Derived.Test.YthhiidikgchdeaaGreatDoorKs32
import Derived.Test.YthhiidikgchdeaaGreatDoorKs33
set_option maxRecDepth 100000
set_option maxHeartbeats 1600000
namespace Go.Proofs.YthhiidikgchdeaaGreatDoor
open _root_.Go.Proofs.Tryz
open Go.RowKit
theorem eL {K:Nat}{a:ak}(b: -(K:Int)≤a.e): -(K:Int)≤(bare a).e:=by
 unfold bare
 by_cases h:a.n=0
 ·rw[if_pos h];simp
 ·rw[if_neg h];simp only;omega
theorem dw {K:Nat}{a:ak}(c: -(K:Int)≤a.e):V K (bare a)=V K a:=by
 rw[eV,eV];unfold bare
 by_cases h:a.n=0
 ·rw[if_pos h,h];simp[sz]
 ·rw[if_neg h]
  obtain⟨m,b⟩:=fO h;simp only;rw[lI b];have:(a.e+(tz a.n:Int)+K).toNat=tz a.n+(a.e+K).toNat:=by omega
  rw[this,Nat.pow_add,←Nat.mul_assoc,Nat.mul_comm _ (2^tz a.n),←b]
theorem gM (D E:Value)(xs a:List Nat)(w:World)(H:Rd w .u32 D xs)(I:Rd w .u32 E a):
  yC 80 #[D,E] w (yR w (.bool (decide (xs=a)))):=by
 obtain⟨Q,T,rfl,J,K,m⟩:=H;obtain⟨S,U,rfl,X,L,u⟩:=I;unfold maxLen at K L;obtain⟨r,f⟩: ∃r,decide (xs=a)=r:=⟨_,rfl⟩;rw[f]
 by_cases d:xs.length=a.length
 ·have s:Hid _:=f
  have q:Hid _:=d;rw[d] at J m⊢;clear f d
  go_enter func80,ntmps80
  go_wp2
  go_loopw [5] (fun p wr=> ∃k:Nat,k≤a.length∧p=yi k∧Hid (∀j,j<k→xs.getD j 0=a.getD j 0)∧yB w wr) (fun p _=>a.length-(intOf p).toNat)
  case atStart=>exact⟨0,Nat.zero_le _,rfl,fun j n=>by omega,Below.refl _ _⟩
  case round=>
   obtain⟨k,W,rfl,t,c⟩:=hrel
   by_cases B:k<a.length
   ·obtain⟨b,Y,rfl,v⟩:=m (by omega)
    obtain⟨R,Z,rfl,z⟩:=u (by omega);have O:=cell_later c (v k B);have P:=cell_later c (z k B);have g:xs.getD k 0≠a.getD k 0→decide (xs=a)=false:=fun h=>by
     rw[decide_eq_false];intro e;rw[e] at h;exact h rfl
    rw[s.out] at g;obtain⟨x,i⟩: ∃x,xs.getD k 0=x:=⟨_,rfl⟩;obtain⟨y,l⟩: ∃y,a.getD k 0=y:=⟨_,rfl⟩;have F:Hid _:=i;have G:Hid _:=l;rw[i] at O g;rw[l] at P g;clear i l v z m u
    by_cases C:x=y
    ·subst C
     clear g
     go_wp2
     go_quiet (fail)
     go_wp2
     go_roundw
     case rel=>exact⟨k+1,by omega,by go_num,fun j n=>by
      by_cases e:j=k
      ·rw[e];exact F.out.trans G.out.symm
      ·exact t j (by omega),aL c _⟩
     case measure=>simp[intOf];omega
    ·have o:=g C
     subst o;have M:((x:Int) != (y:Int))=true:=by rw[bne_iff_ne];omega
     go_wp2
     go_quiet (fail)
     go_wp2
     go_ret
     exact⟨rfl,aL c _⟩
   ·have A:xs=a:=Dg.eq_of_all xs a q.out (fun j=>by
     by_cases n:j<k
     ·exact t j n
     ·rw[Dg.getD_of_le xs j (by rw[q.out];omega),Dg.getD_of_le a j (by omega)])
    have N:r=true:=by rw[←s.out];exact decide_eq_true A
    subst N;clear A
    go_wp2
    go_ret
    exact⟨rfl,c⟩
 ·have o:r=false:=by rw[←f];apply decide_eq_false;intro e;rw[e] at d;exact d rfl
  subst o;clear f;have M:((xs.length:Int) != (a.length:Int))=true:=by rw[bne_iff_ne];omega
  go_enter func80,ntmps80
  go_wp2
  go_ret
  exact⟨rfl,Below.refl _ _⟩
theorem RZ (x y L:Nat)(c:(Dg.dg 4294967296 x).length≤L)(d:(Dg.dg 4294967296 y).length≤L):(Dg.dg 4294967296 (x+y)).length≤L+1:=by
 apply Dg.dg_len_le 4294967296 _ _ (by omega);have a:=Dg.vl_lt 4294967296 (Dg.dg 4294967296 x) (Dg.small_dg _ _ (by omega));have b:=Dg.vl_lt 4294967296 (Dg.dg 4294967296 y) (Dg.small_dg _ _ (by omega));rw[Dg.vl_dg _ _ (by omega)] at a b;have e:4294967296^ (Dg.dg 4294967296 x).length≤4294967296^L:=Nat.pow_le_pow_right (by omega) c;have f:4294967296^ (Dg.dg 4294967296 y).length≤4294967296^L:=Nat.pow_le_pow_right (by omega) d;rw[Nat.pow_succ];omega
theorem Ie (a b:ak)(L j:Nat)(k:(Dg.dg 4294967296 a.n).length≤L)(l:(Dg.dg 4294967296 b.n).length≤L)(h:(a.e-min a.e b.e).toNat≤32*j)(i:(b.e-min a.e b.e).toNat≤32*j):
  (Dg.dg 4294967296 (aG a b).n).length≤L+j+1:=by
 have f:=CF a.n _ L j k h;have g:=CF b.n _ L j l i;unfold aG;simp only
 by_cases d:a.s=b.s
 ·rw[if_pos d];exact RZ _ _ _ f g
 ·rw[if_neg d]
  by_cases c:a.n*2^ (a.e-min a.e b.e).toNat<b.n*2^ (b.e-min a.e b.e).toNat
  ·rw[if_pos c]
   exact Nat.le_trans (aH _ _ _ (by omega) (Nat.sub_le _ _)) (Nat.le_trans g (by omega))
  ·rw[if_neg c]
   exact Nat.le_trans (aH _ _ _ (by omega) (Nat.sub_le _ _)) (Nat.le_trans f (by omega))
def cu (s:Bool)(xs:List Nat)(e:Int)(t:Bool)(ys:List Nat)(f:Int):Int:=
 if dQ xs e ys f=0 then(if 0<dJ (aG ⟨s,Dg.vl 4294967296 xs,e⟩ (dV ⟨t,Dg.vl 4294967296 ys,f⟩)) then 4 else 0) else dQ xs e ys f
theorem sE {t u:ak}(h:bare t=bare u):bU t=bU u:=by unfold bU;rw[h]
theorem tK {A:ak}{b:Int}{up:Bool}{L:Nat}(h:(Dg.dg 4294967296 A.n).length≤L)(d:1≤L):(Dg.dg 4294967296 (aY A b up).n).length≤L+1:=by
 unfold aY
 by_cases a:(bitLen A.n:Int)-b≤((if A.n=0 then 0 else tz A.n:Nat):Int)
 ·rw[if_pos a]
  omega
 ·rw[if_neg a]
  show(Dg.dg 4294967296 (A.n/2^ ((bitLen A.n:Int)-b).toNat+(if(up != A.s)=true then 1 else 0))).length≤L+1
  refine Nat.le_trans (aH 4294967296 _ (A.n+1) (by omega) ?_) (RZ A.n 1 L h d);have:=Nat.div_le_self A.n (2^ ((bitLen A.n:Int)-b).toNat)
  by_cases c:(up != A.s)=true
  ·rw[if_pos c];omega
  ·rw[if_neg c];omega
theorem WQ {A:ak}{b:Int}{up:Bool}{L:Nat}(h:(Dg.dg 4294967296 A.n).length≤L)(c:1≤b):A.e≤(aY A b up).e∧(aY A b up).e≤A.e+32*L:=by
 have d:=gf h;unfold aY
 by_cases a:(bitLen A.n:Int)-b≤((if A.n=0 then 0 else tz A.n:Nat):Int)
 ·rw[if_pos a]
  omega
 ·rw[if_neg a]
  show A.e≤A.e+((bitLen A.n:Int)-b)∧A.e+((bitLen A.n:Int)-b)≤A.e+32*L
  omega
theorem Bx (A:ak)(b:Int)(up:Bool)(g:1≤b):(bitLen (bare (aY A b up)).n:Int)≤b:=by
 rcases mX A b up g with⟨f,a⟩| ⟨j,q,_,_,_,_,_,_,l,m,_,a⟩
 ·rw[a];exact f
 ·rw[a]
  have i: ∀x:Nat,x≤2^b.toNat→ ∀s e,(bitLen (bare ⟨s,x,e⟩).n:Int)≤b:=fun x o s e=>by
   rcases Nat.lt_or_ge x (2^b.toNat) with h|h
   ·have c:=Nr (FW ⟨s,x,e⟩)
    have k:=bF x _ h;simp only at c;omega
   ·have d:x=2^b.toNat:=by omega
    have c:(bare ⟨s,x,e⟩).n=1:=by
     unfold bare;simp only;rw[if_neg (by rw[d];exact Nat.pos_iff_ne_zero.1 (Nat.pow_pos (by omega)))];simp only;rw[d,ada,Nat.div_self (Nat.pow_pos (by omega))]
    rw[c];have:bitLen 1≤1:=bF 1 1 (by omega);omega
  refine i _ ?_ _ _
  split<;>omega
theorem mi (A:ak)(b:Int)(up:Bool)(c:1≤b):(bare (aY A b up)).n<2^b.toNat:=by
 have d:=Bx A b up c;have a:=(bitLen_spec (bare (aY A b up)).n).1;exact Nat.lt_of_lt_of_le a (Nat.pow_le_pow_right (by omega) (by omega))
theorem NK (n:Int)(b:Nat)(s:Bool)(K:Option Addr)(M U:Nat)(e:Int)(t:Bool)(L:Option Addr)(N W:Nat)(f:Int)(c:Int)(r:Bool)(y:Option Addr)(v B:Nat)(g:Int)(u:Bool)(A:Option Addr)(x C:Nat)(k:Int)(d:Int)(w:World)
  (h0:w.cell? ⟨b,0,none⟩=some (.bool s)) (h1:w.cell? ⟨b,1,none⟩=some (.slice K U M)) (h2:w.cell? ⟨b,2,none⟩=some (yi e)) (h3:w.cell? ⟨b,3,none⟩=some (.bool t)) (h4:w.cell? ⟨b,4,none⟩=some (.slice L W N)) (h5:w.cell? ⟨b,5,none⟩=some (yi f))
  (E:w.cell? ⟨b,6,none⟩=some (.bool r)) (F:w.cell? ⟨b,7,none⟩=some (.slice y B v)) (G:w.cell? ⟨b,8,none⟩=some (yi g)) (H:w.cell? ⟨b,9,none⟩=some (.bool u)) (I:w.cell? ⟨b,10,none⟩=some (.slice A C x)) (J:w.cell? ⟨b,11,none⟩=some (yi k))
  (Y:yH w 150 #[.agg #[.bool s,.slice K U M,yi e,.bool t,.slice L W N,yi f]] (yi c))
  (Z:yH w 150 #[.agg #[.bool r,.slice y B v,yi g,.bool u,.slice A C x,yi k]] (yi d)):
  yC 112 #[yi n,.slice (some ⟨b,0,none⟩) 2 2] w (yR w (yi (cW n c d))):=by
 unfold cW kj;have l:=af w (.cells #[.bool s,.slice K U M,yi e,.bool t,.slice L W N,yi f] 27);have m:=Y _ l;have D:Hid _:=Z;clear Y Z
 by_cases h:c=0
 ·subst h
  rw[if_pos rfl]
  by_cases h':d=0
  ·subst h'
   rw[if_pos rfl];unfold Vr
   by_cases hl:n<1
   ·rw[if_pos (Or.inl hl)]
    go_enter func112,ntmps112
    go_wp2
    refine wp_loop_rounds 3 ?_;rw[rounds_succ]
    go_wp2_with fail
    refine m.mono ?_;rintro z o ⟨rfl,i⟩;have a:=aa l i;have O:=cell_later a E;have P:=cell_later a F;have Q:=cell_later a G;have R:=cell_later a H;have S:=cell_later a I;have T:=cell_later a J;have j:=aa a (af o (.cells #[.bool r,.slice y B v,yi g,.bool u,.slice A C x,yi k] 27));clear m l i
    go_wp2
    rw[rounds_succ]
    go_wp2_with fail
    refine(D.out _ j).mono ?_;rintro z X ⟨rfl,q⟩;have p:=aa j q
    go_wp2
    rw[rounds_succ]
    go_wp2
    go_ret
    exact⟨rfl,p⟩
   ·by_cases hg:4096<n
    ·rw[if_pos (Or.inr hg)]
     go_enter func112,ntmps112
     go_wp2
     refine wp_loop_rounds 3 ?_;rw[rounds_succ]
     go_wp2_with fail
     refine m.mono ?_;rintro z o ⟨rfl,i⟩;have a:=aa l i;have O:=cell_later a E;have P:=cell_later a F;have Q:=cell_later a G;have R:=cell_later a H;have S:=cell_later a I;have T:=cell_later a J;have j:=aa a (af o (.cells #[.bool r,.slice y B v,yi g,.bool u,.slice A C x,yi k] 27));clear m l i
     go_wp2
     rw[rounds_succ]
     go_wp2_with fail
     refine(D.out _ j).mono ?_;rintro z X ⟨rfl,q⟩;have p:=aa j q
     go_wp2
     rw[rounds_succ]
     go_wp2
     go_ret
     exact⟨rfl,p⟩
    ·rw[if_neg (by omega)]
     go_enter func112,ntmps112
     go_wp2
     refine wp_loop_rounds 3 ?_;rw[rounds_succ]
     go_wp2_with fail
     refine m.mono ?_;rintro z o ⟨rfl,i⟩;have a:=aa l i;have O:=cell_later a E;have P:=cell_later a F;have Q:=cell_later a G;have R:=cell_later a H;have S:=cell_later a I;have T:=cell_later a J;have j:=aa a (af o (.cells #[.bool r,.slice y B v,yi g,.bool u,.slice A C x,yi k] 27));clear m l i
     go_wp2
     rw[rounds_succ]
     go_wp2_with fail
     refine(D.out _ j).mono ?_;rintro z X ⟨rfl,q⟩;have p:=aa j q
     go_wp2
     rw[rounds_succ]
     go_wp2
     go_ret
     exact⟨rfl,p⟩
  ·rw[if_neg h']
   go_enter func112,ntmps112
   go_wp2
   refine wp_loop_rounds 3 ?_;rw[rounds_succ]
   go_wp2_with fail
   refine m.mono ?_;rintro z o ⟨rfl,i⟩;have a:=aa l i;have O:=cell_later a E;have P:=cell_later a F;have Q:=cell_later a G;have R:=cell_later a H;have S:=cell_later a I;have T:=cell_later a J;have j:=aa a (af o (.cells #[.bool r,.slice y B v,yi g,.bool u,.slice A C x,yi k] 27));clear m l i
   go_wp2
   rw[rounds_succ]
   go_wp2_with fail
   refine(D.out _ j).mono ?_;rintro z X ⟨rfl,q⟩;have p:=aa j q
   go_wp2
   go_ret
   exact⟨rfl,p⟩
 ·rw[if_neg h]
  go_enter func112,ntmps112
  go_wp2
  refine wp_loop_rounds 3 ?_;rw[rounds_succ]
  go_wp2_with fail
  refine m.mono ?_;rintro z o ⟨rfl,i⟩;have a:=aa l i
  go_wp2
  go_ret
  exact⟨rfl,a⟩
def du (x:Nat→ak)(m:Nat)(n:Int):ak×ak×Int:=iD (bU (aY (loT x (m-1)) n false)) (bU (aY (hiT x (m-1)) n true))
def eE (xs ys:List Nat)(E R D L G way:Int):Int:=
 if jg (eA xs ys E) (bk R D L G)=0 then(if iC way=true then 0 else 6) else jg (eA xs ys E) (bk R D L G)
def df (xs ys:List Nat)(E R D L G:Int)(gr qs:Bool)(way:Int):fz:=
 if eE xs ys E R D L G way=0 then(if xs.length=0 then⟨false,0,0,true,false,false⟩ else cI R D L G gr qs (Dg.vl 4294967296 xs) (Dg.vl 4294967296 ys) E way) else oI
def dR (xs ys:List Nat)(E R D L G:Int)(gr qs:Bool)(way:Int):Bool:=
 !decide (eE xs ys E R D L G way=0)||(df xs ys E R D L G gr qs way).ov||((df xs ys E R D L G gr qs way).un&& !gr)
def iu (xs ys:List Nat)(E R D L G:Int)(gr qs:Bool)(way:Int):ak:=
 if dR xs ys E R D L G gr qs way=true then⟨false,0,0⟩ else bare ⟨(df xs ys E R D L G gr qs way).s,(df xs ys E R D L G gr qs way).d,(ai R:Int)*(df xs ys E R D L G gr qs way).p⟩
theorem kN {xs a:List Nat}{E R D L G:Int}{gr qs:Bool}{way:Int}(h:dR xs a E R D L G gr qs way=false):eE xs a E R D L G way=0∧(df xs a E R D L G gr qs way).ov=false∧((df xs a E R D L G gr qs way).un=false∨gr=true):=by
 unfold dR at h;simp only[Bool.or_eq_false_iff,Bool.and_eq_false_iff,Bool.not_eq_false',decide_eq_true_iff] at h;exact⟨h.1.1,h.1.2,h.2⟩
theorem mh {xs d:List Nat}{E R D L G way:Int}(h:eE xs d E R D L G way=0):eA xs d E=0∧bk R D L G=0∧iC way=true:=by
 unfold eE at h
 by_cases c:jg (eA xs d E) (bk R D L G)=0
 ·rw[if_pos c] at h
  obtain⟨a,b⟩:=C4 c;refine⟨a,b, ?_⟩
  by_cases e:iC way=true
  ·exact e
  ·rw[if_neg e] at h
   cases h
 ·rw[if_neg c] at h
  exact absurd h c
theorem nF {xs:List Nat}(d:Dg.Small 4294967296 xs)(h:chk xs=0)(b: ¬xs.length=0):Dg.vl 4294967296 xs≠0:=fun c=>by
 have a:Dg.dg 4294967296 (Dg.vl 4294967296 xs)=xs:=Dg.dg_vl _ (by omega) _ d (aF h).1;rw[c] at a;rw[←a] at b;exact b rfl
theorem sminus_any (v u:Value)(a b p q:ak)(w:World)(r:SpanV w v a b)(o:SpanV w u p q)(k:FitsT a)(m:FitsT b)(n:FitsT p)(fq:FitsT q):yC 126 #[v,u] w (aeT w (aG a (dV q)) (aG b (dV p))):=by
 obtain⟨E,F,rfl,g,h⟩:=r;obtain⟨G,H,rfl,i,j⟩:=o;obtain⟨x,t,rfl⟩:=g.shape;obtain⟨z,y,rfl⟩:=h.shape;obtain⟨B,A,rfl⟩:=i.shape;obtain⟨D,C,rfl⟩:=j.shape;exact spanMinus_W a b p q _ _ _ _ _ _ _ _ _ _ w
  (fun d=>spanOpp_W p q _ _ _ _ d (fun f=>YA q.s _ _ _ q.e f) (fun f=>YA p.s _ _ _ p.e f))
  (fun d c=>splus_any _ _ a b (dV q) (dV p) d ⟨_,_,rfl,g.l c,h.l c⟩ ⟨_,_,rfl,j.l c,i.l c⟩ k m fq n)
theorem short_is {t:ak}{b:Nat}(f:b≤1000)(a:(bare t).n<2^b)(c: -20000≤(bare t).e)(d:(bare t).e≤20000):bU t=(bare t,0):=by
 unfold bU;have g:(Dg.dg 4294967296 (bare t).n).length≤32:=jq a (by omega);rw[if_neg (by omega),if_neg (by omega)]
theorem satanh_any (n k:Nat)(w:World)(b:2≤n∧n<65536)(a:k≤60000):yC 127 #[yi n,yi k] w (aeT w (invLo (lp (n*n) 0 (k+1) 0 (2^k/n) 0 0) k) (invHi (lp (n*n) 0 (k+1) 0 (2^k/n) 0 0) k)):=
 sumsAtanh_W _ _ _ _ w (fun c _=>inverse_any n k 0 c b a (.inl rfl))
theorem sminus9 (v u:Value)(a b p q:ak)(w:World)(r:SpanV w v a b)(o:SpanV w u p q)(k:Fit9 a)(m:Fit9 b)(n:Fit9 p)(fq:Fit9 q):yC 126 #[v,u] w (aeT w (aG a (dV q)) (aG b (dV p))):=by
 obtain⟨E,F,rfl,g,h⟩:=r;obtain⟨G,H,rfl,i,j⟩:=o;obtain⟨x,t,rfl⟩:=g.shape;obtain⟨z,y,rfl⟩:=h.shape;obtain⟨B,A,rfl⟩:=i.shape;obtain⟨D,C,rfl⟩:=j.shape;exact spanMinus_W a b p q _ _ _ _ _ _ _ _ _ _ w
  (fun d=>spanOpp_W p q _ _ _ _ d (fun f=>YA q.s _ _ _ q.e f) (fun f=>YA p.s _ _ _ p.e f))
  (fun d c=>splus9 _ _ a b (dV q) (dV p) d ⟨_,_,rfl,g.l c,h.l c⟩ ⟨_,_,rfl,j.l c,i.l c⟩ k m fq n)
theorem sgreat9 (v:Value)(a b:ak)(w:World)(O:SpanV w v a b)(J:Fit9 a)(K:Fit9 b):
  yC 129 #[v] w (yR w (if(grS (a,b)).n=0 then .tuple #[yi 0,.bool false] else .tuple #[yi ((bitLen (grS (a,b)).n:Int)+(grS (a,b)).e),.bool true])):=by
 obtain⟨U,W,rfl,D,E⟩:=O;obtain⟨s,r,rfl⟩:=D.shape;obtain⟨u,t,rfl⟩:=E.shape;obtain⟨x,C⟩: ∃x:Nat→ak,(fun i=>if i=0 then sizeT a else sizeT b)=x:=⟨_,rfl⟩
 have p:x 0=sizeT a:=by rw[←C];rfl
 have q:x 1=sizeT b:=by rw[←C];rfl
 have M:grS (a,b)=hiT x 1:=by rw[←C];rfl
 have B: ∀j,j≤1→Fit9 (x j):=fun j f=>by
  match j,f with
  |0,_=>rw[p];exact J
  |1,_=>rw[q];exact K
 have F: ∀A d,yB w d→au d A 41 [.bool false,yT s a.n r,yi a.e,.bool false,yT u b.n t,yi b.e]→Rd d .u32 (yT s a.n r) (Dg.dg 4294967296 a.n)→Rd d .u32 (yT u b.n t) (Dg.dg 4294967296 b.n)→yC 130 #[.slice (some ⟨A,0,none⟩) 2 2] d (aeT d (loT x 1) (hiT x 1)):=fun A d _ g P Q=>by
  have y: ∀j,j<2→Rd d .u32 (.slice (four' s u none none j) (Dg.dg 4294967296 (x j).n).length (four' r t 0 0 j)) (Dg.dg 4294967296 (x j).n):=by
   intro j f
   match j,f with
   |0,_=>rw[p];exact P
   |1,_=>rw[q];exact Q
  have h:=FN A 2 x (four' s u none none) (four' r t 0 0) d (by omega) (by omega) g.lt
   (fun j f=>by match j,f with
    |0,_=>rw[p];exact g.c 0 rfl
    |1,_=>rw[q];exact g.c 3 rfl)
   (fun j f=>by match j,f with
    |0,_=>rw[p];exact g.c 1 rfl
    |1,_=>rw[q];exact g.c 4 rfl)
   (fun j f=>by match j,f with
    |0,_=>rw[p];exact g.c 2 rfl
    |1,_=>rw[q];exact g.c 5 rfl)
   (fun j k m f N q2=>dcmp9 _ _ (x j) (x k) m ⟨_,rfl,(y j f).l q2⟩ ⟨_,rfl,(y k N).l q2⟩ ((B j (by omega)).mono (by omega) (by omega)) ((B k (by omega)).mono (by omega) (by omega)))
  refine h.mono ?_;rintro z m ⟨rfl,q2⟩;exact⟨_,_,rfl,(y (loI x 1) (by have:=tB x 1;omega)).l q2,(y (hiI x 1) (by have:=wN x 1;omega)).l q2,q2⟩
 have G:Fit9 (hiT x 1):=RgT.hi B;obtain⟨lg,R,S⟩:=G.all;have T:bitLen (hiT x 1).n≤2000000000:=by have:=G.2;omega
 rw[M]
 by_cases c:(hiT x 1).n=0
 ·rw[if_pos c]
  exact great_none a b _ _ _ _ (loT x 1) (hiT x 1) 0 w D E rfl (fun d=>dsize_W a _ _ d) (fun d=>dsize_W b _ _ d) F (fun I H d _ o=>by
   have:=qB _ (hiT x 1) d ⟨_,rfl,o⟩
   rwa [show dJ (hiT x 1)=0 by unfold dJ;rw[if_pos c]] at this)
 ·rw[if_neg c]
  refine great_some a b _ _ _ _ (loT x 1) (hiT x 1) (dJ (hiT x 1)) _ w D E (by unfold dJ;rw[if_neg c];split<;>omega) (fun d=>dsize_W a _ _ d) (fun d=>dsize_W b _ _ d) F (fun I H d _ o=>qB _ (hiT x 1) d ⟨_,rfl,o⟩)
   (fun I H d _ o=>dtop_W (hiT x 1) _ _ (bitLen (hiT x 1).n:Int) _ d (IntWalk.i64_in _ ⟨by omega,by omega⟩) (fun m=>cN _ _ _ _ _ m) (fun m L=>by
    have:=kE _ _ m (o.l L) (Dg.small_dg _ _ (by omega)) (Dg.norm_dg _ _ (by omega)) (by omega);rw[Dg.vl_dg _ _ (by omega)] at this;refine this.mono ?_;rintro z X ⟨rfl,rfl⟩;exact⟨rfl,Below.refl _ _⟩))
theorem sln_any (k:Nat)(w:World)(b:k≤60000):yC 74 #[yi k] w (aeT w (lnLo k) (lnHi k)):=by
 obtain⟨u,v,B⟩:=inv_fits 26 k 0 (by omega) (by omega) b;obtain⟨x,y,-⟩:=inv_fits 4801 k 0 (by omega) (by omega) b;obtain⟨z,A,-⟩:=inv_fits 8749 k 0 (by omega) (by omega) b;obtain⟨v1,v2,r,s⟩:=lnA_V 26 k;obtain⟨-,-,Z,e4⟩:=lnA_V 4801 k;obtain⟨-,-,e5,e6⟩:=lnA_V 8749 k;obtain⟨C,D,E,F,h5,h6⟩:=ln_fits k b;have R:=fun a=>satanh_any 26 k a ⟨by omega,by omega⟩ b
 have S:=fun a=>satanh_any 4801 k a ⟨by omega,by omega⟩ b
 have T:=fun a=>satanh_any 8749 k a ⟨by omega,by omega⟩ b
 have G: ∀j,FitsT (fourT (lnA 26 k) (lnB 26 k) ⟨false,18,0⟩ ⟨false,18,0⟩ j):=by
  have o: ∀t:ak,t.e=0-(k:Int)→V k t< ((2^ (k+17):Nat):Int)→ -((2^ (k+17):Nat):Int)<V k t→FitsT (aK t ⟨false,18,0⟩):=fun t he U W=>by
   have m:=V_by18 k t;have l:((2^ (k+23):Nat):Int)=((2^ (k+17):Nat):Int)*64:=by rw[show k+23=k+17+6 by omega,Nat.pow_add,Int.natCast_mul];rfl
   have ht:(aK t ⟨false,18,0⟩).e=0-(k:Int):=by show t.e+0=_;omega
   refine fits_of_V (k:=k) (j:=k+23) (by omega) (by omega) b (by omega) ?_ ?_
   ·rw[m,l];generalize((2^ (k+17):Nat):Int)=P at*;omega
   ·rw[m,l];generalize((2^ (k+17):Nat):Int)=P at*;omega
  have a0:(XA 26 0 k:Int)+((3+3*NA 26 0 k:Nat):Int)< ((2^ (k+17):Nat):Int):=by rw[←Int.natCast_add];exact Int.ofNat_lt.2 B
  have ta:=o (lnA 26 k) r (by omega) (by omega);have q:=o (lnB 26 k) s (by omega) (by omega);intro j
  match j with
  |0=>exact ta
  |1=>exact ta
  |2=>exact q
  |_+3=>exact q
 have i:FitsT ⟨false,18,0⟩:=⟨⟨5,by omega,by decide⟩,by simp,by simp⟩;refine sumsLn2_W (lnA 26 k) (lnB 26 k) ⟨false,18,0⟩ (lnM k) (lnN k) (lnA 4801 k) (lnB 4801 k) (lnA 8749 k) (lnB 8749 k) (lnU k) (lnV k) _ _ _ _ _ _ _ w (fun a _=>R a) (fun a _=>spanWhole_W 18 ⟨false,18,0⟩ a (fun h=>whole_any 18 h (by omega)) (fun xo xc h=>Qy _ _ _ _ _ h))
  (fun d c g f Y X eo ec a _ H I p J=>stimes_any _ _ (lnA 26 k) (lnB 26 k) ⟨false,18,0⟩ ⟨false,18,0⟩ a ⟨_,_,rfl,H,I⟩ ⟨_,_,rfl,p,J⟩ u v i i G)
  (fun a _=>S a) (fun d c g f a=>scaled_ret (lnA 4801 k) (lnB 4801 k) d g c f 1 a ⟨by omega,by omega⟩ ⟨by omega,by omega⟩ ⟨by omega,by omega⟩)
  (fun a _=>T a) (fun d c g f a=>scaled_ret (lnA 8749 k) (lnB 8749 k) d g c f 3 a ⟨by omega,by omega⟩ ⟨by omega,by omega⟩ ⟨by omega,by omega⟩)
  (fun mo mc no nc po pc qo qc a _ K L rp M=>sminus_any _ _ (lnM k) (lnN k) (upT (lnA 4801 k) 1) (upT (lnB 4801 k) 1) a ⟨_,_,rfl,K,L⟩ ⟨_,_,rfl,rp,M⟩ C D (fits_up (n:=1) x (by omega) (by show(lnA 4801 k).e≤_;omega)) (fits_up (n:=1) y (by omega) (by show(lnB 4801 k).e≤_;omega)))
  (fun uo uc vo vc ro p so sc a _ O Q N rs=>splus_any _ _ (lnU k) (lnV k) (upT (lnA 8749 k) 3) (upT (lnB 8749 k) 3) a ⟨_,_,rfl,O,Q⟩ ⟨_,_,rfl,N,rs⟩ E F (fits_up (n:=3) z (by omega) (by show(lnA 8749 k).e≤_;omega)) (fits_up (n:=3) A (by omega) (by show(lnB 8749 k).e≤_;omega)))
def jo (R D L G:Int)(gr s up:Bool)(xs:List Nat)(e:Int):ak×Int:=
 if onC (aS xs e) (bk R D L G)=0 then
  (if dA R D L G gr (Dg.vl 4294967296 xs) e=true then
   (if G<ip R D L G gr s up xs.length (Dg.vl 4294967296 xs) e then(⟨false,0,0⟩,5) else bU ⟨kG s up xs.length,jU R D L G gr s up xs.length (Dg.vl 4294967296 xs) e,(ai R:Int)*ip R D L G gr s up xs.length (Dg.vl 4294967296 xs) e⟩)
   else(⟨false,0,0⟩,4))
 else(⟨false,0,0⟩,onC (aS xs e) (bk R D L G))
theorem GR (s:Bool)(e f:Int):bare ⟨s,0,e⟩=bare ⟨s,0,f⟩:=by simp[bare]
theorem S8 (s:Bool)(d:Nat)(k:Int):bare ⟨s,d,k⟩≠bare ⟨s,d+1,k⟩:=fun h=>by
 have a:V (max (-k) 0).toNat (bare ⟨s,d,k⟩)=V (max (-k) 0).toNat (bare ⟨s,d+1,k⟩):=by rw[h]
 rw[dw (by simp only;omega),dw (by simp only;omega),eV,eV] at a;simp only at a;have:=QI a.symm (Nat.ne_of_gt (Nat.mul_pos (by omega) (bG _)));have b:=Nat.eq_of_mul_eq_mul_right (bG _) this.2;omega
theorem uu {R D L G:Int}{gr up:Bool}{t:ak}{d:Nat}{k:Int}(g:bk R D L G=0)(a:aS (Dg.dg 4294967296 t.n) t.e=0)(b:dA R D L G gr t.n t.e=true)(f:jU R D L G gr t.s up (Dg.dg 4294967296 t.n).length t.n t.e=d)(h:ip R D L G gr t.s up (Dg.dg 4294967296 t.n).length t.n t.e=k)(c: ¬G<k):
  jo R D L G gr t.s up (Dg.dg 4294967296 t.n) t.e=bU ⟨kG t.s up (Dg.dg 4294967296 t.n).length,d,(ai R:Int)*k⟩:=by
 unfold jo;rw[Dg.vl_dg _ _ (by omega),if_pos (show onC (aS (Dg.dg 4294967296 t.n) t.e) (bk R D L G)=0 from(if_pos a).trans g),if_pos b,h,f,if_neg c]
theorem mJ {n:Nat}:(Dg.dg 4294967296 n).length=0↔n=0:=by
 rw[List.length_eq_zero_iff,Dg.dg_nil_iff _ _ (by omega)]
theorem Qx {xs a:List Nat}{E R D L G way:Int}(b:eA xs a E=0)(c:bk R D L G=0)(d:iC way=true):eE xs a E R D L G way=0:=by
 unfold eE;rw[if_pos (show jg (eA xs a E) (bk R D L G)=0 from(if_pos b).trans c),if_pos d]
theorem FQ {A:ak}{b:Int}{up:Bool}{d c:Int}(i:1≤b)(o:d≤A.e)(p:A.e+(bitLen A.n:Int)≤c)(f:d≤0)(g:0≤c):d≤(bare (aY A b up)).e∧(bare (aY A b up)).e≤c:=by
 by_cases a:(aY A b up).n=0
 ·unfold bare
  rw[if_pos a];exact⟨f,g⟩
 ·rcases mX A b up i with⟨_,h⟩| ⟨j,q,_,m,r,_,_,_,t,_,_,h⟩
  ·rw[h] at a⊢
   have k:=Nk a (Nat.le_of_lt (bitLen_spec A.n).1);unfold bare;rw[if_neg a]
   show d≤A.e+(tz A.n:Int)∧A.e+(tz A.n:Int)≤c
   omega
  ·rw[h] at a⊢
   have l:q+(if(up != A.s)=true then 1 else 0)≤2^b.toNat:=by split<;>omega
   have k:tz (q+(if(up != A.s)=true then 1 else 0))≤b.toNat:=Nk a l
   unfold bare;rw[if_neg a]
   show d≤A.e+(j:Int)+(tz (q+(if(up != A.s)=true then 1 else 0)):Int)∧A.e+(j:Int)+(tz (q+(if(up != A.s)=true then 1 else 0)):Int)≤c
   omega
theorem plus_bits {E:Int}{a b:ak}(c: -1120≤a.e∧a.e≤E∧a.n<2^1000)(d: -1120≤b.e∧b.e≤E∧b.n<2^1000)(m:0≤E): -1120≤(aG a b).e∧(aG a b).e+(bitLen (aG a b).n:Int)≤E+1001:=by
 have k:=plus_e_min a b;refine⟨by rw[k];omega, ?_⟩;have j:=dH (K:=1120) (a:=a) (b:=b) (by omega) (by omega);have g: ∀t:ak,-1120≤t.e→t.e≤E→t.n<2^1000→(V 1120 t).natAbs<2^ (E.toNat+2120):=fun t r u l=>by
  rw[eV];have:(sz t.s (t.n*2^ (t.e+((1120:Nat):Int)).toNat)).natAbs=t.n*2^ (t.e+((1120:Nat):Int)).toNat:=by
   unfold sz
   split<;>omega
  rw[this];exact mul_two l (by omega)
 have p:=g a c.1 c.2.1 c.2.2;have q:=g b d.1 d.2.1 d.2.2;have f:(V 1120 (aG a b)).natAbs<2^ (E.toNat+2121):=by
  rw[j,show E.toNat+2121=E.toNat+2120+1 by omega,Nat.pow_succ]
  generalize 2^ (E.toNat+2120)=P at*;omega
 rw[eV] at f;have h:(aG a b).n*2^ ((aG a b).e+((1120:Nat):Int)).toNat<2^ (E.toNat+2121):=by
  refine Nat.lt_of_le_of_lt ?_ f;generalize(aG a b).n*2^ ((aG a b).e+((1120:Nat):Int)).toNat=M;unfold sz
  split<;>omega
 have i:(aG a b).n<2^ (E.toNat+2121-((aG a b).e+((1120:Nat):Int)).toNat):=by
  refine Nat.lt_of_mul_lt_mul_right (a:=2^ ((aG a b).e+((1120:Nat):Int)).toNat) ?_;rw[←Nat.pow_add,Nat.sub_add_cancel (by omega)];exact h
 have o:=bF _ _ i;omega
end Go.Proofs.YthhiidikgchdeaaGreatDoor
