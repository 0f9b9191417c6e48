/-
  Texts laid together: Dy2, Lk, Lk2, Aw0, Co10, Co9, Co7, Co19, Co11, Ce1, Gr1, Gr2, Gr5, Gm1, Gk2, Gr7, Ce10.
-/
import Derived.Test.YtpgijbdgljkeeaaGreatDoorUx08
import Derived.Test.YtpgijbdgljkeeaaGreatDoorUx09
import Derived.Test.YtpgijbdgljkeeaaGreatDoorUx10
set_option maxRecDepth 100000
set_option maxHeartbeats 3200000
namespace Go.Proofs.YtpgijbdgljkeeaaGreatDoor
open _root_.Go.Proofs.Tryz
open Go.RowKit
theorem aN (w:World)(k:IntKind):Rd w k yN []:=(aQ w 0 0 k).rd
theorem iK (b:Bool)(ao:Option Addr)(n ca:Nat)(e:Int)(w:World):yC 216 #[ydV b (.slice ao n ca) e] w (yR w (ydV b (.slice ao n ca) e)):=by
 go_enter func216,ntmps216
 go_wp2
 go_returns
 exact⟨rfl,((Below.refl _ _).alloc (Nat.le_refl _) _).alloc (by simp[World.size_alloc]) _⟩
theorem au.cs3 {w:World}{b:Nat}{ty:TypeId}{x0 x1 x2:Value}{l:List Value}(h:au w b ty (x0::x1::x2::l)):w.cell? ⟨b,0,none⟩=some x0∧w.cell? ⟨b,1,none⟩=some x1∧w.cell? ⟨b,2,none⟩=some x2:=⟨h.c 0 rfl,h.c 1 rfl,h.c 2 rfl⟩
theorem au.cs4 {w:World}{b:Nat}{ty:TypeId}{x0 x1 x2 x3:Value}{l:List Value}(h:au w b ty (x0::x1::x2::x3::l)):w.cell? ⟨b,0,none⟩=some x0∧w.cell? ⟨b,1,none⟩=some x1∧w.cell? ⟨b,2,none⟩=some x2∧w.cell? ⟨b,3,none⟩=some x3:=⟨h.c 0 rfl,h.c 1 rfl,h.c 2 rfl,h.c 3 rfl⟩
theorem au.cs6 {w:World}{b:Nat}{ty:TypeId}{x0 x1 x2 x3 x4 x5:Value}{l:List Value}(h:au w b ty (x0::x1::x2::x3::x4::x5::l)):w.cell? ⟨b,0,none⟩=some x0∧w.cell? ⟨b,1,none⟩=some x1∧w.cell? ⟨b,2,none⟩=some x2∧w.cell? ⟨b,3,none⟩=some x3∧w.cell? ⟨b,4,none⟩=some x4∧w.cell? ⟨b,5,none⟩=some x5:=⟨h.c 0 rfl,h.c 1 rfl,h.c 2 rfl,h.c 3 rfl,h.c 4 rfl,h.c 5 rfl⟩
theorem au.cs8 {w:World}{b:Nat}{ty:TypeId}{x0 x1 x2 x3 x4 x5 x6 x7:Value}{l:List Value}(h:au w b ty (x0::x1::x2::x3::x4::x5::x6::x7::l)):w.cell? ⟨b,0,none⟩=some x0∧w.cell? ⟨b,1,none⟩=some x1∧w.cell? ⟨b,2,none⟩=some x2∧w.cell? ⟨b,3,none⟩=some x3∧w.cell? ⟨b,4,none⟩=some x4∧w.cell? ⟨b,5,none⟩=some x5∧w.cell? ⟨b,6,none⟩=some x6∧w.cell? ⟨b,7,none⟩=some x7:=⟨h.c 0 rfl,h.c 1 rfl,h.c 2 rfl,h.c 3 rfl,h.c 4 rfl,h.c 5 rfl,h.c 6 rfl,h.c 7 rfl⟩
theorem au.cs9 {w:World}{b:Nat}{ty:TypeId}{x0 x1 x2 x3 x4 x5 x6 x7 x8:Value}{l:List Value}(h:au w b ty (x0::x1::x2::x3::x4::x5::x6::x7::x8::l)):w.cell? ⟨b,0,none⟩=some x0∧w.cell? ⟨b,1,none⟩=some x1∧w.cell? ⟨b,2,none⟩=some x2∧w.cell? ⟨b,3,none⟩=some x3∧w.cell? ⟨b,4,none⟩=some x4∧w.cell? ⟨b,5,none⟩=some x5∧w.cell? ⟨b,6,none⟩=some x6∧w.cell? ⟨b,7,none⟩=some x7∧w.cell? ⟨b,8,none⟩=some x8:=⟨h.c 0 rfl,h.c 1 rfl,h.c 2 rfl,h.c 3 rfl,h.c 4 rfl,h.c 5 rfl,h.c 6 rfl,h.c 7 rfl,h.c 8 rfl⟩
theorem cq {w:World}{k:IntKind}{v:Value}{zs:List Nat}(h:Rd w k v zs)(hn:Dg.Norm zs){b:Nat}{ty:TypeId}{vs:List Value}(hl:au w b ty vs)(hv0: ∀x∈vs,∀n:Int,n≠0→x≠ .int k n):wF b v zs:=fun hp a n c hv=>by
 obtain⟨ao,cap,rfl,_,_,h3⟩:=h;obtain⟨g,off,rfl,hc⟩:=h3 hp
 cases hv
 have h0:=hc (zs.length-1) (by omega)
 show g≠b
 intro e;subst e;have hnn:zs.getD (zs.length-1) 0≠0:=hn (by intro h;rw[h] at hp;simp at hp);unfold World.cell? at h0;simp only at h0;rw[hl] at h0;simp only[Option.isSome_none,Bool.false_eq_true,if_false,List.getElem?_toArray] at h0;exact hv0 _ (List.mem_of_getElem? h0) _ (by omega) rfl
theorem aX {w:World}{k:IntKind}{v:Value}{zs:List Nat}(h:Rd w k v zs){b:Nat}{ty:TypeId}{vs:List Value}(hl:au w b ty vs)(hv0: ∀x∈vs,∀n:Int,x≠ .int k n):wF b v zs:=fun hp a n c hv=>by
 obtain⟨ao,cap,rfl,_,_,h3⟩:=h;obtain⟨g,off,rfl,hc⟩:=h3 hp
 cases hv
 have h0:=hc 0 hp
 show g≠b
 intro e;subst e;unfold World.cell? at h0;simp only at h0;rw[hl] at h0;simp only[Option.isSome_none,Bool.false_eq_true,if_false,List.getElem?_toArray] at h0;exact hv0 _ (List.mem_of_getElem? h0) _ rfl
theorem Cd (b:Nat)(ty:TypeId): ∀(vs us pre:List Value) (w:World),au w b ty (pre++us)→us.length=vs.length→au (w.setCells b pre.length vs) b ty (pre++vs)
 | [],us,pre,w,h,hl=>by
  obtain rfl:us=[]:=List.eq_nil_of_length_eq_zero hl;exact h
 |v::r,us,pre,w,h,hl=>by
  obtain⟨u,us',rfl⟩: ∃u us',us=u::us':=by
   cases us with
   |nil=>simp at hl
   |cons u us'=>exact⟨u,us',rfl⟩
  rw[World.setCells];have h1:=h.set pre.length v;have e1:(pre++u::us').set pre.length v=(pre++[v])++us':=by simp
  rw[e1] at h1;have h2:=Cd b ty r us' (pre++[v]) _ h1 (by simpa using hl);have e2:(pre++[v]).length=pre.length+1:=by simp
  rw[e2] at h2;have e3:pre++[v]++r=pre++v::r:=by simp
  rw[e3] at h2;exact h2
theorem au.sets {w:World}{b:Nat}{tb:TypeId}{us:List Value}(h:au w b tb us)(vs:List Value)(hl:us.length=vs.length):au (w.setCells b 0 vs) b tb vs:=by
 have:=Cd b tb vs us [] w h hl
 simpa using this
theorem cA (w:World)(c0:List Value)(t0:TypeId): ∃W,w.alloc (.cells c0.toArray t0)=W∧au W w.heap.size t0 c0∧yB w W:=
 ⟨_,rfl,ah w c0 t0,af w _⟩
theorem tk {P:Program}{md:Region.Mode}{ops:Array Oper}{Q:Exit→Act→World→Prop}{S:World→Prop}{oi:Oper}{fuel:Nat}{listed:Array Bool}{a:Act}{w:World}(i:Nat)(v:Value)(hi:ops[i]? =some oi)
  (hb:(Region.noSelect ops&&(Region.free md ops listed i&&((Region.ready md ops listed).contains i&&Region.wanted oi (yielded ops a.tmps))))=true)
  (hQ: ∀c a w,Q (.panic c) (a.put oi.dst v) w→Q (.panic c) a w) (hv: ∀w0,S w0→(execOp a.eval oi).run P w0= .ok (.value v) w0) (hS:S w)
  (h:wpAnyH P md ops Q S fuel (listed.setIfInBounds i true) (a.put oi.dst v) w):wpAnyH P md ops Q S (fuel+1) listed a w:=by
 simp only[Bool.and_eq_true] at hb;exact wpAnyH_take hi hb.1 hb.2.1 hb.2.2.1 hQ (Or.inl ⟨hb.2.2.2,hv⟩) hS h
def iS (f:Nat):Nat→Nat→List Nat→List Nat
 |0,_,zs=>zs
 |c+1,x,zs=>iS f c (x/2) (zs.set ((f+c)/8) (zs.getD ((f+c)/8) 0|||x % 2*2^ (7-(f+c) % 8)))
theorem Io {B:Nat}{zs:List Nat}(h:Dg.Small B zs)(i x:Nat)(hx:x<B):Dg.Small B (zs.set i x):=by
 intro k
 by_cases hk:i<zs.length
 ·rw[Dg.getD_set _ _ _ _ hk]
  by_cases e:i=k
  ·rw[if_pos e];exact hx
  ·rw[if_neg e];exact h k
 ·rw[List.set_eq_of_length_le (by omega)]
  exact h k
theorem tm (k:Nat)(hk:1≤k∧k≤8)(w:World):yC 154 #[.agg (tS k).toArray] w (yR w (yi ((frN k:Nat):Int))):=by
 have hsf:=cD
 rcases bO hk with rfl|rfl|rfl|rfl|rfl|rfl|rfl|rfl
 all_goals
  change Calls _ _ #[.agg #[_,_,_,_,_,_,_,_,_]] _ _
  go_enter func154,ntmps154
  go_wp2
  go_ret
  exact⟨rfl,af _ _⟩
theorem jy (k:Nat)(hk:1≤k∧k≤8)(w:World):yC 191 #[.agg (tS k).toArray] w (yR w (yi ((kp k:Nat):Int))):=by
 have hsf:=cD
 rcases bO hk with rfl|rfl|rfl|rfl|rfl|rfl|rfl|rfl
 all_goals
  change Calls _ _ #[.agg #[_,_,_,_,_,_,_,_,_]] _ _
  go_enter func191,ntmps191
  go_wp2
  go_ret
  exact⟨rfl,af _ _⟩
theorem xX (k:Nat)(hk:1≤k∧k≤8)(w:World):yC 155 #[.agg (tS k).toArray] w (yR w (.int .u64 ((gW k:Nat):Int))):=by
 have hsf:=cD
 rcases bO hk with rfl|rfl|rfl|rfl|rfl|rfl|rfl|rfl
 all_goals
  change Calls _ _ #[.agg #[_,_,_,_,_,_,_,_,_]] _ _
  go_enter func155,ntmps155
  go_wp2
  go_ret
  exact⟨rfl,af _ _⟩
theorem aa3 {zs cur:List Nat}{i:Nat}(h:WI zs cur i)(hi:2*i+1<zs.length):WI zs ((cur.set (2*i) (cur.getD (2*i+1) 0)).set (2*i+1) (cur.getD (2*i) 0)) (i+1):=by
 obtain⟨h1,h3⟩:=h;refine⟨by simpa using h1,fun k hk=> ?_⟩
 rw[Dg.getD_set _ _ _ _ (by simp;omega),Dg.getD_set _ _ _ _ (by omega)]
 by_cases e1:2*i+1=k
 ·rw[if_pos e1,if_pos (by omega),h3 _ (by omega),if_neg (by omega),←e1]
  congr 1
  omega
 ·rw[if_neg e1]
  by_cases e2:2*i=k
  ·rw[if_pos e2,if_pos (by omega),h3 _ (by omega),if_neg (by omega),←e2]
   congr 1
   omega
  ·rw[if_neg e2,h3 k hk]
   by_cases e3:k<2*i
   ·rw[if_pos e3,if_pos (by omega)]
   ·rw[if_neg e3,if_neg (by omega)]
theorem il (f:Nat): ∀(c x:Nat) (zs:List Nat),(iS f c x zs).length=zs.length
 |0,_,_=>rfl
 |c+1,x,zs=>by rw[iS,il f c];exact List.length_set
theorem mj (f:Nat): ∀(c x:Nat) (zs:List Nat),Dg.Small 256 zs→Dg.Small 256 (iS f c x zs)
 |0,_,_,h=>h
 |c+1,x,zs,h=>by
  rw[iS];exact mj f c _ _ (Io h _ _ (Nat.or_lt_two_pow (n:=8) (h _) (Cf _ _)))
theorem zD (R D L G fam sz ex:Int)(gr ng:Bool)(F:Nat)(e f:Int)(w:World)(c:Int)(h0:e=0)(hc:(if f=0 then 1 else 2)=c):yC 151 #[ylV R D L G gr sz ex fam F,yfV ng e f] w (yR w (yi c)):=by
 have hsf:=cD;have l0:=(ah w (ylL R D L G gr sz ex fam F) 124).l (af _ (.cells (yfA ng e f) 127));have m0:=ah (w.alloc (.cells (ylA R D L G gr sz ex fam F) 124)) (yfL ng e f) 127;have b0:=aa (af w (.cells (ylA R D L G gr sz ex fam F) 124)) (af _ (.cells (yfA ng e f) 127));rw[World.size_alloc] at m0;subst h0 hc;have hz:=fun b=>Aj b
 by_cases hf:f=0
 ·subst hf
  have HZ:Hid (∀w1,yC 152 #[.bool true] w1 fun z w'=>z= .returned (yi 1)∧w'=w1):=hz true
  clear hz
  go_enter func151,ntmps151
  go_wp2_with fail
  refine(HZ.out _).mono ?_;rintro z w1 ⟨rfl,rfl⟩
  go_wp2
  go_ret
  exact⟨rfl,b0⟩
 ·have hfb:(f==0)=false:=by simpa using hf
  have HZ:Hid (∀w1,yC 152 #[.bool false] w1 fun z w'=>z= .returned (yi 2)∧w'=w1):=hz false
  rw[if_neg hf];clear hz hf
  go_enter func151,ntmps151
  go_wp2_with fail
  refine(HZ.out _).mono ?_;rintro z w1 ⟨rfl,rfl⟩
  go_wp2
  go_ret
  exact⟨rfl,b0⟩
theorem XF (va:Value)(xs:List Nat)(w:World)(ha:Rd w .u32 va xs)(sa:Dg.Small 4294967296 xs)(hl:xs.length≤2):
  yC 217 #[va] w fun z w'=>z= .returned (.int .u64 ((Dg.vl 4294967296 xs:Nat):Int))∧w'=w:=by
 obtain⟨ao,ca,rfl,-,-,hca⟩:=ha
 go_enter func217,ntmps217
 go_wp2
 go_loop [3,4] (fun xv iv=> ∃j x:Nat,j≤xs.length∧iv=yi ((j:Int)-1)∧xv= .int .u64 (x:Int)∧Hid (x=Dg.vl 4294967296 (xs.drop j))) (fun _ iv=>(intOf iv+1).toNat)
 case atStart=>exact⟨xs.length,0,Nat.le_refl _,by go_num,rfl,by rw[List.drop_of_length_le (Nat.le_refl _)];rfl⟩
 case round=>
  obtain⟨j,x,hj,rfl,rfl,HX⟩:=hrel
  by_cases h0:0<j
  ·obtain⟨i,rfl⟩: ∃i,j=i+1:=⟨j-1,by omega⟩
   rw[show((i+1:Nat):Int)-1=(i:Int) from by omega]
   obtain⟨b,off,rfl,hcell⟩:=hca (by omega);have hc:=hcell i (by omega);have hs:=sa i;have hx:=HX.out;have hxl:x<4294967296:=by
    have h1:=Dg.vl_lt 4294967296 (xs.drop (i+1)) (fun k=>by
     rw[List.getD_eq_getElem?_getD,List.getElem?_drop,←List.getD_eq_getElem?_getD];exact sa _)
    rw[←hx,List.length_drop] at h1;have h2:(4294967296:Nat)^ (xs.length-(i+1))≤4294967296^1:=Nat.pow_le_pow_right (by omega) (by omega);omega
   have hst:Dg.vl 4294967296 (xs.drop i)=xs.getD i 0+4294967296*x:=by
    rw[hx,List.drop_eq_getElem_cons (show i<xs.length by omega),Dg.vl]
    simp[List.getD_eq_getElem?_getD,show i<xs.length by omega]
   obtain⟨a,ea⟩: ∃a,xs.getD i 0=a:=⟨_,rfl⟩;rw[ea] at hc hs hst;have hil:i<xs.length:=by omega
   have HST:Hid _:=hst;clear ea hst hx hcell hca HX
   go_wp2
   have hst:=HST.out;refine⟨⟨i,a+4294967296*x,by omega,rfl, ?_,hst.symm⟩, ?_⟩
   ·rw[TZ x a hxl hs]
   ·simp only[intOf]
    omega
  ·have hd: ¬((0:Int)≤(j:Int)-1):=by omega
   have HJ:Hid (j=0):=(by omega:j=0)
   go_wp2
   go_ret
   have h1:=HJ.out;subst h1;have:=HX.out;rw[List.drop_zero] at this;rw[←this];exact⟨rfl,rfl⟩
theorem MW (D L G:Int)(gr:Bool)(w:World):
  yC 161 #[ygV 2 D L G gr] w (yR w (yi (bk 2 D L G))):=by
 have bA:=af w (.cells (ygA 2 D L G gr) 40);have l1:=ah w (ygL 2 D L G gr) 40;have c1:=l1.c 1 rfl;have c2:=l1.c 2 rfl;have c3:=l1.c 3 rfl;obtain⟨C,hC⟩: ∃C,bk 2 D L G=C:=⟨_,rfl⟩;have HC3:Hid (D<1∨120<D∨eJ 17000 L=true∨eJ 17000 G=true∨G<L→3=C):=fun h=>by rw[←hC];exact(zp (R:=2) (by omega) h).symm
 have HC0:Hid (¬(D<1∨120<D∨eJ 17000 L=true∨eJ 17000 G=true∨G<L)→0=C):=fun h=>by rw[←hC];exact(Bm (R:=2) (by omega) h).symm
 rw[hC];have H1:Hid (∀w1,yC 160 #[yi L,yi 17000] w1 fun z w'=>z= .returned (.bool (eJ 17000 L))∧w'=w1):=fun w1=>nK L 17000 w1 (by omega) (by omega)
 have H2:Hid (∀w1,yC 160 #[yi G,yi 17000] w1 fun z w'=>z= .returned (.bool (eJ 17000 G))∧w'=w1):=fun w1=>nK G 17000 w1 (by omega) (by omega)
 obtain⟨bl,hbl⟩: ∃b,eJ 17000 L=b:=⟨_,rfl⟩;obtain⟨bg,hbg⟩: ∃b,eJ 17000 G=b:=⟨_,rfl⟩;rw[hbl] at H1 HC3 HC0;rw[hbg] at H2 HC3 HC0;clear hC hbl hbg
 by_cases d1:D<1
 ·obtain rfl:=HC3.out (.inl d1)
  go_enter func161,ntmps161
  go_wp2
  go_ret
  exact⟨rfl,bA⟩
 ·by_cases d2:120<D
  ·obtain rfl:=HC3.out (.inr (.inl d2))
   go_enter func161,ntmps161
   go_wp2
   go_ret
   exact⟨rfl,bA⟩
  ·cases bl
   ·cases bg
    ·by_cases d3:G<L
     ·obtain rfl:=HC3.out (.inr (.inr (.inr (.inr d3))))
      go_enter func161,ntmps161
      go_wp2_with fail
      refine(H1.out _).mono ?_;rintro z w2 ⟨rfl,rfl⟩
      go_wp2_with fail
      refine(H2.out _).mono ?_;rintro z w3 ⟨rfl,rfl⟩
      go_wp2
      go_ret
      exact⟨rfl,bA⟩
     ·obtain rfl:=HC0.out (by simp[d1,d2,d3])
      go_enter func161,ntmps161
      go_wp2_with fail
      refine(H1.out _).mono ?_;rintro z w2 ⟨rfl,rfl⟩
      go_wp2_with fail
      refine(H2.out _).mono ?_;rintro z w3 ⟨rfl,rfl⟩
      go_wp2
      go_ret
      exact⟨rfl,bA⟩
    ·obtain rfl:=HC3.out (.inr (.inr (.inr (.inl rfl))))
     go_enter func161,ntmps161
     go_wp2_with fail
     refine(H1.out _).mono ?_;rintro z w2 ⟨rfl,rfl⟩
     go_wp2_with fail
     refine(H2.out _).mono ?_;rintro z w3 ⟨rfl,rfl⟩
     go_wp2
     go_ret
     exact⟨rfl,bA⟩
   ·obtain rfl:=HC3.out (.inr (.inr (.inl rfl)))
    go_enter func161,ntmps161
    go_wp2_with fail
    refine(H1.out _).mono ?_;rintro z w2 ⟨rfl,rfl⟩
    go_wp2
    go_ret
    exact⟨rfl,bA⟩
theorem Ky (D L G:Int)(gr:Bool)(w:World):
  yC 161 #[ygV 16 D L G gr] w (yR w (yi (bk 16 D L G))):=by
 have bA:=af w (.cells (ygA 16 D L G gr) 40);have l1:=ah w (ygL 16 D L G gr) 40;have c1:=l1.c 1 rfl;have c2:=l1.c 2 rfl;have c3:=l1.c 3 rfl;obtain⟨C,hC⟩: ∃C,bk 16 D L G=C:=⟨_,rfl⟩;have HC3:Hid (D<1∨120<D∨eJ 4000 L=true∨eJ 4000 G=true∨G<L→3=C):=fun h=>by rw[←hC];exact(zp (R:=16) (by omega) h).symm
 have HC0:Hid (¬(D<1∨120<D∨eJ 4000 L=true∨eJ 4000 G=true∨G<L)→0=C):=fun h=>by rw[←hC];exact(Bm (R:=16) (by omega) h).symm
 rw[hC];have H1:Hid (∀w1,yC 160 #[yi L,yi 4000] w1 fun z w'=>z= .returned (.bool (eJ 4000 L))∧w'=w1):=fun w1=>nK L 4000 w1 (by omega) (by omega)
 have H2:Hid (∀w1,yC 160 #[yi G,yi 4000] w1 fun z w'=>z= .returned (.bool (eJ 4000 G))∧w'=w1):=fun w1=>nK G 4000 w1 (by omega) (by omega)
 obtain⟨bl,hbl⟩: ∃b,eJ 4000 L=b:=⟨_,rfl⟩;obtain⟨bg,hbg⟩: ∃b,eJ 4000 G=b:=⟨_,rfl⟩;rw[hbl] at H1 HC3 HC0;rw[hbg] at H2 HC3 HC0;clear hC hbl hbg
 by_cases d1:D<1
 ·obtain rfl:=HC3.out (.inl d1)
  go_enter func161,ntmps161
  go_wp2
  go_ret
  exact⟨rfl,bA⟩
 ·by_cases d2:120<D
  ·obtain rfl:=HC3.out (.inr (.inl d2))
   go_enter func161,ntmps161
   go_wp2
   go_ret
   exact⟨rfl,bA⟩
  ·cases bl
   ·cases bg
    ·by_cases d3:G<L
     ·obtain rfl:=HC3.out (.inr (.inr (.inr (.inr d3))))
      go_enter func161,ntmps161
      go_wp2_with fail
      refine(H1.out _).mono ?_;rintro z w2 ⟨rfl,rfl⟩
      go_wp2_with fail
      refine(H2.out _).mono ?_;rintro z w3 ⟨rfl,rfl⟩
      go_wp2
      go_ret
      exact⟨rfl,bA⟩
     ·obtain rfl:=HC0.out (by simp[d1,d2,d3])
      go_enter func161,ntmps161
      go_wp2_with fail
      refine(H1.out _).mono ?_;rintro z w2 ⟨rfl,rfl⟩
      go_wp2_with fail
      refine(H2.out _).mono ?_;rintro z w3 ⟨rfl,rfl⟩
      go_wp2
      go_ret
      exact⟨rfl,bA⟩
    ·obtain rfl:=HC3.out (.inr (.inr (.inr (.inl rfl))))
     go_enter func161,ntmps161
     go_wp2_with fail
     refine(H1.out _).mono ?_;rintro z w2 ⟨rfl,rfl⟩
     go_wp2_with fail
     refine(H2.out _).mono ?_;rintro z w3 ⟨rfl,rfl⟩
     go_wp2
     go_ret
     exact⟨rfl,bA⟩
   ·obtain rfl:=HC3.out (.inr (.inr (.inl rfl)))
    go_enter func161,ntmps161
    go_wp2_with fail
    refine(H1.out _).mono ?_;rintro z w2 ⟨rfl,rfl⟩
    go_wp2
    go_ret
    exact⟨rfl,bA⟩
theorem vE (R D L G:Int)(gr:Bool)(w:World):
  yC 161 #[ygV R D L G gr] w (yR w (yi (bk R D L G))):=by
 by_cases h2:R=2
 ·subst h2
  exact MW D L G gr w
 ·by_cases h16:R=16
  ·subst h16
   exact Ky D L G gr w
  ·rw[FD h2 h16]
   have bA:=af w (.cells (ygA R D L G gr) 40);have e1:(R != 2)=true:=by simp;exact h2
   have e2:(R != 16)=true:=by simp;exact h16
   go_enter func161,ntmps161
   go_wp2
   go_ret
   exact⟨rfl,bA⟩
theorem FE (R D L G:Int)(gr:Bool)(top:Int)(w:World)(h1:1≤D)(h2:D≤120)(t1: -1000000≤top)(t2:top≤1000000):
  yC 167 #[ygV R D L G gr,yi top] w (yR w (yi (aT R D top))):=by
 have b1:=af w (.cells (ygA R D L G gr) 202);have l1:=ah w (ygL R D L G gr) 202;have HW:Hid (yJ 170 #[ygV R D L G gr] (yi (xg R))):=fun w1=>tY R D L G gr w1
 have hwl:=eN R;have hfl:=Qd top (ai R) (by omega);unfold aT;rw[jf] at HW;obtain⟨wd,hwd⟩: ∃k,ai R=k:=⟨_,rfl⟩;rw[hwd] at HW hwl hfl⊢;have hne:((wd:Int)==0)=false:=by simp;omega
 have hne2: ¬(wd:Int)=0:=by omega
 have q1: -1000000≤top.tdiv wd∧top.tdiv wd≤1000000:=by
  have:=Int.natAbs_tdiv_le_natAbs top wd;omega
 have q2: -1000004≤top.tdiv wd*wd∧top.tdiv wd*wd≤1000004:=by
  have e:=Int.tmod_add_mul_tdiv top wd;have e2:(wd:Int)*top.tdiv wd=top.tdiv wd*wd:=Int.mul_comm _ _;have hx:=Int.tmod_lt_of_pos top (b:=(wd:Int)) (by omega);have hy:=Int.tmod_lt_of_pos (-top) (b:=(wd:Int)) (by omega);rw[Int.neg_tmod] at hy;omega
 obtain⟨q,hq⟩: ∃q,top.tdiv wd=q:=⟨_,rfl⟩;rw[hq] at hfl q1 q2;obtain⟨m,hm⟩: ∃m,q*(wd:Int)=m:=⟨_,rfl⟩;rw[hm] at hfl q2;have w0:IntKind.i64.wrap q=q:=IntWalk.i64_in _ ⟨by omega,by omega⟩;have w1:IntKind.i64.wrap m=m:=IntWalk.i64_in _ ⟨by omega,by omega⟩;have w2:IntKind.i64.wrap (D-1)=D-1:=IntWalk.i64_in _ ⟨by omega,by omega⟩;clear hwd
 by_cases hlt:top<m
 ·rw[hfl.1 hlt]
  have w3:IntKind.i64.wrap (q-1)=q-1:=IntWalk.i64_in _ ⟨by omega,by omega⟩;have w4:IntKind.i64.wrap (q-1-(D-1))=q-1-(D-1):=IntWalk.i64_in _ ⟨by omega,by omega⟩;clear hfl
  go_enter func167,ntmps167
  go_wp2_with fail
  refine(HW.out _).mono ?_;rintro z w3' ⟨rfl,b3⟩;have b03:=aa b1 b3;have c1:=(l1.l b3).c 1 rfl
  go_wp2
  go_ret
  exact⟨rfl,b03⟩
 ·rw[hfl.2 hlt]
  have hltf:decide (top<m)=false:=by simp;omega
  have w4:IntKind.i64.wrap (q-(D-1))=q-(D-1):=IntWalk.i64_in _ ⟨by omega,by omega⟩;clear hfl
  go_enter func167,ntmps167
  go_wp2_with fail
  refine(HW.out _).mono ?_;rintro z w3' ⟨rfl,b3⟩;have b03:=aa b1 b3;have c1:=(l1.l b3).c 1 rfl
  go_wp2
  go_ret
  exact⟨rfl,b03⟩
theorem aaI (v:Value)(n:Nat)(w:World)(h:Rd w .u32 v (Dg.dg 4294967296 n)):yC 103 #[v] w fun z w'=>z= .returned (.bool (decide (n % 2=1)))∧w'=w:=by
 have hh:=Sb 4294967296 n (by omega);have hnl:=Dg.dg_nil_iff 4294967296 n (by omega);obtain⟨ao,ca,rfl⟩:=h.shape;obtain⟨h1,h2,h3⟩:=iQ h;have hm2:n % 4294967296 % 2=n % 2:=by omega
 obtain⟨m,hm⟩: ∃m,n % 4294967296=m:=⟨_,rfl⟩;rw[hm] at hh hm2;have hml:m<4294967296:=by omega
 by_cases h0:n=0
 ·have hl:(Dg.dg 4294967296 n).length=0:=by rw[List.length_eq_zero_iff];exact hnl.2 h0
  rw[hl];have hd:decide (n % 2=1)=false:=by rw[h0];rfl
  rw[hd];clear h0 hh hm2 hm hml hnl h1 h2 h3 h hl hd
  go_enter func103,ntmps103
  go_wp2
  go_ret
  exact⟨rfl,rfl⟩
 ·have hl:0< (Dg.dg 4294967296 n).length:=by
   rcases Nat.eq_zero_or_pos (Dg.dg 4294967296 n).length with h4|h4
   ·exact absurd (hnl.1 (List.length_eq_zero_iff.1 h4)) h0
   ·exact h4
  obtain⟨b,off,rfl,hc⟩:=h3 hl;have c0:=hc 0 hl;rw[hh,Nat.add_zero] at c0;obtain⟨L,hL⟩: ∃L,(Dg.dg 4294967296 n).length=L:=⟨_,rfl⟩;rw[hL] at hl h1⊢;have hl0:(0:Int)< (L:Int):=by omega
  have ht:(m:Int).tmod 2=((m % 2:Nat):Int):=by
   rw[Int.tmod_eq_emod_of_nonneg (by omega)];omega
  have ht2:(m:Int) % 2=((m % 2:Nat):Int):=by omega
  clear hc h3 hL hh hm hnl h
  by_cases hodd:n % 2=1
  ·have e1:m % 2=1:=by omega
   rw[e1] at ht ht2
   go_enter func103,ntmps103
   go_wp2
   go_ret
   simp[hodd]
  ·have e1:m % 2=0:=by omega
   rw[e1] at ht ht2
   go_enter func103,ntmps103
   go_wp2
   go_ret
   simp[hodd]
def rf (R D L:Int)(gr qs:Bool)(N M:Nat)(E way:Int):Bool:=
 gY way (dm ((gF R D L gr N M E*2:Nat):Int) ((dX M (shP R D L gr N M E):Nat):Int)) (decide (cH R D L gr N M E % 2=1)) qs
def fM (R D L:Int)(gr qs:Bool)(N M:Nat)(E way:Int):Nat:=
 if decide (gF R D L gr N M E=0)=false∧rf R D L gr qs N M E way=true then cH R D L gr N M E+1 else cH R D L gr N M E
def cI (R D L G:Int)(gr qs:Bool)(N M:Nat)(E way:Int):fz:=
 if fM R D L gr qs N M E way=0 then⟨qs,0,0,decide (gF R D L gr N M E=0),false,decide (aT R D (dY N M E)<L)⟩
 else⟨qs,io R D (fM R D L gr qs N M E way),gD R D (fM R D L gr qs N M E way) (dj R D L gr N M E),decide (gF R D L gr N M E=0),decide (G<gD R D (fM R D L gr qs N M E way) (dj R D L gr N M E)),decide (aT R D (dY N M E)<L)⟩
theorem uh (R D L:Int)(gr:Bool)(N M:Nat)(E:Int)(h1:1≤D)(hN:N≠0)(hM:M≠0)(p:Int):io R D (cH R D L gr N M E)=cH R D L gr N M E∧gD R D (cH R D L gr N M E) p=p:=by
 have h:=rP R D L gr N M E h1 hN hM;unfold io gD;rw[if_neg (by omega),if_neg (by omega)];exact⟨rfl,rfl⟩
theorem CD (R D:Int)(d:Nat):io R D d=0↔d=0:=by
 unfold io;have h1:=bG (ai R*D.toNat);have h2:=bG (ai R*(D-1).toNat)
 split<;>omega
theorem KL (R D L:Int)(gr qs:Bool)(N M:Nat)(E way:Int):cH R D L gr N M E≤fM R D L gr qs N M E way:=by
 unfold fM
 split<;>omega
theorem kJ {R D L G:Int}(gr qs:Bool)(N M:Nat)(E way:Int)(h1:1≤D)(hLG:L≤G)(hN:N≠0)(hM:M≠0):
  cI R D L G gr qs N M E way=⟨qs,io R D (fM R D L gr qs N M E way),if io R D (fM R D L gr qs N M E way)=0 then 0 else gD R D (fM R D L gr qs N M E way) (dj R D L gr N M E),decide (gF R D L gr N M E=0),decide (G<gD R D (fM R D L gr qs N M E way) (dj R D L gr N M E)),decide (aT R D (dY N M E)<L)⟩:=by
 unfold cI
 by_cases h0:fM R D L gr qs N M E way=0
 ·have hw:cH R D L gr N M E=0:=by
   have:=KL R D L gr qs N M E way;omega
  have hc:dj R D L gr N M E=L:=by
   refine Decidable.byContradiction fun c=> ?_
   have e:dj R D L gr N M E=aT R D (dY N M E):=by
    unfold dj at c⊢
    split at c
    ·exact absurd rfl c
    ·rw[if_neg (by assumption)]
   have:=Vf R D L gr N M E h1 hN hM e;omega
  have hd:=uh R D L gr N M E h1 hN hM (dj R D L gr N M E);rw[if_pos h0,h0,if_pos ((CD R D 0).2 rfl),(CD R D 0).2 rfl];rw[hw] at hd;rw[hd.2,hc,decide_eq_false (show¬G<L by omega)]
 ·rw[if_neg h0,if_neg (fun c=>h0 ((CD R D _).1 c))]
theorem mC {R D L G:Int}{gr s:Bool}{n:Nat}{e way:Int}(h1:1≤D)(hLG:L≤G)(h0:n≠0)(hh:dA R D L G gr n e=true):
  (cI R D L G gr s n 1 e way).ov=false∧((cI R D L G gr s n 1 e way).un=false∨gr=true)∧bare ⟨(cI R D L G gr s n 1 e way).s,(cI R D L G gr s n 1 e way).d,(ai R:Int)*(cI R D L G gr s n 1 e way).p⟩=bare ⟨s,n,e⟩:=by
 have hM:(1:Nat)≠0:=by omega
 have hs:L≤cP R D L gr n e∧cP R D L gr n e≤G∧(ai R:Int)*cP R D L gr n e≤e+(tz n:Int):=by
  unfold dA at hh
  rcases of_decide_eq_true hh with h|h
  ·exact absurd h h0
  ·exact h
 have hc:dj R D L gr n 1 e=cP R D L gr n e:=by
  unfold dj cP;rw[lU h0]
 obtain⟨p1,p2⟩:=nV s n e ((ai R:Int)*cP R D L gr n e) hs.2.2;have hl:gF R D L gr n 1 e=0:=by
  unfold gF shP;rw[hc];exact p1
 have hd:fM R D L gr s n 1 e way=cH R D L gr n 1 e:=by
  unfold fM;rw[if_neg];rintro⟨c,-⟩;exact of_decide_eq_false c hl
 obtain⟨c1,c2⟩:=uh R D L gr n 1 e h1 h0 hM (dj R D L gr n 1 e);have hw:cH R D L gr n 1 e=eZ n (e-(ai R:Int)*cP R D L gr n e)/dX 1 (e-(ai R:Int)*cP R D L gr n e):=by
  unfold cH shP;rw[hc]
 rw[kJ gr s n 1 e way h1 hLG h0 hM,hd,c1,c2,hc];refine⟨decide_eq_false (by omega), ?_, ?_⟩
 ·by_cases hg:gr=true
  ·exact .inr hg
  ·refine .inl (decide_eq_false fun c=> ?_)
   have e1:cP R D L gr n e=aT R D (dY n 1 e):=by
    unfold cP;rw[lU h0,if_neg];intro c2;exact hg (Bool.and_eq_true_iff.1 c2).2
   omega
 ·show bare ⟨s,cH R D L gr n 1 e,(ai R:Int)*(if cH R D L gr n 1 e=0 then 0 else cP R D L gr n e)⟩=_
  by_cases hz:cH R D L gr n 1 e=0
  ·rw[←p2,←hw,hz]
   simp[bare]
  ·rw[if_neg hz,hw,p2]
theorem nW {R D L G:Int}{gr qs:Bool}{N M:Nat}{E way:Int}(h1:1≤D)(hLG:L≤G)(hN:N≠0)(hM:M≠0)(ho:(cI R D L G gr qs N M E way).ov=false)(hu:(cI R D L G gr qs N M E way).un=false∨gr=true):
  ((cI R D L G gr qs N M E way).d=0∧(cI R D L G gr qs N M E way).p=0)∨((cI R D L G gr qs N M E way).d≠0∧L≤(cI R D L G gr qs N M E way).p∧(cI R D L G gr qs N M E way).p≤G∧(cI R D L G gr qs N M E way).d<2^ (ai R*D.toNat)∧(2^ (ai R*(D-1).toNat)≤(cI R D L G gr qs N M E way).d∨(gr=true∧(cI R D L G gr qs N M E way).p=L))):=by
 rw[kJ gr qs N M E way h1 hLG hN hM] at ho hu⊢;simp only at ho hu⊢;have hov:=of_decide_eq_false ho
 by_cases hz:io R D (fM R D L gr qs N M E way)=0
 ·exact .inl ⟨hz,if_pos hz⟩
 ·refine .inr ⟨hz, ?_⟩
  rw[if_neg hz];have hwl:=rP R D L gr N M E h1 hN hM;have hge:=KL R D L gr qs N M E way;have hle:fM R D L gr qs N M E way≤cH R D L gr N M E+1:=by
   unfold fM
   split<;>omega
  have hpw:2^ (ai R*(D-1).toNat)<2^ (ai R*D.toNat):=by
   refine Nat.pow_lt_pow_right (by omega) ?_;exact Nat.mul_lt_mul_of_pos_left (by omega) (by have:=eN R;omega)
  have hcut:L≤dj R D L gr N M E∧(dj R D L gr N M E=aT R D (dY N M E)∨(gr=true∧dj R D L gr N M E=L)):=by
   unfold dj
   by_cases hc:(decide (aT R D (dY N M E)<L)&&gr)=true
   ·rw[if_pos hc]
    exact⟨Int.le_refl _,.inr ⟨(Bool.and_eq_true_iff.1 hc).2,rfl⟩⟩
   ·rw[if_neg hc]
    refine⟨?_,.inl rfl⟩
    rcases hu with hu|hu
    ·have:=of_decide_eq_false hu
     omega
    ·rw[hu,Bool.and_true] at hc
     have: ¬aT R D (dY N M E)<L:=fun c=>hc (decide_eq_true c)
     omega
  unfold io gD at*
  by_cases hq:fM R D L gr qs N M E way=2^ (ai R*D.toNat)
  ·rw[if_pos hq] at hov⊢
   rw[if_pos hq];exact⟨by omega,by omega,hpw,.inl (Nat.le_refl _)⟩
  ·rw[if_neg hq] at hov⊢
   rw[if_neg hq];refine⟨hcut.1,by omega,by omega, ?_⟩
   rcases hcut.2 with h|h
   ·refine .inl (Nat.le_trans ?_ hge)
    have:=mt (xx R D (aT R D (dY N M E)) N M E h1 hN hM).1 (Int.lt_irrefl _);rw[pP] at this;unfold cH shP;rw[h];omega
   ·exact .inr h
theorem PI (way:Int)(w1:World)(r:Nat)(hm:w1.heap[r]? =some (.map Yd 5)):(Instr.lookup 199 (.map (some r)) (yi way) false).run Tryz.prog w1= .ok (ac0 way) w1:=by
 by_cases h:iC way=true
 ·rcases zi h with rfl|rfl|rfl|rfl|rfl
  ·exact pj underlying199 underlying3 hm 1 rfl
  ·exact pj underlying199 underlying3 hm 2 rfl
  ·exact pj underlying199 underlying3 hm 3 rfl
  ·exact pj underlying199 underlying3 hm 4 rfl
  ·exact pj underlying199 underlying3 hm 5 rfl
 ·have hn: ¬(1≤way∧way≤5):=fun c=>h (decide_eq_true c)
  unfold ac0;rw[if_neg h];refine Yc underlying199 underlying3 hm way ?_ ?_
  ·kernel_rfl
  ·simp[Yd,Instr.findNow,XI,show¬way=1 by omega,show¬way=2 by omega,show¬way=3 by omega,show¬way=4 by omega,show¬way=5 by omega]
theorem PK {way:Int}(h:iC way=true)(half:Int)(odd neg:Bool)(w1:World):yC (T4 way) #[.agg #[yi half,.bool odd,.bool neg]] w1 (yR w1 (.bool (gY way half odd neg))):=by
 rcases zi h with rfl|rfl|rfl|rfl|rfl
 ·exact Yf half odd neg w1
 ·exact Yg half odd neg w1
 ·exact Yh half odd neg w1
 ·exact Yi half odd neg w1
 ·exact Yj half odd neg w1
def df (xs ys:List Nat)(E R D L G:Int)(gr qs:Bool)(way:Int):fz:=
 if eE xs ys E R D L G way=0 then(if xs.length=0 then⟨false,0,0,true,false,false⟩ else cI R D L G gr qs (Dg.vl 4294967296 xs) (Dg.vl 4294967296 ys) E way) else oI
def plT (k:Nat)(s:Bool)(n:Nat)(E:Int):fz:=cI (rdN k) (dgN k) (lsI k) (gsI k) (decide (k≤3)) s n 1 E 3
end Go.Proofs.YtpgijbdgljkeeaaGreatDoor
