/-
  Texts laid together: DyCs, Cr1, Cr3, Ce3, Ce4, Gm2, Gm3, Em1, Ef2, Ce9, Eb1, Gk3, Gk6, Eg2, Eg3, Eb2, Eb3, Mc8, Ra1, Pa5, Pa6, Ra2, Ra4.
-/
import Derived.Test.YtdhpndnncmagiaaGreatDoorChecked
import Derived.Test.YtdhpndnncmagiaaGreatDoorRows
import Derived.Test.YtdhpndnncmagiaaGreatDoorTie
import Derived.Test.YtdhpndnncmagiaaGreatDoorCards
import Derived.Test.YtdhpndnncmagiaaGreatDoorMz05
import Derived.Test.YtdhpndnncmagiaaGreatDoorMz06
set_option maxRecDepth 100000
namespace Go.Proofs.YtdhpndnncmagiaaGreatDoor.dy
open Go.ChangeShapes Go.WideShapes Go.ChangeAt Go.RowKit Go.Joins
theorem open_int' {H:Type}{enc:TypeId×Value→H}{W:World}{base:Nat}{v:Value}{d:DataW H}{p:List MemPlace}(hv:Value.okWide Tryz.prog W .any base 3 v)(h:DataW.Trod enc Tryz.prog W 0 (fun _=>true) true 3 v d p):
  ∃n:Int,v=yi n∧(Lit.int .i64 n).wf=true:=by
 obtain⟨n,rfl,-,-,hw⟩:=open_int Tryz.underlying3 hv h;exact⟨n,rfl,hw⟩
end Go.Proofs.YtdhpndnncmagiaaGreatDoor.dy
namespace Go.Proofs.YtdhpndnncmagiaaGreatDoor
open Go.RowKit
def plN (k i:Nat):Nat:=if k=3 then szN k-1-i else if 6≤k then i+1-2*(i % 2) else i
theorem Kh (k:Nat)(zs:List Nat)(i:Nat)(hk:zs.length=szN k)(hi:i<zs.length):(jT k zs).getD i 0=zs.getD (plN k i) 0:=by
 unfold jT plN
 by_cases h3:k=3
 ·rw[if_pos h3,if_pos h3,List.getD_eq_getElem?_getD,List.getElem?_reverse hi,←List.getD_eq_getElem?_getD,hk]
 ·rw[if_neg h3,if_neg h3]
  by_cases h6:6≤k
  ·rw[if_pos h6,if_pos h6,Fl zs i hi]
  ·rw[if_neg h6,if_neg h6]
theorem Co {k i:Nat}(hk:1≤k∧k≤8)(hi:i<szN k):plN k i<szN k:=by
 obtain⟨m,hm⟩:=(fZ hk).2.2.2.2.1;unfold plN
 split
 ·omega
 ·split<;>omega
def jY (bf:Nat→Bool):Nat→Nat
 |0=>0
 |n+1=>jY bf n*2+if bf n then 1 else 0
theorem DZ (bf:Nat→Bool): ∀n,jY bf n<2^n
 |0=>by simp[jY]
 |n+1=>by
  have:=DZ bf n;rw[jY,Nat.pow_succ]
  split<;>omega
def byL (bf:Nat→Bool)(n:Nat):List Nat:=(List.range n).map fun i=>jY (fun j=>bf (8*i+j)) 8
theorem xT (bf:Nat→Bool)(n:Nat):(byL bf n).length=n:=by simp[byL]
theorem JB (bf:Nat→Bool)(n i:Nat)(h:i<n):(byL bf n).getD i 0=jY (fun j=>bf (8*i+j)) 8:=by
 simp[byL,List.getD_eq_getElem?_getD,h]
theorem xU {k i:Nat}(hk:1≤k∧k≤8)(hi:i<szN k):plN k (plN k i)=i:=by
 obtain⟨m,hm⟩:=(fZ hk).2.2.2.2.1;unfold plN
 by_cases h3:k=3
 ·rw[if_pos h3,if_pos h3]
  omega
 ·rw[if_neg h3,if_neg h3]
  by_cases h6:6≤k
  ·rw[if_pos h6,if_pos h6]
   omega
  ·rw[if_neg h6,if_neg h6]
theorem Ib (zs:List Nat)(i:Nat):fU zs i=((zs.getD (i/8) 0).testBit (7-i % 8)).toNat:=by
 unfold fU;rw[Nat.testBit_eq_decide_div_mod_eq];have h:=Nat.mod_lt (zs.getD (i/8) 0/2^ (7-i % 8)) (show 0<2 by omega)
 rcases(show zs.getD (i/8) 0/2^ (7-i % 8) % 2=0∨zs.getD (i/8) 0/2^ (7-i % 8) % 2=1 by omega) with e|e<;>rw[e]<;>rfl
theorem Lp (y b t u:Nat)(hb:b<2):(y|||b*2^t).testBit u=(y.testBit u||(decide (b=1)&&decide (t=u))):=by
 rw[Nat.testBit_or]
 rcases(show b=0∨b=1 by omega) with rfl|rfl
 ·simp
 ·rw[Nat.one_mul,Nat.testBit_two_pow]
  simp
theorem Wp (zs:List Nat)(p b i:Nat)(hb:b<2)(hp:p/8<zs.length):fU (zs.set (p/8) (zs.getD (p/8) 0|||b*2^ (7-p % 8))) i=if i=p then(if b=1 then 1 else fU zs i) else fU zs i:=by
 rw[Ib,Ib,Dg.getD_set _ _ _ _ hp]
 by_cases h8:p/8=i/8
 ·rw[if_pos h8,Lp _ _ _ _ hb,h8]
  by_cases hi:i=p
  ·subst hi
   rw[if_pos rfl]
   rcases(show b=0∨b=1 by omega) with rfl|rfl
   ·simp
   ·simp
  ·rw[if_neg hi,decide_eq_false (show¬7-p % 8=7-i % 8 by omega)]
   simp
 ·rw[if_neg h8,if_neg (show¬i=p from fun e=>h8 (by rw[e]))]
theorem xO (f:Nat): ∀(c x:Nat) (zs:List Nat) (i:Nat),f+c≤8*zs.length→fU (iS f c x zs) i=if f≤i∧i<f+c then(if x/2^ (f+c-1-i) % 2=1 then 1 else fU zs i) else fU zs i
 |0,x,zs,i,_=>by
  rw[iS,if_neg (by omega)]
 |c+1,x,zs,i,h=>by
  rw[iS,xO f c (x/2) _ i (by rw[List.length_set];omega),Wp _ _ _ _ (Nat.mod_lt _ (by omega)) (by omega)]
  by_cases h1:f≤i∧i<f+c
  ·rw[if_pos h1,if_pos (show f≤i∧i<f+(c+1) by omega),if_neg (show¬i=f+c by omega),Nat.div_div_eq_div_mul,←Nat.pow_succ',show(f+c-1-i).succ=f+(c+1)-1-i from by omega]
  ·rw[if_neg h1]
   by_cases h2:i=f+c
   ·rw[if_pos h2,if_pos (show f≤i∧i<f+(c+1) by omega),show f+(c+1)-1-i=0 from by omega,Nat.pow_zero,Nat.div_one]
   ·rw[if_neg h2,if_neg (show¬(f≤i∧i<f+(c+1)) by omega)]
theorem Tk (y:Nat)(h:y<256):jY (fun j=>decide (y/2^ (7-j) % 2=1)) 8=y:=by
 have e: ∀n,(if decide (n % 2=1)=true then 1 else 0)=n % 2:=fun n=>by
  rcases(show n % 2=0∨n % 2=1 by omega) with h|h<;>rw[h]<;>rfl
 simp only[jY,e];omega
theorem nz {f g:Nat→Bool}: ∀n,(∀j,j<n→f j=g j)→jY f n=jY g n
 |0,_=>rfl
 |n+1,h=>by
  rw[jY,jY,nz n (fun j hj=>h j (by omega)),h n (by omega)]
theorem OT (zs:List Nat)(hs:Dg.Small 256 zs):zs=byL (fun i=>decide (fU zs i=1)) zs.length:=by
 apply List.ext_getElem (by rw[xT]);intro p hp1 hp2;have e1:zs.getD p 0=zs[p]:=by simp[List.getD_eq_getElem?_getD,hp1]
 have e2:(byL (fun i=>decide (fU zs i=1)) zs.length).getD p 0=(byL (fun i=>decide (fU zs i=1)) zs.length)[p]:=by simp only[List.getD_eq_getElem?_getD,List.getElem?_eq_getElem hp2,Option.getD_some]
 rw[←e1,←e2,JB _ _ _ hp1];refine(Tk (zs.getD p 0) (hs p)).symm.trans (nz 8 (fun j hj=> ?_))
 unfold fU;rw[show(8*p+j)/8=p from by omega,show(8*p+j) % 8=j from by omega]
theorem Ic {f g:Nat→Bool}(n:Nat)(h: ∀i,i<8*n→f i=g i):byL f n=byL g n:=by
 unfold byL;apply List.map_congr_left;intro i hi;have:=List.mem_range.1 hi;exact nz 8 (fun j hj=>h _ (by omega))
theorem Ea (n i:Nat):fU (List.replicate n 0) i=0:=by
 unfold fU;have:(List.replicate n 0).getD (i/8) 0=0:=by
  by_cases h:i/8<n
  ·simp[List.getD_eq_getElem?_getD,h]
  ·simp[List.getD_eq_getElem?_getD,h]
 rw[this];simp
def Eb (ex fr:Nat)(ng:Bool)(e f:Nat)(i:Nat):Bool:=
 if i=0 then ng else if i≤ex then decide (e/2^ (ex-i) % 2=1) else decide (f/2^ (ex+fr-i) % 2=1)
theorem xP {k:Nat}(hk:1≤k∧k≤8)(ng:Bool)(e f:Nat):kU k ng e f=jT k (byL (Eb (exN k) (frN k) ng e f) (szN k)):=by
 obtain⟨h1,h2,h3,h4,-,h7⟩:=fZ hk;unfold kU
 congr 1
 have sm0:Dg.Small 256 (List.replicate (szN k) 0):=by
  intro i
  by_cases hi:i<szN k
  ·simp[List.getD_eq_getElem?_getD,hi]
  ·simp[List.getD_eq_getElem?_getD,hi]
 have key: ∀zs:List Nat,zs.length=szN k→Dg.Small 256 zs→(∀i,fU zs i=if i=0∧ng=true then 1 else 0)→iS (1+exN k) (frN k) f (iS 1 (exN k) e zs)=byL (Eb (exN k) (frN k) ng e f) (szN k):=fun zs hl hs hb=>by
  have hl2:(iS (1+exN k) (frN k) f (iS 1 (exN k) e zs)).length=szN k:=by rw[il,il,hl]
  rw[OT _ (mj _ _ _ _ (mj _ _ _ _ hs)),hl2];refine Ic _ (fun i hi=> ?_)
  rw[xO _ _ _ _ _ (by rw[il];omega),xO _ _ _ _ _ (by omega),hb i];unfold Eb
  by_cases h0:i=0
  ·subst h0
   rw[if_neg (by omega),if_neg (by omega),if_pos rfl]
   cases ng<;>rfl
  ·rw[if_neg h0]
   have hz:(if i=0∧ng=true then 1 else 0)=0:=if_neg (fun h=>h0 h.1)
   rw[hz]
   by_cases hx:i≤exN k
   ·rw[if_pos hx,if_neg (by omega),if_pos (show 1≤i∧i<1+exN k by omega),show 1+exN k-1-i=exN k-i from by omega]
    split
    ·rename_i h;rw[h]
    ·rename_i h;rw[decide_eq_false h];rfl
   ·rw[if_neg hx,if_pos (show 1+exN k≤i∧i<1+exN k+frN k by omega),if_neg (show¬(1≤i∧i<1+exN k) by omega),show 1+exN k+frN k-1-i=exN k+frN k-i from by omega]
    split
    ·rename_i h;rw[h]
    ·rename_i h;rw[decide_eq_false h];rfl
 cases ng
 ·rw[if_neg (by simp)]
  exact key _ List.length_replicate sm0 (fun i=>by rw[Ea];simp)
 ·rw[if_pos rfl]
  refine key _ (by rw[il];exact List.length_replicate) (mj _ _ _ _ sm0) (fun i=> ?_)
  rw[xO _ _ _ _ _ (by rw[List.length_replicate];omega),Ea]
  by_cases h0:i=0
  ·subst h0
   rfl
  ·rw[if_neg (by omega),if_neg (fun h=>h0 h.1)]
def inR (R D L G:Int)(gr:Bool)(m:Nat)(e:Int):Bool:=
 decide (m=0∨((ai R:Int)*L≤e∧e+(bitLen m:Int)≤(ai R:Int)*(G+D)∧(gr=true∨L≤aT R D (e+(bitLen m:Int)-1))∧(ai R:Int)*max L (aT R D (e+(bitLen m:Int)-1))≤e))
theorem jK {R D L G:Int}(gr:Bool)(t:ak)(hLG:L≤G):inR R D L G gr (bare t).n (bare t).e=dA R D L G gr t.n t.e:=by
 unfold inR dA;refine decide_eq_decide.2 ?_
 by_cases h:t.n=0
 ·have:(bare t).n=0:=by unfold bare;rw[if_pos h]
  simp only[h,this,true_or]
 ·obtain⟨h1,h2,h3⟩:=gN h
  rw[h3];simp only[h1,h,false_or,h2];unfold cP;rw[show t.e+(bitLen t.n:Int)-1=(bitLen t.n:Int)-1+t.e by omega]
  obtain⟨p,hp⟩: ∃p,(bitLen t.n:Int)-1+t.e=p:=⟨_,rfl⟩;rw[show t.e+(bitLen t.n:Int)=p+1 by omega,hp]
  clear h1 h2 h3 h;obtain⟨z,hz⟩: ∃z,t.e+(tz t.n:Int)=z:=⟨_,rfl⟩;rw[hz];have hw:aT R D p=p/(ai R:Int)-(D-1):=rfl;obtain⟨k,hk⟩: ∃k,aT R D p=k:=⟨_,rfl⟩;rw[hk] at hw⊢;clear hp hz hk;unfold ai at*
  cases gr<;>by_cases h16:R=16<;>simp only[h16,if_true,if_false] at hw⊢ <;>by_cases hl:k<L<;>simp[hl]<;>omega
theorem aaN {d j k:Nat}(h1:2^j≤d)(h2:d<2^k):j<bitLen d∧bitLen d≤k:=by
 have a:=pP d j;have b:=bF d k h2;omega
theorem Ep {R D k:Int}{d:Nat}(hD:1≤D)(h1:2^ (ai R*(D-1).toNat)≤d)(h2:d<2^ (ai R*D.toNat)):aT R D ((bitLen d:Int)-1+(ai R:Int)*k)=k:=by
 obtain⟨b1,b2⟩:=aaN h1 h2;unfold aT;obtain⟨b,hb⟩: ∃b,bitLen d=b:=⟨_,rfl⟩;rw[hb] at b1 b2⊢;unfold ai at*
 split at b1<;>simp_all<;>omega
theorem Il {R D k:Int}{d:Nat}(hD:1≤D)(h2:d<2^ (ai R*D.toNat)):aT R D ((bitLen d:Int)-1+(ai R:Int)*k)≤k:=by
 have b2:=bF d _ h2;unfold aT;obtain⟨b,hb⟩: ∃b,bitLen d=b:=⟨_,rfl⟩;rw[hb] at b2⊢;unfold ai at*
 split at b2<;>simp_all<;>omega
theorem Sg {R D L k:Int}{gr:Bool}{d:Nat}(hD:1≤D)(h2:d<2^ (ai R*D.toNat))(hk:L≤k)(hf:2^ (ai R*(D-1).toNat)≤d∨(gr=true∧k=L)):cP R D L gr d ((ai R:Int)*k)=k:=by
 unfold cP
 rcases hf with h1| ⟨rfl,rfl⟩
 ·rw[Ep hD h1 h2,decide_eq_false (by omega)]
  rfl
 ·have h:=Il (k:=k) hD h2
  by_cases c:aT R D ((bitLen d:Int)-1+(ai R:Int)*k)<k
  ·rw[decide_eq_true c]
   rfl
  ·rw[decide_eq_false c]
   show aT R D ((bitLen d:Int)-1+(ai R:Int)*k)=k
   omega
theorem tN {R D L G k:Int}{gr:Bool}{d:Nat}(hD:1≤D)(h2:d<2^ (ai R*D.toNat))(hk:L≤k)(hf:2^ (ai R*(D-1).toNat)≤d∨(gr=true∧k=L))(h0:d≠0):dA R D L G gr d ((ai R:Int)*k)=decide (k≤G):=by
 unfold dA;rw[Sg hD h2 hk hf];refine decide_eq_decide.2 ?_;omega
theorem tO (R D L G:Int)(gr:Bool)(e:Int):dA R D L G gr 0 e=true:=decide_eq_true (.inl rfl)
theorem oj {R D L G:Int}{gr s:Bool}{n:Nat}{e way:Int}(h1:1≤D)(hLG:L≤G)(h0:n≠0)(hh:dA R D L G gr n e=true):
  (cI R D L G gr s n 1 e way).s=s∧(cI R D L G gr s n 1 e way).d=shN n (e-(ai R:Int)*cP R D L gr n e)∧(cI R D L G gr s n 1 e way).p=cP R D L gr n e∧shN n (e-(ai R:Int)*cP R D L gr n e)≠0:=by
 have hM:(1:Nat)≠0:=by omega
 have hb:=(mC (s:=s) (way:=way) h1 hLG h0 hh).2.2;have hs:L≤cP R D L gr n e∧cP R D L gr n e≤G∧(ai R:Int)*cP R D L gr n e≤e+(tz n:Int):=by
  unfold dA at hh
  rcases of_decide_eq_true hh with h|h
  ·exact absurd h h0
  ·exact h
 have hc:dj R D L gr n 1 e=cP R D L gr n e:=by
  unfold dj cP;rw[lU h0]
 obtain⟨p1,-⟩:=nV s n e ((ai R:Int)*cP R D L gr n e) hs.2.2;have hl:gF R D L gr n 1 e=0:=by
  unfold gF shP;rw[hc];exact p1
 have hd:fM R D L gr s n 1 e way=cH R D L gr n 1 e:=by
  unfold fM;rw[if_neg];rintro⟨c,-⟩;exact of_decide_eq_false c hl
 obtain⟨c1,c2⟩:=uh R D L gr n 1 e h1 h0 hM (dj R D L gr n 1 e);have hw:cH R D L gr n 1 e=shN n (e-(ai R:Int)*cP R D L gr n e):=by
  unfold cH shP;rw[hc,Jv]
 have hdn:(cI R D L G gr s n 1 e way).d≠0:=fun hz=>by
  have h2:(bare ⟨(cI R D L G gr s n 1 e way).s,(cI R D L G gr s n 1 e way).d,(ai R:Int)*(cI R D L G gr s n 1 e way).p⟩).n=0:=(fI _).2 hz;rw[hb] at h2;exact h0 ((fI _).1 h2)
 rw[kJ gr s n 1 e way h1 hLG h0 hM,hd,c1,c2,hc] at hdn⊢;simp only at hdn⊢;rw[if_neg hdn];rw[hw] at hdn⊢;exact⟨trivial,rfl,rfl,hdn⟩
theorem Ni {d j:Nat}(h:d<2^ (j+1)):d&&& 2^j≠0↔bitLen d=j+1:=by
 have hb:=bF d (j+1) h;rw[SK];have hp:0<2^j:=Nat.pow_pos (by omega)
 by_cases hc:2^j≤d
 ·have h1:bitLen d=j+1:=by
   have:=(pP d j).1;have h2: ¬bitLen d<j+1:=fun c=>this c hc
   omega
  have ht:d.testBit j=true:=by
   rw[Nat.testBit_eq_decide_div_mod_eq];have:d/2^j=1:=by
    rw[Nat.pow_succ] at h;have h3:1≤d/2^j:=(Nat.le_div_iff_mul_le hp).2 (by omega);have h4:d/2^j<2:=(Nat.div_lt_iff_lt_mul hp).2 (by omega);omega
   rw[this];rfl
  rw[if_pos ht];exact⟨fun _=>h1,fun _=>by omega⟩
 ·have h1:bitLen d<j+1:=(pP d j).2 hc
  have ht:d.testBit j=false:=by
   rw[Nat.testBit_eq_decide_div_mod_eq,Nat.div_eq_of_lt (by omega)];rfl
  rw[if_neg (by rw[ht];simp)];exact⟨fun c=>absurd rfl c,fun c=>by omega⟩
theorem ME {k:Nat}(hk:1≤k∧k≤8)(zs:List Nat)(hl:zs.length=szN k):jT k (jT k zs)=zs:=by
 apply List.ext_getElem (by rw[nM,nM]);intro p hp1 hp2;have e1:(jT k (jT k zs)).getD p 0=(jT k (jT k zs))[p]:=by simp only[List.getD_eq_getElem?_getD,List.getElem?_eq_getElem hp1,Option.getD_some]
 have e2:zs.getD p 0=zs[p]:=by simp only[List.getD_eq_getElem?_getD,List.getElem?_eq_getElem hp2,Option.getD_some]
 have hp:p<szN k:=by omega
 rw[←e1,←e2,Kh k _ p (by rw[nM];exact hl) (by rw[nM];exact hp2),Kh k zs _ hl (by rw[hl];exact Co hk hp),xU hk hp]
theorem Hm (zs:List Nat)(hs:Dg.Small 256 zs):jr (cF zs)=zs:=by
 unfold jr cF;apply List.ext_getElem (by simp);intro p hp1 hp2;have h:=hs p;rw[List.getD_eq_getElem?_getD,List.getElem?_eq_getElem hp2,Option.getD_some] at h;simp;exact h
theorem MF (bf:Nat→Bool): ∀n r,r<n→jY bf n/2^ (n-1-r) % 2=if bf r then 1 else 0
 |0,_,h=>absurd h (Nat.not_lt_zero _)
 |n+1,r,h=>by
  rw[jY]
  by_cases e:r=n
  ·subst e
   rw[show r+1-1-r=0 from by omega,Nat.pow_zero,Nat.div_one]
   split<;>omega
  ·have ih:=MF bf n r (by omega)
   rw[show n+1-1-r=(n-1-r)+1 from by omega,Nat.pow_succ,Nat.mul_comm (2^ (n-1-r)) 2,←Nat.div_div_eq_div_mul]
   rw[show(jY bf n*2+if bf n=true then 1 else 0)/2=jY bf n from by split<;>omega]
   exact ih
theorem XS (bf:Nat→Bool)(n i:Nat)(h:i<8*n):fU (byL bf n) i=if bf i then 1 else 0:=by
 unfold fU;rw[JB bf n _ (by omega)];have:=MF (fun j=>bf (8*(i/8)+j)) 8 (i % 8) (by omega)
 rw[show 8-1-i % 8=7-i % 8 from by omega,show 8*(i/8)+i % 8=i from by omega] at this
 exact this
theorem zk (bf:Nat→Bool)(m f:Nat): ∀n,f+n≤8*m→eH (byL bf m) f n=jY (fun j=>bf (f+j)) n
 |0,_=>rfl
 |n+1,h=>by
  rw[eH,jY,zk bf m f n (by omega),XS bf m (f+n) (by omega)];omega
theorem Fu: ∀(n e:Nat),jY (fun j=>decide (e/2^ (n-1-j) % 2=1)) n=e % 2^n
 |0,e=>by simp[jY,Nat.mod_one]
 |n+1,e=>by
  rw[jY,nz (g:=fun j=>decide (e/2/2^ (n-1-j) % 2=1)) n (fun j hj=>by
   rw[Nat.div_div_eq_div_mul,←Nat.pow_succ',show(n-1-j).succ=n+1-1-j from by omega]),Fu n (e/2),show n+1-1-n=0 from by omega,Nat.pow_zero,Nat.div_one,Nat.pow_succ]
  have h1:e % (2^n*2)=e/2 % 2^n*2+e % 2:=by
   rw[Nat.mul_comm (2^n) 2,Nat.mod_mul];omega
  rw[h1]
  rcases(show e % 2=0∨e % 2=1 by omega) with h|h<;>rw[h]<;>rfl
theorem Uh (bf:Nat→Bool)(n:Nat):Dg.Small 256 (byL bf n):=by
 intro i
 by_cases h:i<n
 ·rw[JB bf n i h]
  exact DZ _ 8
 ·rw[List.getD_eq_getElem?_getD,List.getElem?_eq_none (by rw[xT];omega)]
  simp
theorem Kr {k:Nat}(hk:1≤k∧k≤8)(ng:Bool)(e f:Nat):wG k (cF (kU k ng e f))=byL (Eb (exN k) (frN k) ng e f) (szN k):=by
 unfold wG;rw[xP hk,Hm _ (xi k _ (Uh _ _)),ME hk _ (xT _ _)]
theorem mS {k:Nat}(hk:1≤k∧k≤8)(ng:Bool)(e f:Nat):
  aZ k (cF (kU k ng e f))=ng∧aR k (cF (kU k ng e f))=e % 2^exN k∧aU k (cF (kU k ng e f))=f % 2^frN k∧(cF (kU k ng e f)).size=szN k:=by
 obtain⟨h1,h2,h3,h4,-,h7⟩:=fZ hk;unfold aZ aR aU;rw[Kr hk];refine⟨?_, ?_, ?_, ?_⟩
 ·rw[zk _ _ _ _ (by omega)]
  simp only[jY,Eb]
  cases ng<;>simp
 ·rw[zk _ _ _ _ (by omega),←Fu (exN k) e]
  refine nz _ (fun j hj=> ?_)
  unfold Eb;rw[if_neg (by omega),if_pos (show 1+j≤exN k by omega),show exN k-(1+j)=exN k-1-j from by omega]
 ·rw[zk _ _ _ _ (by omega),←Fu (frN k) f]
  refine nz _ (fun j hj=> ?_)
  unfold Eb;rw[if_neg (by omega),if_neg (show¬1+exN k+j≤exN k by omega),show exN k+frN k-(1+exN k+j)=frN k-1-j from by omega]
 ·rw[fS,Mx]
theorem JK {L:Int}{j:Nat}{t:fz}(hlt:t.d<2^ (j+1)):heE 2 L (2^j) t=(t.p-L).toNat+if 2^j≤t.d then 1 else 0:=by
 have h:=Ni hlt;have hb:=pP t.d j;have hle:=bF t.d (j+1) hlt;unfold heE
 by_cases hc:2^j≤t.d
 ·have h1: ¬bitLen t.d<j+1:=fun c=>(hb.1 c) hc
  rw[if_pos ⟨rfl,h.2 (by omega)⟩,if_pos hc]
 ·have h1:=hb.2 hc
  rw[if_neg (fun c=>by have:=h.1 c.2;omega),if_neg hc]
theorem aaP {L:Int}{ld:Nat}{t:fz}:heE 16 L ld t=(t.p-L).toNat:=by
 unfold heE;rw[if_neg (fun c=>by have:=c.1;omega),Nat.add_zero]
theorem JL {f n:Nat}(h:f<2^n):f|||2^n=f+2^n:=by
 have:=Nat.two_pow_add_eq_or_of_lt h 1;rw[Nat.mul_one] at this;rw[Nat.or_comm,←this,Nat.add_comm]
theorem aaQ {f n:Nat}(h1:2^n≤f)(h2:f<2^ (n+1)):f|||2^n=f:=by
 obtain⟨r,rfl⟩: ∃r,f=r+2^n:=⟨f-2^n,by omega⟩;have hr:r<2^n:=by rw[Nat.pow_succ] at h2;omega
 rw[←JL hr,Nat.or_assoc,Nat.or_self]
theorem LT {d n:Nat}(h1:2^n≤d)(h2:d<2^ (n+1)):d % 2^n=d-2^n:=by
 rw[Nat.pow_succ] at h2;rw[Nat.mod_eq_sub_mod h1,Nat.mod_eq_of_lt (by omega)]
theorem CQ {k:Nat}(hk:1≤k∧k≤8)(ng:Bool)(t:fz)(h1:lsI k≤t.p)(h2:t.p≤gsI k)(h0:t.d≠0)(hlt:t.d<2^ (ai (rdN k)*dgN k))(hf:2^ (ai (rdN k)*(dgN k-1))≤t.d∨(k≤3∧t.p=lsI k)):
  heE (rdN k) (lsI k) (gW k) t<2^exN k∧dh k ng (heE (rdN k) (lsI k) (gW k) t) (t.d % 2^frN k)=2∧iI k (heE (rdN k) (lsI k) (gW k) t) (t.d % 2^frN k)=t.d∧ii k (heE (rdN k) (lsI k) (gW k) t)=t.p:=by
 have hex:(k=4∨k=5)∨k=3∨(k=1∨k=2)∨(k=6∨k=7∨k=8):=by omega
 rcases hex with hx|hx|hx|hx
 ·have hR:(rdN k:Int)=16:=by rcases hx with rfl|rfl<;>rfl
  have hfr:ai (rdN k)*dgN k=frN k:=by rcases hx with rfl|rfl<;>decide
  have hrd:rdN k=16:=by rcases hx with rfl|rfl<;>rfl
  have hgl:gsI k-lsI k<128∧2^exN k=128:=by rcases hx with rfl|rfl<;>decide
  rw[hfr] at hlt;rw[hR,aaP,Nat.mod_eq_of_lt hlt];refine⟨by omega, ?_, ?_, ?_⟩
  ·unfold dh
   rw[if_neg (by omega),if_pos (by omega),if_neg h0]
  ·unfold iI
   rw[if_pos hrd]
  ·unfold ii
   rw[if_pos hrd];omega
 ·subst hx
  have hw:ai ((rdN 3:Nat):Int)=1:=rfl;rw[hw,Nat.one_mul] at hlt hf;have hlt':t.d<2^ (63+1):=hlt;have hf':2^63≤t.d∨(3≤3∧t.p=lsI 3):=hf;have hh:heE ((rdN 3:Nat):Int) (lsI 3) (gW 3) t=(t.p-lsI 3).toNat+if 2^63≤t.d then 1 else 0:=JK (L:=lsI 3) (j:=63) hlt'
  have hm:t.d % 2^frN 3=t.d:=Nat.mod_eq_of_lt hlt';have hl3:lsI 3= -16445:=rfl;have hg3:gsI 3=16320:=rfl;have he3:2^exN 3=32768:=rfl;have ho3:kp 3=32767:=rfl;rw[hh,hm]
  by_cases hc:2^63≤t.d
  ·rw[if_pos hc]
   refine⟨by omega, ?_, ?_, ?_⟩
   ·unfold dh
    rw[if_pos (by omega),if_neg (by omega),if_neg (by omega),if_neg (fun c=>by have:=c.2;omega)]
   ·unfold iI
    rw[if_neg (by decide),if_neg (by omega)];exact aaQ hc hlt'
   ·unfold ii
    rw[if_neg (by decide),if_neg (by omega)];omega
  ·have hp:=(hf'.resolve_left hc).2
   rw[if_neg hc,hp];have hz:(lsI 3-lsI 3).toNat+0=0:=by omega
   rw[hz];refine⟨by omega, ?_, ?_, ?_⟩
   ·unfold dh
    rw[if_pos (by omega),if_pos rfl,if_neg h0]
   ·unfold iI
    rw[if_neg (by decide),if_pos rfl]
   ·unfold ii
    rw[if_neg (by decide),if_pos rfl]
 ·have hR:(rdN k:Int)=2:=by rcases hx with rfl|rfl<;>rfl
  have hrd: ¬rdN k=16:=by rcases hx with rfl|rfl<;>decide
  have hw:ai (rdN k)=1:=by rw[hR];rfl
  have hfr:dgN k=frN k+1:=by rcases hx with rfl|rfl<;>decide
  have hld:gW k=2^frN k:=by rcases hx with rfl|rfl<;>rfl
  have hgl:gsI k-lsI k+1< (kp k:Int)∧2^exN k=kp k+1:=by rcases hx with rfl|rfl<;>decide
  rw[hw,Nat.one_mul,hfr] at hlt hf;rw[Nat.add_sub_cancel] at hf;rw[hR,hld,JK hlt]
  by_cases hc:2^frN k≤t.d
  ·rw[if_pos hc,LT hc hlt]
   have hr:t.d-2^frN k<2^frN k:=by rw[Nat.pow_succ] at hlt;omega
   refine⟨by omega, ?_, ?_, ?_⟩
   ·unfold dh
    rw[if_pos (by omega),if_neg (by omega),if_neg (by omega),if_neg (fun c=>by have:=c.1;omega)]
   ·unfold iI
    rw[if_neg hrd,if_neg (by omega),hld,JL hr];omega
   ·unfold ii
    rw[if_neg hrd,if_neg (by omega)];omega
  ·have hp:=(hf.resolve_left hc).2
   rw[if_neg hc,hp,Nat.mod_eq_of_lt (by omega)];have hz:(lsI k-lsI k).toNat+0=0:=by omega
   rw[hz];refine⟨by omega, ?_, ?_, ?_⟩
   ·unfold dh
    rw[if_pos (by omega),if_pos rfl,if_neg h0]
   ·unfold iI
    rw[if_neg hrd,if_pos rfl]
   ·unfold ii
    rw[if_neg hrd,if_pos rfl]
 ·have hR:(rdN k:Int)=2:=by rcases hx with rfl|rfl|rfl<;>rfl
  have hrd: ¬rdN k=16:=by rcases hx with rfl|rfl|rfl<;>decide
  have hw:ai (rdN k)=1:=by rw[hR];rfl
  have hfr:dgN k=frN k+1:=by rcases hx with rfl|rfl|rfl<;>decide
  have hld:gW k=2^frN k:=by rcases hx with rfl|rfl|rfl<;>rfl
  have hgl:gsI k-lsI k+1< (2^exN k:Nat):=by rcases hx with rfl|rfl|rfl<;>decide
  rw[hw,Nat.one_mul,hfr] at hlt hf;rw[Nat.add_sub_cancel] at hf;have hc:2^frN k≤t.d:=hf.resolve_right (fun c=>by have:=c.1;omega)
  rw[hR,hld,JK hlt,if_pos hc,LT hc hlt];have hr:t.d-2^frN k<2^frN k:=by rw[Nat.pow_succ] at hlt;omega
  refine⟨by omega, ?_, ?_, ?_⟩
  ·unfold dh
   rw[if_neg (by omega),if_neg (by omega),if_neg (by omega)]
  ·unfold iI
   rw[if_neg hrd,if_neg (by omega),hld,JL hr];omega
  ·unfold ii
   rw[if_neg hrd,if_neg (by omega)];omega
def ia (R D L G:Int)(gr:Bool)(d:Nat)(p:Int):Prop:=
 (d=0∧p=0)∨(d≠0∧L≤p∧p≤G∧d<2^ (ai R*D.toNat)∧(2^ (ai R*(D-1).toNat)≤d∨(gr=true∧p=L)))
theorem qj {R D L G:Int}{gr:Bool}{d:Nat}{p:Int}(hg:bk R D L G=0)(h:ia R D L G gr d p):
  (Dg.dg 4294967296 d).length≤15∧ -17000≤p∧p≤17000∧ -17000≤(ai R:Int)*p∧(ai R:Int)*p≤17000∧tz d≤480:=by
 obtain⟨hR,d1,d2,l1,l2,g1,g2,lg,l16⟩:=cB hg
 rcases h with⟨rfl,rfl⟩| ⟨h0,h1,h2,h3,-⟩
 ·refine⟨Nat.zero_le _,by omega,by omega,by simp,by simp, ?_⟩
  exact Nat.le_trans (gZ 0 0 (Nat.le_refl _)) (by omega)
 ·have hw:=Nat.mul_le_mul (eN R).2 (show D.toNat≤120 by omega)
  have hl:(Dg.dg 4294967296 d).length≤15:=jq h3 (by omega);have:=gZ d 15 hl;refine⟨hl,by omega,by omega, ?_, ?_,by omega⟩<;>(unfold ai;split<;>simp<;>omega)
theorem nN {R D L G:Int}(gr:Bool)(t:ak)(hLG:L≤G):dA R D L G gr (bare t).n (bare t).e=dA R D L G gr t.n t.e:=by
 rw[←jK gr t hLG,←jK gr (bare t) hLG,iH]
theorem mI {R D L G:Int}{gr s:Bool}{d:Nat}{p:Int}(hg:bk R D L G=0)(h:ia R D L G gr d p):dA R D L G gr (bare ⟨s,d,(ai R:Int)*p⟩).n (bare ⟨s,d,(ai R:Int)*p⟩).e=true:=by
 obtain⟨-,d1,-,-,-,-,-,lg,-⟩:=cB hg;rw[nN gr _ lg]
 rcases h with⟨rfl,rfl⟩| ⟨h0,h1,h2,h3,h4⟩
 ·exact tO R D L G gr _
 ·rw[tN d1 h3 h1 h4 h0]
  exact decide_eq_true h2
theorem Gm {k:Nat}(hk:1≤k∧k≤8): -16445≤(ai (rdN k):Int)*lsI k∧(ai (rdN k):Int)*(gsI k+(dgN k:Int))≤16384:=by
 rcases bO hk with rfl|rfl|rfl|rfl|rfl|rfl|rfl|rfl<;>decide
theorem mY {k:Nat}(hk:1≤k∧k≤8){ng:Bool}{xs:List Nat}{p:Int}(hc:chk xs=0)(hx:xs.length≠0)(hp: ¬(p< -20000∨20000<p)):
  enE k ng xs p=if inR (rdN k) (dgN k) (lsI k) (gsI k) (decide (k≤3)) (bare ⟨ng,Dg.vl 4294967296 xs,(ai (rdN k):Int)*p⟩).n (bare ⟨ng,Dg.vl 4294967296 xs,(ai (rdN k):Int)*p⟩).e=true then 0 else 4:=by
 obtain⟨f1,f2,f3,f4,f5,f6,f7,f8,f9,f10,f11,hgc⟩:=eR hk;obtain⟨g1,g2⟩:=Gm hk;have hvn:Dg.vl 4294967296 xs≠0:=fun h=>by
  obtain⟨n1,-⟩:=aF hc;exact Dg.vl_ne_zero 4294967296 (by omega) xs (by intro e;subst e;simp at hx) n1 h
 have hpl:ix xs p (rdN k) (dgN k) (lsI k) (gsI k)=0:=by
  unfold ix;rw[if_pos hc,if_pos hgc,if_neg];unfold eJ;simp;omega
 have hen:enN k ng xs p=bU ⟨ng,Dg.vl 4294967296 xs,(ai (rdN k):Int)*p⟩:=by
  unfold enN cC;rw[if_pos hpl]
 unfold enE;rw[if_neg hp,if_neg hx,hen];have hbn:(bare ⟨ng,Dg.vl 4294967296 xs,(ai (rdN k):Int)*p⟩).n≠0:=fun h=>hvn ((fI _).1 h)
 generalize htt:(⟨ng,Dg.vl 4294967296 xs,(ai (rdN k):Int)*p⟩:ak)=t at*;have hin: ∀hh: ¬1200< (Dg.dg 4294967296 (bare t).n).length,∀h2: ¬((bare t).e< -20000∨20000< (bare t).e),enH k (bare t)=inR (rdN k) (dgN k) (lsI k) (gsI k) (decide (k≤3)) (bare t).n (bare t).e:=fun hh h2=>by
  unfold enH um;have hd:aS (Dg.dg 4294967296 (bare t).n) (bare t).e=0:=by
   unfold aS;rw[if_pos (pJ (Dg.norm_dg 4294967296 (bare t).n (by omega)) (by omega)),if_neg h2]
  have hon:onC (aS (Dg.dg 4294967296 (bare t).n) (bare t).e) (bk (rdN k) (dgN k) (lsI k) (gsI k))=0:=by unfold onC;rw[if_pos hd];exact hgc
  rw[if_pos hon,Dg.vl_dg _ _ (by omega),nN _ _ f7,jK _ _ f7]
 by_cases hi:inR (rdN k) (dgN k) (lsI k) (gsI k) (decide (k≤3)) (bare t).n (bare t).e=true
 ·rw[if_pos hi]
  have hq:(ai (rdN k):Int)*lsI k≤(bare t).e∧(bare t).e+(bitLen (bare t).n:Int)≤(ai (rdN k):Int)*(gsI k+(dgN k:Int)):=by
   have:=hi;unfold inR at this
   rcases of_decide_eq_true this with h|h
   ·exact absurd h hbn
   ·exact⟨h.1,h.2.1⟩
  have hlen: ¬1200< (Dg.dg 4294967296 (bare t).n).length:=by
   have:=jq (d:=(bare t).n) (k:=bitLen (bare t).n) (L:=1200) (bitLen_spec _).1 (by omega);omega
  have h2: ¬((bare t).e< -20000∨20000< (bare t).e):=by omega
  have hsh:bU t=(bare t,0):=by unfold bU;rw[if_neg hlen,if_neg h2]
  rw[hsh,if_pos ⟨rfl,by rw[hin hlen h2];exact hi⟩]
 ·rw[if_neg hi,if_neg]
  rintro⟨h1,h3⟩;unfold bU at h1 h3
  by_cases hlen:1200< (Dg.dg 4294967296 (bare t).n).length
  ·rw[if_pos hlen] at h1
   simp at h1
  ·rw[if_neg hlen] at h1 h3
   by_cases h2:(bare t).e< -20000∨20000< (bare t).e
   ·rw[if_pos h2] at h1
    simp at h1
   ·rw[if_neg h2] at h3
    rw[hin hlen h2] at h3;exact hi h3
theorem KN {xs:List Nat}{L:Nat}(sa:Dg.Small 4294967296 xs)(h:xs.length≤L):(Dg.dg 65536 (Dg.vl 4294967296 xs)).length≤2*L:=by
 refine Dg.dg_len_le 65536 _ _ (by omega) ?_;rw[Nat.pow_mul];exact Nat.lt_of_lt_of_le (Dg.vl_lt 4294967296 xs sa) (Nat.pow_le_pow_right (by omega) h)
theorem JN {xs:List Nat}(hc:chk xs=0)(hx:xs.length≠0):Dg.vl 4294967296 xs≠0:=fun h=>by
 obtain⟨n1,-⟩:=aF hc;exact Dg.vl_ne_zero 4294967296 (by omega) xs (by intro e;subst e;simp at hx) n1 h
theorem qr {s:Bool}{n:Nat}{e:Int}(h:n≠0):(bare ⟨s,n,e⟩).s=s:=by
 unfold bare;rw[if_neg h]
theorem AW {k:Nat}{ng:Bool}{xs:List Nat}{p:Int}(hx:chk xs=0)(hl:xs.length≠0)(hp: ¬(p< -20000∨20000<p))(sa:Dg.Small 4294967296 xs)(hE:enE k ng xs p=0):
  (enN k ng xs p).1=bare ⟨ng,Dg.vl 4294967296 xs,(ai (rdN k):Int)*p⟩∧(Dg.dg 65536 (bare ⟨ng,Dg.vl 4294967296 xs,(ai (rdN k):Int)*p⟩).n).length≤20000∧ -79000≤(bare ⟨ng,Dg.vl 4294967296 xs,(ai (rdN k):Int)*p⟩).e∧(bare ⟨ng,Dg.vl 4294967296 xs,(ai (rdN k):Int)*p⟩).e≤200000:=by
 have h2:(enN k ng xs p).2=0:=by
  refine Decidable.byContradiction fun c=> ?_
  unfold enE at hE;rw[if_neg hp,if_neg hl,if_neg (fun h=>c h.1)] at hE
  omega
 have hr:=wI (show cC (ix xs p (rdN k) (dgN k) (lsI k) (gsI k)) ⟨ng,Dg.vl 4294967296 xs,(ai (rdN k):Int)*p⟩=((enN k ng xs p).1,0) from Prod.ext rfl h2)
 have hd:=hr.2;rw[hr.1] at hd;obtain⟨-,e1,e2⟩:=bL hd;have hb:=AE (t:=⟨ng,Dg.vl 4294967296 xs,(ai (rdN k):Int)*p⟩) (JN hx hl);have hl2:=KN sa (aF hx).2;refine⟨hr.1,Nat.le_trans hb.1 ?_,by omega,by omega⟩
 show(Dg.dg 65536 (Dg.vl 4294967296 xs)).length≤20000
 omega
theorem Q9 {k:Nat}(hk:1≤k∧k≤8){ng:Bool}{xs:List Nat}{p:Int}(sa:Dg.Small 4294967296 xs)(hx:chk xs=0)(hE:enE k ng xs p=0):
  (enS k ng xs p).size=szN k∧aZ k (enS k ng xs p)=ng∧aR k (enS k ng xs p)<2^exN k∧aU k (enS k ng xs p)<2^frN k∧dh k ng (aR k (enS k ng xs p)) (aU k (enS k ng xs p))=2∧iI k (aR k (enS k ng xs p)) (aU k (enS k ng xs p))≠0∧
   bare ⟨ng,iI k (aR k (enS k ng xs p)) (aU k (enS k ng xs p)),(ai (rdN k):Int)*ii k (aR k (enS k ng xs p))⟩=bare ⟨ng,Dg.vl 4294967296 xs,(ai (rdN k):Int)*p⟩:=by
 obtain⟨f1,f2,f3,f4,f5,f6,f7,f8,f9,f10,f11,hgc⟩:=eR hk;have hp: ¬(p< -20000∨20000<p):=fun h=>by
  unfold enE at hE;rw[if_pos h] at hE;omega
 have hl:xs.length≠0:=fun h=>by
  unfold enE at hE;rw[if_neg hp,if_pos h] at hE;omega
 have hvn:=JN hx hl;have hnum:=mY hk (ng:=ng) hx hl hp;have hin:inR (rdN k) (dgN k) (lsI k) (gsI k) (decide (k≤3)) (bare ⟨ng,Dg.vl 4294967296 xs,(ai (rdN k):Int)*p⟩).n (bare ⟨ng,Dg.vl 4294967296 xs,(ai (rdN k):Int)*p⟩).e=true:=by
  refine Decidable.byContradiction fun c=> ?_
  rw[hE,if_neg c] at hnum;omega
 have hbn:(bare ⟨ng,Dg.vl 4294967296 xs,(ai (rdN k):Int)*p⟩).n≠0:=fun hv=>hvn ((fI _).1 hv)
 have hbs:(bare ⟨ng,Dg.vl 4294967296 xs,(ai (rdN k):Int)*p⟩).s=ng:=qr hvn;have hbb:=iH ⟨ng,Dg.vl 4294967296 xs,(ai (rdN k):Int)*p⟩;have hheld:dA (rdN k) (dgN k) (lsI k) (gsI k) (decide (k≤3)) (bare ⟨ng,Dg.vl 4294967296 xs,(ai (rdN k):Int)*p⟩).n (bare ⟨ng,Dg.vl 4294967296 xs,(ai (rdN k):Int)*p⟩).e=true:=by
  rw[nN _ _ f7,←jK _ _ f7];exact hin
 have hS:enS k ng xs p=cF (kU k (plT k (bare ⟨ng,Dg.vl 4294967296 xs,(ai (rdN k):Int)*p⟩).s (bare ⟨ng,Dg.vl 4294967296 xs,(ai (rdN k):Int)*p⟩).n (bare ⟨ng,Dg.vl 4294967296 xs,(ai (rdN k):Int)*p⟩).e).s (heE (rdN k) (lsI k) (gW k) (plT k (bare ⟨ng,Dg.vl 4294967296 xs,(ai (rdN k):Int)*p⟩).s (bare ⟨ng,Dg.vl 4294967296 xs,(ai (rdN k):Int)*p⟩).n (bare ⟨ng,Dg.vl 4294967296 xs,(ai (rdN k):Int)*p⟩).e)) (plT k (bare ⟨ng,Dg.vl 4294967296 xs,(ai (rdN k):Int)*p⟩).s (bare ⟨ng,Dg.vl 4294967296 xs,(ai (rdN k):Int)*p⟩).n (bare ⟨ng,Dg.vl 4294967296 xs,(ai (rdN k):Int)*p⟩).e).d):=by
  unfold enS;rw[if_pos hE,(AW (k:=k) (ng:=ng) hx hl hp sa hE).1]
 rw[hbs] at hS;generalize bare ⟨ng,Dg.vl 4294967296 xs,(ai (rdN k):Int)*p⟩=T at*;obtain⟨p1,p2,p3,p4⟩:=oj (s:=ng) (way:=3) (by omega:(1:Int)≤(dgN k:Int)) f7 hbn hheld;obtain⟨ho,hu,hbr⟩:=mC (s:=ng) (way:=3) (by omega:(1:Int)≤(dgN k:Int)) f7 hbn hheld;have hsp:=(nW (by omega) f7 hbn (by omega) ho hu).resolve_left (fun c=>p4 (by rw[←p2];exact c.1))
 have hpl:cI (rdN k) (dgN k) (lsI k) (gsI k) (decide (k≤3)) ng T.n 1 T.e 3=plT k ng T.n T.e:=rfl;rw[hpl] at p1 hbr hsp;generalize plT k ng T.n T.e=pt at*;obtain⟨q0,q1,q2,q3,q4⟩:=hsp;have hdg:((dgN k:Int)-1).toNat=dgN k-1:=by omega
 rw[Int.toNat_natCast] at q3;rw[hdg] at q4;obtain⟨r1,r2,r3,r4⟩:=CQ hk ng pt q1 q2 q0 q3 (q4.imp_right (fun h=>⟨by simpa using h.1,h.2⟩))
 obtain⟨w1,w2,w3,w4⟩:=mS hk pt.s (heE (rdN k) (lsI k) (gW k) pt) pt.d;rw[Nat.mod_eq_of_lt r1] at w2;rw[hS,w1,w2,w3,w4];refine⟨rfl,p1,r1,Nat.mod_lt _ (Nat.pow_pos (by omega)),r2,by rw[r3];exact q0, ?_⟩;rw[r3,r4];rw[p1] at hbr;rw[hbr];have:(⟨ng,T.n,T.e⟩:ak)=T:=by
  cases T
  simp only at hbs⊢;rw[hbs]
 rw[this,hbb]
theorem Ry {k m:Nat}(hk:1≤k∧k≤8)(hm:m=1∨m=3∨m=4∨m=5)(g:Bool)(hs:iR k m=true)(hg:g=true→Bk k m=true):
  pg k m<2^exN k∧lS k m<2^frN k∧dh k (pI k m||g) (pg k m) (lS k m)=m∧kt k (pI k m||g) (pg k m) (lS k m)=g:=by
 revert hs hg
 rcases bO hk with rfl|rfl|rfl|rfl|rfl|rfl|rfl|rfl<;>rcases hm with rfl|rfl|rfl|rfl<;>cases g<;>decide
theorem nj {k:Nat}(hk:1≤k∧k≤8){s:ByteArray}(h:s.size=szN k):dF k s=0:=by
 have hf:dK k≠0:=by
  rcases bO hk with rfl|rfl|rfl|rfl|rfl|rfl|rfl|rfl<;>decide
 unfold dF;rw[if_neg hf,Int.toNat_natCast,if_pos h]
theorem oJ {k:Nat}(hk:1≤k∧k≤8){c:Int}{ng:Bool}{xs:List Nat}{p:Int}(sa:Dg.Small 4294967296 xs)(h:gI k c ng xs p=0):
  (fq k c ng xs p).size=szN k∧((dh k (aZ k (fq k c ng xs p)) (aR k (fq k c ng xs p)) (aU k (fq k c ng xs p)):Nat):Int)=c∧kt k (aZ k (fq k c ng xs p)) (aR k (fq k c ng xs p)) (aU k (fq k c ng xs p))=ng∧
   aR k (fq k c ng xs p)<2^exN k∧aU k (fq k c ng xs p)<2^frN k∧
   (c=2→chk xs=0∧aZ k (fq k c ng xs p)=ng∧iI k (aR k (fq k c ng xs p)) (aU k (fq k c ng xs p))≠0∧bare ⟨ng,iI k (aR k (fq k c ng xs p)) (aU k (fq k c ng xs p)),(ai (rdN k):Int)*ii k (aR k (fq k c ng xs p))⟩=bare ⟨ng,Dg.vl 4294967296 xs,(ai (rdN k):Int)*p⟩)∧
   (c≠2→xs.length=0∧p=0):=by
 by_cases hf:dK k=0∨c<1∨5<c
 ·unfold gI at h
  rw[if_pos hf] at h;omega
 ·by_cases hx:chk xs=0
  ·unfold gI at h
   rw[if_neg hf,if_neg (fun q=>q hx)] at h
   unfold fq;rw[if_neg hf,if_neg (fun q=>q hx)]
   rw[Int.toNat_natCast] at h⊢
   by_cases hc:c=2
   ·rw[if_pos hc] at h⊢
    obtain⟨e1,e2,e3,e4,e5,e6,e7⟩:=Q9 hk sa hx h;rw[e2];refine⟨e1,by rw[e5,hc];rfl,by unfold kt;rw[if_pos (by omega)],e3,e4,fun _=>⟨hx,rfl,e6,e7⟩,fun q=>absurd hc q⟩
   ·rw[if_neg hc] at h⊢
    obtain⟨m,hm⟩: ∃m:Nat,c=(m:Int):=⟨c.toNat,by omega⟩;subst hm;rw[Int.toNat_natCast] at h⊢;have h4:m=1∨m=3∨m=4∨m=5:=by omega
    have hs:iR k m=true:=by
     refine Decidable.byContradiction fun q=> ?_
     unfold qX at h;rw[if_pos (by simpa using q)] at h;omega
    have hbad: ¬(0<xs.length∨p≠0∨ng=true∧Bk k m=false):=fun q=>by
     unfold qX at h;rw[if_neg (by rw[hs];simp),if_pos q] at h;omega
    have hg:ng=true→Bk k m=true:=fun q=>by
     refine Decidable.byContradiction fun r=>hbad (.inr (.inr ⟨q,by simpa using r⟩))
    obtain⟨o1,o2,o3,o4⟩:=Ry hk h4 ng hs hg;obtain⟨w1,w2,w3,w4⟩:=mS hk (pI k m||ng) (pg k m) (lS k m)
    rw[Nat.mod_eq_of_lt o1] at w2;rw[Nat.mod_eq_of_lt o2] at w3;have hS:Fv k m xs.length ng p=cF (kU k (pI k m||ng) (pg k m) (lS k m)):=by
     unfold Fv;rw[if_pos h]
    rw[hS,w1,w2,w3,w4,o3,o4];refine⟨rfl,rfl,rfl,o1,o2,fun q=>absurd q hc,fun _=>⟨?_, ?_⟩⟩
    ·rcases Nat.eq_zero_or_pos xs.length with q|q
     ·exact q
     ·exact absurd (.inl q) hbad
    ·exact Decidable.byContradiction fun q=>hbad (.inr (.inl q))
  ·unfold gI at h
   rw[if_neg hf,if_pos hx] at h;exact absurd h hx
theorem xH {k:Nat}(hk:1≤k∧k≤8){ng:Bool}{ys:List Nat}{q:Int}(hy:chk ys=0):gI k 2 ng ys q=enE k ng ys q∧fq k 2 ng ys q=enS k ng ys q:=by
 have hf: ¬(dK k=0∨(2:Int)<1∨(5:Int)<2):=by
  rcases bO hk with rfl|rfl|rfl|rfl|rfl|rfl|rfl|rfl<;>decide
 unfold gI fq;rw[if_neg hf,if_neg (fun c=>c hy),if_pos rfl,if_neg hf,if_neg (fun c=>c hy),if_pos rfl,Int.toNat_natCast]
 exact⟨rfl,rfl⟩
theorem push_err (q:Nat)(f e:Int)(s:ByteArray)(w:World)(he:e≠0):
  yC 94 #[.pointer (some ⟨q,0,none⟩),.string s,yi f,yi e] w fun z w'=>z= .returned (yi e)∧w'=w:=by
 have hne:(e==0)=false:=beq_eq_false_iff_ne.2 he
 go_enter Tryz.func94,Tryz.ntmps94
 go_wp2
 go_ret
 exact⟨by simp,rfl⟩
structure Plc (k:Nat) (P:fz):Prop where
 low:dK k=1→P.p<lsI k→P.ov=true
 same:dK k≠1→P.ov=false→P.un=true→P.ex=true→P.p<lsI k
 nil:P.ov=false→P.d=0→dK k=1
 len:(Dg.dg 65536 P.d).length≤100000
 far:P.ov=false→(P.un=true∧P.p<lsI k)∨(-17000≤P.p∧P.p≤17000)
theorem Jz {k:Nat}{wy cx cy:Int}{gx gy:Bool}{x y:ak}(h:cx=3∧cy=3∧gx≠gy):vY k wy cx gx x cy gy y=noV k 16:=if_pos h
theorem JA {k:Nat}{wy cx cy:Int}{gx gy:Bool}{x y:ak}(h1:cx=3)(h: ¬(cy=3∧gx≠gy)):vY k wy cx gx x cy gy y=(3,gx,x,0):=by
 unfold vY;rw[if_neg (show¬(cx=3∧cy=3∧gx≠gy) from fun c=>h c.2),if_pos h1]
theorem Wy {k:Nat}{wy cx cy:Int}{gx gy:Bool}{x y:ak}(h1:cx≠3)(h2:cy=3):vY k wy cx gx x cy gy y=(3,gy,y,0):=by
 unfold vY;rw[if_neg (show¬(cx=3∧cy=3∧gx≠gy) from fun c=>h1 c.1),if_neg h1,if_pos h2]
theorem OZ {k:Nat}{wy cx cy:Int}{gx gy:Bool}{x y:ak}(h1:cx≠3)(h2:cy≠3):vY k wy cx gx x cy gy y=nu (aG x y) (if gx=gy then gx else decide (wy=5)):=by
 unfold vY;rw[if_neg (show¬(cx=3∧cy=3∧gx≠gy) from fun c=>h1 c.1),if_neg h1,if_neg h2]
theorem EV {k:Nat}(hk:1≤k∧k≤8):ia (rdN k) (dgN k) (lsI k) (gsI k) (decide (k≤3)) (rdN k^dgN k-1) (gsI k):=by
 refine .inr ?_
 rcases bO hk with rfl|rfl|rfl|rfl|rfl|rfl|rfl|rfl<;>decide
theorem fam_one {k:Nat}(hk:1≤k∧k≤8):dK k=1↔k≤3:=by
 rcases bO hk with rfl|rfl|rfl|rfl|rfl|rfl|rfl|rfl<;>decide
structure Rnd (k:Nat) (P:fz):Prop where
 plc:Plc k P
 nil0:P.d=0→P.p=0
 spot:P.ov=false→ ¬(P.un=true∧P.p<lsI k)→P.d≠0→ia (rdN k) (dgN k) (lsI k) (gsI k) (decide (k≤3)) P.d P.p
theorem rnd_of {k:Nat}(hk:1≤k∧k≤8)(s:Bool)(N M:Nat)(E way:Int)(hN:N≠0)(hM:M≠0):Rnd k (cI (rdN k) (dgN k) (lsI k) (gsI k) (decide (k≤3)) s N M E way):=by
 obtain⟨-,-,d1,-,l1,l0,lg,g2,w64,-,ww,hg⟩:=eR hk;have hD:(1:Int)≤(dgN k:Int):=by omega
 have hfk:=fam_one hk;have hrs:=nW (R:=(rdN k:Int)) (D:=(dgN k:Int)) (L:=lsI k) (G:=gsI k) (gr:=decide (k≤3)) (qs:=s) (N:=N) (M:=M) (E:=E) (way:=way) hD lg hN hM;rw[kJ _ s N M E way hD lg hN hM] at hrs⊢;have hwl:=rP (rdN k) (dgN k) (lsI k) (decide (k≤3)) N M E hD hN hM;have hwp:=Vf (rdN k) (dgN k) (lsI k) (decide (k≤3)) N M E hD hN hM;have hds:=uh (rdN k) (dgN k) (lsI k) (decide (k≤3)) N M E hD hN hM (dj (rdN k) (dgN k) (lsI k) (decide (k≤3)) N M E);have hdz:=CD (rdN k) (dgN k) (fM (rdN k) (dgN k) (lsI k) (decide (k≤3)) s N M E way);have hdg:=KL (rdN k) (dgN k) (lsI k) (decide (k≤3)) s N M E way;have hd1:fM (rdN k) (dgN k) (lsI k) (decide (k≤3)) s N M E way≤cH (rdN k) (dgN k) (lsI k) (decide (k≤3)) N M E+1:=by
  unfold fM
  split<;>omega
 have hdn:gF (rdN k) (dgN k) (lsI k) (decide (k≤3)) N M E=0→fM (rdN k) (dgN k) (lsI k) (decide (k≤3)) s N M E way=cH (rdN k) (dgN k) (lsI k) (decide (k≤3)) N M E:=fun h=>by
  unfold fM;rw[if_neg (fun c=>of_decide_eq_false c.1 h)]
 have hcut:(k≤3→lsI k≤dj (rdN k) (dgN k) (lsI k) (decide (k≤3)) N M E)∧(¬k≤3→dj (rdN k) (dgN k) (lsI k) (decide (k≤3)) N M E=aT (rdN k) (dgN k) (dY N M E)):=by
  unfold dj;refine⟨fun h=> ?_,fun h=> ?_⟩
  ·rw[decide_eq_true h,Bool.and_true]
   split
   ·exact Int.le_refl _
   ·rename_i c
    simpa using c
  ·rw[decide_eq_false h,Bool.and_false,if_neg (by decide)]
 have hcP:gD (rdN k) (dgN k) (fM (rdN k) (dgN k) (lsI k) (decide (k≤3)) s N M E way) (dj (rdN k) (dgN k) (lsI k) (decide (k≤3)) N M E)=dj (rdN k) (dgN k) (lsI k) (decide (k≤3)) N M E∨(gD (rdN k) (dgN k) (fM (rdN k) (dgN k) (lsI k) (decide (k≤3)) s N M E way) (dj (rdN k) (dgN k) (lsI k) (decide (k≤3)) N M E)=dj (rdN k) (dgN k) (lsI k) (decide (k≤3)) N M E+1∧io (rdN k) (dgN k) (fM (rdN k) (dgN k) (lsI k) (decide (k≤3)) s N M E way)=2^ (ai (rdN k)*((dgN k:Int)-1).toNat)):=by
  unfold gD io
  split
  ·exact .inr ⟨rfl,rfl⟩
  ·exact .inl rfl
 have hpw:2^ (ai (rdN k)*((dgN k:Int)-1).toNat)<2^ (ai (rdN k)*(dgN k:Int).toNat):=by
  refine Nat.pow_lt_pow_right (by omega) (Nat.mul_lt_mul_of_pos_left ?_ (by omega));omega
 have hcl:io (rdN k) (dgN k) (fM (rdN k) (dgN k) (lsI k) (decide (k≤3)) s N M E way)<2^ (ai (rdN k)*(dgN k:Int).toNat):=by
  unfold io
  split
  ·exact hpw
  ·omega
 have hlen:(Dg.dg 65536 (io (rdN k) (dgN k) (fM (rdN k) (dgN k) (lsI k) (decide (k≤3)) s N M E way))).length≤100000:=by
  refine Nat.le_trans (Dg.dg_len_le 65536 _ 4 (by omega) (Nat.lt_of_lt_of_le hcl ?_)) (by omega);rw[Int.toNat_natCast];exact Nat.le_trans (Nat.pow_le_pow_right (by omega) w64) (by decide)
 generalize fM (rdN k) (dgN k) (lsI k) (decide (k≤3)) s N M E way=dg at*;generalize dj (rdN k) (dgN k) (lsI k) (decide (k≤3)) N M E=ct at*;generalize aT (rdN k) (dgN k) (dY N M E)=pw at*;generalize cH (rdN k) (dgN k) (lsI k) (decide (k≤3)) N M E=wh at*;generalize gF (rdN k) (dgN k) (lsI k) (decide (k≤3)) N M E=lf at*;generalize hcPe:gD (rdN k) (dgN k) dg ct=cp at*;generalize hcDe:io (rdN k) (dgN k) dg=cd at*;have hpos: ¬k≤3→cd≠0:=fun h c=>by
  have:=hwp (hcut.2 h);have:=hdz.1 c;omega
 refine⟨⟨fun hf hl=> ?_,fun hf ho hu he=> ?_,fun ho hd=> ?_,hlen,fun ho=> ?_⟩,fun hd=>if_pos hd,fun ho hnl hd=> ?_⟩
 ·simp only at hl
  have h3:=hfk.1 hf;have:=hcut.1 h3
  exfalso
  split at hl<;>omega
 ·simp only at ho hu he⊢
  have h3: ¬k≤3:=fun c=>hf (hfk.2 c)
  have e1:=hdn (of_decide_eq_true he);have e2:=hcut.2 h3;have e3:=of_decide_eq_true hu;rw[if_neg (hpos h3)];rw[e1,hds.2] at hcPe;omega
 ·exact hfk.2 (Decidable.byContradiction fun h3=>hpos h3 hd)
 ·simp only at ho⊢
  have hG:=of_decide_eq_false ho
  by_cases h3:k≤3
  ·have:=hcut.1 h3
   right
   split<;>omega
  ·rw[if_neg (hpos h3)]
   have e2:=hcut.2 h3
   by_cases hl:cp<lsI k
   ·left
    exact⟨decide_eq_true (by omega),hl⟩
   ·right
    omega
 ·simp only at ho hnl hd⊢
  rw[if_neg hd] at hnl⊢
  by_cases h3:k≤3
  ·have:=hrs ho (.inr (decide_eq_true h3))
   rw[if_neg hd] at this;exact this
  ·by_cases hu:pw<lsI k
   ·have e2:=hcut.2 h3
    have hl: ¬cp<lsI k:=fun c=>hnl ⟨decide_eq_true hu,c⟩
    have hG:=of_decide_eq_false ho;obtain⟨c1,c2⟩:=hcP.resolve_left (by omega);exact .inr ⟨hd,by omega,by omega,hcl,.inl (by omega)⟩
   ·have:=hrs ho (.inl (decide_eq_false hu))
    rw[if_neg hd] at this;exact this
theorem inf_few {k:Nat}{a:ByteArray}(ha:dF k a=0)(h:bM k a=3):k≤3:=by
 refine Decidable.byContradiction fun h3=> ?_
 revert h
 unfold bM;rw[if_pos ha,Int.toNat_natCast];unfold dh;rw[if_neg h3]
 split
 ·split<;>omega
 ·split
  ·split<;>omega
  ·omega
end Go.Proofs.YtdhpndnncmagiaaGreatDoor
