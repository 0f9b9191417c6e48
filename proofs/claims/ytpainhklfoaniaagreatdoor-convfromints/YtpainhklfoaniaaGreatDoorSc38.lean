/-
  Texts laid together: Ce3, Ce4, Ce5, Co22.
-/
import Derived.Test.YtpainhklfoaniaaGreatDoorSc17
import Derived.Test.YtpainhklfoaniaaGreatDoorSc37
import Derived.Test.YtpainhklfoaniaaGreatDoorSc18
set_option maxRecDepth 100000
set_option maxHeartbeats 6400000
namespace Go.Proofs.YtpainhklfoaniaaGreatDoor
open _root_.Go.Proofs.Tryz
open Go.RowKit
def byL (bf:Nat→Bool)(n:Nat):List Nat:=(List.range n).map fun i=>jY (fun j=>bf (8*i+j)) 8
theorem xT (bf:Nat→Bool)(n:Nat):(byL bf n).length=n:=by simp[byL]
theorem JB (bf:Nat→Bool)(n i:Nat)(h:i<n):(byL bf n).getD i 0=jY (fun j=>bf (8*i+j)) 8:=by
 simp[byL,List.getD_eq_getElem?_getD,h]
theorem xU {k i:Nat}(hk:1≤k∧k≤8)(hi:i<szN k):plN k (plN k i)=i:=by
 obtain⟨m,hm⟩:=(fZ hk).2.2.2.2.1;unfold plN
 by_cases h3:k=3
 ·rw[if_pos h3,if_pos h3]
  omega
 ·rw[if_neg h3,if_neg h3]
  by_cases h6:6≤k
  ·rw[if_pos h6,if_pos h6]
   omega
  ·rw[if_neg h6,if_neg h6]
def PlI (k:Nat)(bf:Nat→Bool)(i:Nat)(cur:List Nat):Prop:=
 cur.length=szN k∧ ∀j,j<i→cur.getD (plN k j) 0=jY (fun u=>bf (8*j+u)) 8
theorem WU {k i:Nat}(hk:1≤k∧k≤8){bf:Nat→Bool}{cur:List Nat}(h:PlI k bf i cur)(hi:i<szN k):PlI k bf (i+1) (cur.set (plN k i) (jY (fun u=>bf (8*i+u)) 8)):=by
 obtain⟨h1,h2⟩:=h;have hl:=Co hk hi;refine⟨by simpa using h1,fun j hj=> ?_⟩
 by_cases e:j=i
 ·subst e
  rw[Dg.getD_set _ _ _ _ (by omega),if_pos rfl]
 ·have hne:plN k i≠plN k j:=fun he=>by
   have h3:=xU hk hi;rw[he,xU hk (by omega)] at h3;exact e h3
  rw[Dg.getD_set _ _ _ _ (by omega),if_neg hne,h2 j (by omega)]
theorem aaJ {k:Nat}(hk:1≤k∧k≤8){bf:Nat→Bool}{cur:List Nat}(h:PlI k bf (szN k) cur):cur=jT k (byL bf (szN k)):=by
 obtain⟨h1,h2⟩:=h;apply List.ext_getElem (by rw[nM,xT];exact h1);intro p hp1 hp2;have hp:p<szN k:=by omega
 have e1:cur.getD p 0=cur[p]:=by simp[List.getD_eq_getElem?_getD,hp1]
 have e2:(jT k (byL bf (szN k))).getD p 0=(jT k (byL bf (szN k)))[p]:=by simp only[List.getD_eq_getElem?_getD,List.getElem?_eq_getElem hp2,Option.getD_some]
 rw[←e1,←e2,Kh k _ p (xT _ _) (by rw[xT];exact hp),JB _ _ _ (Co hk hp)];have:=h2 (plN k p) (Co hk hp);rw[xU hk hp] at this;exact this
theorem G8 (k:Nat)(hk:1≤k∧k≤8)(g off cap:Nat)(bf:Nat→Bool)(w:World)(hc: ∀i,i<8*szN k→w.cell? ⟨g,off+i,none⟩=some (.bool (bf i))):
  yC 81 #[yi k,.slice (some ⟨g,off,none⟩) (8*szN k) cap] w (yR w (.string (cF (jT k (byL bf (szN k)))))):=by
 obtain⟨i0,hi,hz0,hz1,hz2⟩:=info_parts Tryz.infoU8;have hsz:=(fZ hk).2.2.1;have hsz1:1≤szN k:=by rcases bO hk with rfl|rfl|rfl|rfl|rfl|rfl|rfl|rfl<;>decide
 have HP:Hid (∀(i:Nat) w1,i<szN k→yC 79 #[yi k,yi i] w1 (yR w1 (yi ((plN k i:Nat):Int)))):=fun i w1 h=>IF k hk i h w1
 have HCC:Hid _:=hc;have HE:Hid (∀cur,PlI k bf (szN k) cur→cur=jT k (byL bf (szN k))):=fun cur h=>aaJ hk h
 have HS:Hid (∀i cur,PlI k bf i cur→i<szN k→PlI k bf (i+1) (cur.set (plN k i) (jY (fun u=>bf (8*i+u)) 8))∧plN k i<szN k):=fun i cur h h'=>⟨WU hk h h',Co hk h'⟩
 obtain⟨sz,esz⟩: ∃x,szN k=x:=⟨_,rfl⟩;have HL:Hid (∀i cur,PlI k bf i cur→cur.length=sz):=fun i cur h=>by rw[←esz];exact h.1
 have hst0:PlI k bf 0 (List.replicate sz 0):=⟨by simp[esz],fun j hj=>absurd hj (Nat.not_lt_zero _)⟩
 rw[esz] at hsz hsz1 HP HCC HE HS⊢;obtain⟨nb,enb⟩: ∃x,8*sz=x:=⟨_,rfl⟩;have hq:(nb:Int)/8=(sz:Int):=by omega
 have hnb:nb≤80:=by omega
 have HNB:Hid (8*sz=nb):=enb;rw[enb] at HCC⊢;obtain⟨st,est⟩: ∃x,cF (jT k (byL bf sz))=x:=⟨_,rfl⟩;have HST:Hid (cF (jT k (byL bf sz))=st):=est;rw[est];clear hc esz enb est hk
 go_enter func81,ntmps81
 go_wp2_with (at_make;refine wpList_make_full _ rfl _ _ 187 rfl w.heap.size 5 i0 (.int .u8 0) 1 underlying187 hi hz0 hz1 _ _ _ _ sz rfl rfl (by omega) (by omega) ?b2 ?b3 (Nat.le_refl _) ?_)
 case b2=>rw[hz2];omega
 case b3=>unfold maxLen;omega
 intro w0 hown hgrow;have r0:=Ev (gL hown);have b0:yB w w0:=(Below.refl _ _).grown hgrow (Nat.le_refl _) (fun k h=>by cases h)
 clear hown hgrow
 go_wp2
 go_loopw [6] (fun iv wr=> ∃(i:Nat) (cur:List Nat),i≤sz∧iv=yi i∧ik wr w.heap.size cur∧PlI k bf i cur∧yB w wr) (fun iv _=>sz-(intOf iv).toNat)
 case atStart=>exact⟨0,List.replicate sz 0,by omega,rfl,r0,hst0,b0⟩
 case round=>
  obtain⟨i,cur,hi1,rfl,row,hI,bel⟩:=hrel
  by_cases hlt:i<sz
  ·go_wp2
   go_loop [7,8] (fun cv jv=> ∃j c:Nat,j≤8∧Hid (c=jY (fun u=>bf (8*i+u)) j∧c<2^j)∧c<256∧cv=yi (c:Int)∧jv=yi (j:Int)) (fun _ jv=>8-(intOf jv).toNat)
   case atStart=>exact⟨0,0,by omega,⟨rfl,by simp⟩,by omega,rfl,rfl⟩
   case round=>
    obtain⟨j,c,hj,HX,hc256,rfl,rfl⟩:=hrel
    by_cases hj8:j<8
    ·have hce:=cell_later bel (HCC.out (8*i+j) (by have:=HNB.out;omega))
     have hx:=HX.out.1;have hxl:=HX.out.2;have hsv:jY (fun u=>bf (8*i+u)) (j+1)=c*2+if bf (8*i+j) then 1 else 0:=by rw[jY,←hx]
     obtain⟨bb,ebb⟩: ∃x,bf (8*i+j)=x:=⟨_,rfl⟩;rw[ebb] at hce hsv;obtain⟨p,ep⟩: ∃x,8*i+j=x:=⟨_,rfl⟩;rw[ep] at hce;have hpI:(8:Int)*(i:Int)+(j:Int)=(p:Int):=by omega
     have hpl:p<nb:=by have:=HNB.out;omega
     have hl2:(2:Nat)^ (j+1)≤2^8:=Nat.pow_le_pow_right (by omega) (by omega);have hvl:=DZ (fun u=>bf (8*i+u)) (j+1)
     have HH:Hid (_∧_):=⟨hsv,hvl⟩;clear hx ebb ep hsv HX
     cases bb
     all_goals go_wp2
     all_goals (obtain⟨hsv,hvl⟩:=HH.out;simp only[Bool.false_eq_true,if_false,if_true] at hsv;refine⟨⟨j+1,jY (fun u=>bf (8*i+u)) (j+1),by omega,⟨rfl,hvl⟩,by omega,by rw[hsv];congr 1;omega,rfl⟩,by simp only[intOf];omega⟩)
    ·obtain⟨hx,hxl⟩:=HX.out
     have hj':j=8:=by omega
     rw[hj'] at hx;obtain⟨hst,hpl⟩:=HS.out i cur hI hlt;have hp:=fun w1=>HP.out i w1 hlt
     obtain⟨pp,ep⟩: ∃x,plN k i=x:=⟨_,rfl⟩;rw[ep] at hst hpl hp;rw[←hx] at hst;have HPP:Hid _:=hp;have hcl:=HL.out i cur hI;have hjI: ¬((j:Int)<8):=by omega
     have hwc:IntKind.u8.wrap (c:Int)=(c:Int):=by rw[IntKind.wrap_u8'];omega
     clear hp hx hj' ep HX hI
     go_wp2_with fail
     refine(HPP.out _).mono ?_;rintro z w2 ⟨rfl,b2⟩;have row2:=row.l b2;have bel2:=aa bel b2;have hf:=row2.f pp (by omega);have hce:=row2.c pp (by omega);have row3:=row2.store pp c;have bel3:=(ag w2 w.heap.size pp (.int .u8 (c:Int))).below bel2 (Nat.le_refl _);have HR:Hid (_∧_∧_):=⟨row3,bel3,hst⟩;clear row3 bel3 hst row row2 bel bel2 b2
     go_wp2
     go_roundw
     case rel=>
      obtain⟨row3,bel3,hst⟩:=HR.out;exact⟨i+1,_,by omega,by go_num,row3,hst,bel3⟩
     case measure=>simp[intOf];omega
  ·have HI:Hid (i=sz):=(by omega:i=sz)
   have hcl:=HL.out i cur hI;have hcv:=vi (cap:=sz) 187 9 underlying187 underlying5 underlying9 row;have he:cur=jT k (byL bf sz):=HE.out cur (by have:=HI.out;rw[←this] at*;exact hI);rw[hcl,he,HST.out] at hcv;clear he
   go_wp2
   go_ret
   exact⟨rfl,bel⟩
theorem Ib (zs:List Nat)(i:Nat):fU zs i=((zs.getD (i/8) 0).testBit (7-i % 8)).toNat:=by
 unfold fU;rw[Nat.testBit_eq_decide_div_mod_eq];have h:=Nat.mod_lt (zs.getD (i/8) 0/2^ (7-i % 8)) (show 0<2 by omega)
 rcases(show zs.getD (i/8) 0/2^ (7-i % 8) % 2=0∨zs.getD (i/8) 0/2^ (7-i % 8) % 2=1 by omega) with e|e<;>rw[e]<;>rfl
theorem Lp (y b t u:Nat)(hb:b<2):(y|||b*2^t).testBit u=(y.testBit u||(decide (b=1)&&decide (t=u))):=by
 rw[Nat.testBit_or]
 rcases(show b=0∨b=1 by omega) with rfl|rfl
 ·simp
 ·rw[Nat.one_mul,Nat.testBit_two_pow]
  simp
theorem Wp (zs:List Nat)(p b i:Nat)(hb:b<2)(hp:p/8<zs.length):fU (zs.set (p/8) (zs.getD (p/8) 0|||b*2^ (7-p % 8))) i=if i=p then(if b=1 then 1 else fU zs i) else fU zs i:=by
 rw[Ib,Ib,Dg.getD_set _ _ _ _ hp]
 by_cases h8:p/8=i/8
 ·rw[if_pos h8,Lp _ _ _ _ hb,h8]
  by_cases hi:i=p
  ·subst hi
   rw[if_pos rfl]
   rcases(show b=0∨b=1 by omega) with rfl|rfl
   ·simp
   ·simp
  ·rw[if_neg hi,decide_eq_false (show¬7-p % 8=7-i % 8 by omega)]
   simp
 ·rw[if_neg h8,if_neg (show¬i=p from fun e=>h8 (by rw[e]))]
theorem xO (f:Nat): ∀(c x:Nat) (zs:List Nat) (i:Nat),f+c≤8*zs.length→fU (iS f c x zs) i=if f≤i∧i<f+c then(if x/2^ (f+c-1-i) % 2=1 then 1 else fU zs i) else fU zs i
 |0,x,zs,i,_=>by
  rw[iS,if_neg (by omega)]
 |c+1,x,zs,i,h=>by
  rw[iS,xO f c (x/2) _ i (by rw[List.length_set];omega),Wp _ _ _ _ (Nat.mod_lt _ (by omega)) (by omega)]
  by_cases h1:f≤i∧i<f+c
  ·rw[if_pos h1,if_pos (show f≤i∧i<f+(c+1) by omega),if_neg (show¬i=f+c by omega),Nat.div_div_eq_div_mul,←Nat.pow_succ',show(f+c-1-i).succ=f+(c+1)-1-i from by omega]
  ·rw[if_neg h1]
   by_cases h2:i=f+c
   ·rw[if_pos h2,if_pos (show f≤i∧i<f+(c+1) by omega),show f+(c+1)-1-i=0 from by omega,Nat.pow_zero,Nat.div_one]
   ·rw[if_neg h2,if_neg (show¬(f≤i∧i<f+(c+1)) by omega)]
theorem Tk (y:Nat)(h:y<256):jY (fun j=>decide (y/2^ (7-j) % 2=1)) 8=y:=by
 have e: ∀n,(if decide (n % 2=1)=true then 1 else 0)=n % 2:=fun n=>by
  rcases(show n % 2=0∨n % 2=1 by omega) with h|h<;>rw[h]<;>rfl
 simp only[jY,e];omega
theorem nz {f g:Nat→Bool}: ∀n,(∀j,j<n→f j=g j)→jY f n=jY g n
 |0,_=>rfl
 |n+1,h=>by
  rw[jY,jY,nz n (fun j hj=>h j (by omega)),h n (by omega)]
theorem OT (zs:List Nat)(hs:Dg.Small 256 zs):zs=byL (fun i=>decide (fU zs i=1)) zs.length:=by
 apply List.ext_getElem (by rw[xT]);intro p hp1 hp2;have e1:zs.getD p 0=zs[p]:=by simp[List.getD_eq_getElem?_getD,hp1]
 have e2:(byL (fun i=>decide (fU zs i=1)) zs.length).getD p 0=(byL (fun i=>decide (fU zs i=1)) zs.length)[p]:=by simp only[List.getD_eq_getElem?_getD,List.getElem?_eq_getElem hp2,Option.getD_some]
 rw[←e1,←e2,JB _ _ _ hp1];refine(Tk (zs.getD p 0) (hs p)).symm.trans (nz 8 (fun j hj=> ?_))
 unfold fU;rw[show(8*p+j)/8=p from by omega,show(8*p+j) % 8=j from by omega]
theorem Ic {f g:Nat→Bool}(n:Nat)(h: ∀i,i<8*n→f i=g i):byL f n=byL g n:=by
 unfold byL;apply List.map_congr_left;intro i hi;have:=List.mem_range.1 hi;exact nz 8 (fun j hj=>h _ (by omega))
theorem Ea (n i:Nat):fU (List.replicate n 0) i=0:=by
 unfold fU;have:(List.replicate n 0).getD (i/8) 0=0:=by
  by_cases h:i/8<n
  ·simp[List.getD_eq_getElem?_getD,h]
  ·simp[List.getD_eq_getElem?_getD,h]
 rw[this];simp
def Eb (ex fr:Nat)(ng:Bool)(e f:Nat)(i:Nat):Bool:=
 if i=0 then ng else if i≤ex then decide (e/2^ (ex-i) % 2=1) else decide (f/2^ (ex+fr-i) % 2=1)
theorem xP {k:Nat}(hk:1≤k∧k≤8)(ng:Bool)(e f:Nat):kU k ng e f=jT k (byL (Eb (exN k) (frN k) ng e f) (szN k)):=by
 obtain⟨h1,h2,h3,h4,-,h7⟩:=fZ hk;unfold kU
 congr 1
 have sm0:Dg.Small 256 (List.replicate (szN k) 0):=by
  intro i
  by_cases hi:i<szN k
  ·simp[List.getD_eq_getElem?_getD,hi]
  ·simp[List.getD_eq_getElem?_getD,hi]
 have key: ∀zs:List Nat,zs.length=szN k→Dg.Small 256 zs→(∀i,fU zs i=if i=0∧ng=true then 1 else 0)→iS (1+exN k) (frN k) f (iS 1 (exN k) e zs)=byL (Eb (exN k) (frN k) ng e f) (szN k):=fun zs hl hs hb=>by
  have hl2:(iS (1+exN k) (frN k) f (iS 1 (exN k) e zs)).length=szN k:=by rw[il,il,hl]
  rw[OT _ (mj _ _ _ _ (mj _ _ _ _ hs)),hl2];refine Ic _ (fun i hi=> ?_)
  rw[xO _ _ _ _ _ (by rw[il];omega),xO _ _ _ _ _ (by omega),hb i];unfold Eb
  by_cases h0:i=0
  ·subst h0
   rw[if_neg (by omega),if_neg (by omega),if_pos rfl]
   cases ng<;>rfl
  ·rw[if_neg h0]
   have hz:(if i=0∧ng=true then 1 else 0)=0:=if_neg (fun h=>h0 h.1)
   rw[hz]
   by_cases hx:i≤exN k
   ·rw[if_pos hx,if_neg (by omega),if_pos (show 1≤i∧i<1+exN k by omega),show 1+exN k-1-i=exN k-i from by omega]
    split
    ·rename_i h;rw[h]
    ·rename_i h;rw[decide_eq_false h];rfl
   ·rw[if_neg hx,if_pos (show 1+exN k≤i∧i<1+exN k+frN k by omega),if_neg (show¬(1≤i∧i<1+exN k) by omega),show 1+exN k+frN k-1-i=exN k+frN k-i from by omega]
    split
    ·rename_i h;rw[h]
    ·rename_i h;rw[decide_eq_false h];rfl
 cases ng
 ·rw[if_neg (by simp)]
  exact key _ List.length_replicate sm0 (fun i=>by rw[Ea];simp)
 ·rw[if_pos rfl]
  refine key _ (by rw[il];exact List.length_replicate) (mj _ _ _ _ sm0) (fun i=> ?_)
  rw[xO _ _ _ _ _ (by rw[List.length_replicate];omega),Ea]
  by_cases h0:i=0
  ·subst h0
   rfl
  ·rw[if_neg (by omega),if_neg (fun h=>h0 h.1)]
theorem Je (R D L G fam:Int)(gr:Bool)(sz ex:Nat)(F:Nat)(c p:Int)(ng:Bool)(ao:Option Addr)(dn dc:Nat)(r:ak×Int)(w:World)
  (HN: ∀w1,yB w w1→yC 136 #[ypV ng (.slice ao dn dc) p false false false,ygV R D L G gr] w1 (gR w1 r)):
  yC 98 #[ylV R D L G gr sz ex fam F,yvV c ng (.slice ao dn dc) p] w (gR w r):=by
 have hsf:=cD;have HN':Hid _:=HN;have bl:=af w (.cells (ylA R D L G gr sz ex fam F) 131);have bv:=af (w.alloc (.cells (ylA R D L G gr sz ex fam F) 131)) (.cells (yvA c ng (.slice ao dn dc) p) 77);have bd:=af ((w.alloc (.cells (ylA R D L G gr sz ex fam F) 131)).alloc (.cells (yvA c ng (.slice ao dn dc) p) 77)) (.cells (ydA false yN 0) 86);have d0:=ah ((w.alloc (.cells (ylA R D L G gr sz ex fam F) 131)).alloc (.cells (yvA c ng (.slice ao dn dc) p) 77)) (ydL false yN 0) 86;have b0:=aa (aa bl bv) bd;rw[World.size_alloc,World.size_alloc] at d0;clear HN bl bv bd
 go_enter func98,ntmps98
 go_wp2_with fail
 refine(HN'.out _ b0).mono ?_;rintro z w1 ⟨s1,rfl,own1,b1⟩;obtain⟨so,sc,hs1⟩:=own1.rd.shape;subst hs1;have d1:=d0.l b1;have b01:=aa b0 b1;have bu:=((ag w1 (w.heap.size+1+1) 0 (.bool r.1.s)).trans (ag _ (w.heap.size+1+1) 1 (yT so r.1.n sc))).trans (ag _ (w.heap.size+1+1) 2 (yi r.1.e));have cR:au (((w1.setCell ⟨w.heap.size+1+1,0,none⟩ (.bool r.1.s)).setCell ⟨w.heap.size+1+1,1,none⟩ (yT so r.1.n sc)).setCell ⟨w.heap.size+1+1,2,none⟩ (yi r.1.e)) (w.heap.size+1+1) 86 (ydL r.1.s (yT so r.1.n sc) r.1.e):=(((d1.set 0 (.bool r.1.s)).set 1 (yT so r.1.n sc)).set 2 (yi r.1.e));have oR:=(bu.own own1 d1 (by decide)).lower b0.size;have bR:=bu.below b01 (by omega);have hl:=run_loadVar_mid (P:=Tryz.prog) _ (w.heap.size+1+1) 0 86 (ydL r.1.s (yT so r.1.n sc) r.1.e) _ cR.range underlying86 rfl (by kernel_rfl);have HH:Hid (_∧_∧_):=⟨hl,oR,bR⟩;obtain⟨x0,x1,x2⟩:=d1.cs3;have j0:=d1.f 0;have j1:=d1.f 1;have j2:=d1.f 2;clear hl oR bR cR bu d1 d0 b01 b1 own1 b0
 go_wp2
 obtain⟨hl,oR,bR⟩:=HH.out;exact bodyPost_ret (aj results98 rfl rfl hl) rfl ⟨_,rfl,oR,bR⟩
theorem Q7 (R D L G fam:Int)(gr:Bool)(sz ex:Nat)(F:Nat)(c p:Int)(ng:Bool)(ao:Option Addr)(dn dc:Nat)(w:World)(hp:p< -20000):
  yC 72 #[ylV R D L G gr sz ex fam F,yvV c ng (.slice ao dn dc) p] w (yR w (.tuple #[.string ⟨#[]⟩,yi 3])):=by
 have hsf:=cD;have bv:=af (w.alloc (.cells (ylA R D L G gr sz ex fam F) 131)) (.cells (yvA c ng (.slice ao dn dc) p) 77);have l0:=(ah w (ylL R D L G gr sz ex fam F) 131).l bv;have m0:=ah (w.alloc (.cells (ylA R D L G gr sz ex fam F) 131)) (yvL c ng (.slice ao dn dc) p) 77;have b0:=aa (af w (.cells (ylA R D L G gr sz ex fam F) 131)) bv;rw[World.size_alloc] at m0;clear bv;obtain⟨x0,x1,x2,x3,x4,x5,x6,x7,x8⟩:=l0.cs9;obtain⟨u0,u1,u2,u3⟩:=m0.cs4
 go_enter func72,ntmps72
 go_wp2
 go_ret2
 exact⟨rfl,b0⟩
theorem NN (R D L G fam:Int)(gr:Bool)(sz ex:Nat)(F:Nat)(c p:Int)(ng:Bool)(ao:Option Addr)(dn dc:Nat)(w:World)(hp:20000<p):
  yC 72 #[ylV R D L G gr sz ex fam F,yvV c ng (.slice ao dn dc) p] w (yR w (.tuple #[.string ⟨#[]⟩,yi 3])):=by
 have hp1: ¬p< -20000:=by omega
 have hsf:=cD;have bv:=af (w.alloc (.cells (ylA R D L G gr sz ex fam F) 131)) (.cells (yvA c ng (.slice ao dn dc) p) 77);have l0:=(ah w (ylL R D L G gr sz ex fam F) 131).l bv;have m0:=ah (w.alloc (.cells (ylA R D L G gr sz ex fam F) 131)) (yvL c ng (.slice ao dn dc) p) 77;have b0:=aa (af w (.cells (ylA R D L G gr sz ex fam F) 131)) bv;rw[World.size_alloc] at m0;clear bv;obtain⟨x0,x1,x2,x3,x4,x5,x6,x7,x8⟩:=l0.cs9;obtain⟨u0,u1,u2,u3⟩:=m0.cs4
 go_enter func72,ntmps72
 go_wp2
 go_ret2
 exact⟨rfl,b0⟩
theorem KO (R D L G fam:Int)(gr:Bool)(sz ex:Nat)(F:Nat)(c p:Int)(ng:Bool)(ao:Option Addr)(dn dc:Nat)(w:World)(hpa: -20000≤p)(hpb:p≤20000)(hd:dn=0):
  yC 72 #[ylV R D L G gr sz ex fam F,yvV c ng (.slice ao dn dc) p] w (yR w (.tuple #[.string ⟨#[]⟩,yi 4])):=by
 subst hd;have hp1: ¬p< -20000:=by omega
 have hp2: ¬20000<p:=by omega
 have hsf:=cD;have bv:=af (w.alloc (.cells (ylA R D L G gr sz ex fam F) 131)) (.cells (yvA c ng (.slice ao 0 dc) p) 77);have l0:=(ah w (ylL R D L G gr sz ex fam F) 131).l bv;have m0:=ah (w.alloc (.cells (ylA R D L G gr sz ex fam F) 131)) (yvL c ng (.slice ao 0 dc) p) 77;have b0:=aa (af w (.cells (ylA R D L G gr sz ex fam F) 131)) bv;rw[World.size_alloc] at m0;clear bv;obtain⟨x0,x1,x2,x3,x4,x5,x6,x7,x8⟩:=l0.cs9;obtain⟨u0,u1,u2,u3⟩:=m0.cs4
 go_enter func72,ntmps72
 go_wp2
 go_ret2
 exact⟨rfl,b0⟩
theorem Q8 (R D L G fam:Int)(gr:Bool)(sz ex:Nat)(F:Nat)(c p:Int)(ng:Bool)(ao:Option Addr)(dn dc:Nat)(w:World)
  (r:ak) (er:Int) (HN: ∀w1,yB w w1→yC 98 #[ylV R D L G gr sz ex fam F,yvV c ng (.slice ao dn dc) p] w1 (gR w1 (r,er))) (hpa: -20000≤p) (hpb:p≤20000) (hd:0<dn) (he:er≠0):
  yC 72 #[ylV R D L G gr sz ex fam F,yvV c ng (.slice ao dn dc) p] w (yR w (.tuple #[.string ⟨#[]⟩,yi 4])):=by
 have hp1: ¬p< -20000:=by omega
 have hp2: ¬20000<p:=by omega
 have HN':Hid _:=HN;have hdI:((dn:Int)==0)=false:=by simp;omega
 clear HN;have heb:(er==0)=false:=by simpa using he
 have hsf:=cD;have bv:=af (w.alloc (.cells (ylA R D L G gr sz ex fam F) 131)) (.cells (yvA c ng (.slice ao dn dc) p) 77);have l0:=(ah w (ylL R D L G gr sz ex fam F) 131).l bv;have m0:=ah (w.alloc (.cells (ylA R D L G gr sz ex fam F) 131)) (yvL c ng (.slice ao dn dc) p) 77;have b0:=aa (af w (.cells (ylA R D L G gr sz ex fam F) 131)) bv;rw[World.size_alloc] at m0;clear bv;obtain⟨x0,x1,x2,x3,x4,x5,x6,x7,x8⟩:=l0.cs9;obtain⟨u0,u1,u2,u3⟩:=m0.cs4
 go_enter func72,ntmps72
 go_wp2_with fail
 refine(HN'.out _ b0).mono ?_;rintro z w1 ⟨s1,rfl,own1,b1⟩;obtain⟨so,sc,hs1⟩:=own1.rd.shape;subst hs1;simp only;have bq:=af w1 (.cells (yDA r so sc) 86);have l1:=(l0.l b1).l bq;have q1:=ah w1 (yDL r so sc) 86;have r1:=own1.rd.l bq;have b01:=aa (aa b0 b1) bq;clear own1 b1 bq l0 m0 x0 x1 x2 x3 x4 x5 x6 x7 x8 u0 u1 u2 u3;obtain⟨x0,x1,x2,x3,x4,x5,x6,x7,x8⟩:=l1.cs9;obtain⟨q0,qq1,q2⟩:=q1.cs3
 go_wp2
 go_ret2
 exact⟨rfl,b01⟩
theorem NO (R D L G fam:Int)(gr:Bool)(sz ex:Nat)(F:Nat)(c p:Int)(ng:Bool)(ao:Option Addr)(dn dc:Nat)(w:World)
  (r:ak) (er:Int) (HN: ∀w1,yB w w1→yC 98 #[ylV R D L G gr sz ex fam F,yvV c ng (.slice ao dn dc) p] w1 (gR w1 (r,er)))
  (hq:Bool) (he2:Int) (HH: ∀so sc w1,yB w w1→Rd w1 .u32 (yT so r.n sc) (Dg.dg 4294967296 r.n)→yC 65 #[yDV r so sc,ygV R D L G gr] w1 (yR w1 (.tuple #[.bool hq,yi he2]))) (hpa: -20000≤p) (hpb:p≤20000) (hd:0<dn) (he:er=0) (h2:he2=0) (hqf:hq=false):
  yC 72 #[ylV R D L G gr sz ex fam F,yvV c ng (.slice ao dn dc) p] w (yR w (.tuple #[.string ⟨#[]⟩,yi 4])):=by
 subst he h2 hqf;have hp1: ¬p< -20000:=by omega
 have hp2: ¬20000<p:=by omega
 have HN':Hid _:=HN;have hdI:((dn:Int)==0)=false:=by simp;omega
 clear HN;have HH':Hid _:=HH;clear HH;have hsf:=cD;have bv:=af (w.alloc (.cells (ylA R D L G gr sz ex fam F) 131)) (.cells (yvA c ng (.slice ao dn dc) p) 77);have l0:=(ah w (ylL R D L G gr sz ex fam F) 131).l bv;have m0:=ah (w.alloc (.cells (ylA R D L G gr sz ex fam F) 131)) (yvL c ng (.slice ao dn dc) p) 77;have b0:=aa (af w (.cells (ylA R D L G gr sz ex fam F) 131)) bv;rw[World.size_alloc] at m0;clear bv;obtain⟨x0,x1,x2,x3,x4,x5,x6,x7,x8⟩:=l0.cs9;obtain⟨u0,u1,u2,u3⟩:=m0.cs4
 go_enter func72,ntmps72
 go_wp2_with fail
 refine(HN'.out _ b0).mono ?_;rintro z w1 ⟨s1,rfl,own1,b1⟩;obtain⟨so,sc,hs1⟩:=own1.rd.shape;subst hs1;simp only;have bq:=af w1 (.cells (yDA r so sc) 86);have l1:=(l0.l b1).l bq;have q1:=ah w1 (yDL r so sc) 86;have r1:=own1.rd.l bq;have b01:=aa (aa b0 b1) bq;clear own1 b1 bq l0 m0 x0 x1 x2 x3 x4 x5 x6 x7 x8 u0 u1 u2 u3;obtain⟨x0,x1,x2,x3,x4,x5,x6,x7,x8⟩:=l1.cs9;obtain⟨q0,qq1,q2⟩:=q1.cs3
 go_wp2_with fail
 refine(HH'.out _ _ _ b01 r1).mono ?_;rintro z w2 ⟨rfl,b2⟩;have l2:=l1.l b2;have q2:=q1.l b2;have r2:=r1.l b2;have b02:=aa b01 b2;clear l1 q1 r1 b01 b2 x0 x1 x2 x3 x4 x5 x6 x7 x8 q0 qq1;obtain⟨x0,x1,x2,x3,x4,x5,x6,x7,x8⟩:=l2.cs9;obtain⟨qq0,qq1,qq2⟩:=q2.cs3
 go_wp2
 go_ret2
 exact⟨rfl,b02⟩
theorem NP (R D L G fam:Int)(gr:Bool)(sz ex:Nat)(F:Nat)(c p:Int)(ng:Bool)(ao:Option Addr)(dn dc:Nat)(w:World)
  (r:ak) (er:Int) (HN: ∀w1,yB w w1→yC 98 #[ylV R D L G gr sz ex fam F,yvV c ng (.slice ao dn dc) p] w1 (gR w1 (r,er)))
  (hq:Bool) (he2:Int) (HH: ∀so sc w1,yB w w1→Rd w1 .u32 (yT so r.n sc) (Dg.dg 4294967296 r.n)→yC 65 #[yDV r so sc,ygV R D L G gr] w1 (yR w1 (.tuple #[.bool hq,yi he2])))
  (st:ByteArray) (es:Int) (HE: ∀so sc w1,yB w w1→Rd w1 .u32 (yT so r.n sc) (Dg.dg 4294967296 r.n)→yC 99 #[ylV R D L G gr sz ex fam F,yDV r so sc] w1 (yR w1 (.tuple #[.string st,yi es]))) (hpa: -20000≤p) (hpb:p≤20000) (hd:0<dn) (he:er=0) (h2:he2=0) (hqt:hq=true):
  yC 72 #[ylV R D L G gr sz ex fam F,yvV c ng (.slice ao dn dc) p] w (yR w (.tuple #[.string st,yi es])):=by
 subst he h2 hqt;have hp1: ¬p< -20000:=by omega
 have hp2: ¬20000<p:=by omega
 have HN':Hid _:=HN;have hdI:((dn:Int)==0)=false:=by simp;omega
 clear HN;have HH':Hid _:=HH;clear HH;have HE':Hid _:=HE;clear HE;have hsf:=cD;have bv:=af (w.alloc (.cells (ylA R D L G gr sz ex fam F) 131)) (.cells (yvA c ng (.slice ao dn dc) p) 77);have l0:=(ah w (ylL R D L G gr sz ex fam F) 131).l bv;have m0:=ah (w.alloc (.cells (ylA R D L G gr sz ex fam F) 131)) (yvL c ng (.slice ao dn dc) p) 77;have b0:=aa (af w (.cells (ylA R D L G gr sz ex fam F) 131)) bv;rw[World.size_alloc] at m0;clear bv;obtain⟨x0,x1,x2,x3,x4,x5,x6,x7,x8⟩:=l0.cs9;obtain⟨u0,u1,u2,u3⟩:=m0.cs4
 go_enter func72,ntmps72
 go_wp2_with fail
 refine(HN'.out _ b0).mono ?_;rintro z w1 ⟨s1,rfl,own1,b1⟩;obtain⟨so,sc,hs1⟩:=own1.rd.shape;subst hs1;simp only;have bq:=af w1 (.cells (yDA r so sc) 86);have l1:=(l0.l b1).l bq;have q1:=ah w1 (yDL r so sc) 86;have r1:=own1.rd.l bq;have b01:=aa (aa b0 b1) bq;clear own1 b1 bq l0 m0 x0 x1 x2 x3 x4 x5 x6 x7 x8 u0 u1 u2 u3;obtain⟨x0,x1,x2,x3,x4,x5,x6,x7,x8⟩:=l1.cs9;obtain⟨q0,qq1,q2⟩:=q1.cs3
 go_wp2_with fail
 refine(HH'.out _ _ _ b01 r1).mono ?_;rintro z w2 ⟨rfl,b2⟩;have l2:=l1.l b2;have q2:=q1.l b2;have r2:=r1.l b2;have b02:=aa b01 b2;clear l1 q1 r1 b01 b2 x0 x1 x2 x3 x4 x5 x6 x7 x8 q0 qq1;obtain⟨x0,x1,x2,x3,x4,x5,x6,x7,x8⟩:=l2.cs9;obtain⟨qq0,qq1,qq2⟩:=q2.cs3
 go_wp2_with fail
 refine(HE'.out _ _ _ b02 r2).mono ?_;rintro z w3 ⟨rfl,b3⟩
 go_wp2
 go_ret2
 exact⟨rfl,aa b02 b3⟩
theorem LX (n:Int)(c p:Int)(ng:Bool)(ao:Option Addr)(dn dc:Nat)(w:World)
  (HL:yJ 70 #[yi n] (.tuple #[yzV 0 0 0 0 false 0 0 0,yi 6])):
  yC 37 #[yi n,yvV c ng (.slice ao dn dc) p] w (yR w (.tuple #[.string ⟨#[]⟩,yi 6])):=by
 have hsf:=cD;have hsn:=gn;have m0:=ah w (yvL c ng (.slice ao dn dc) p) 77;have b0:=af w (.cells (yvA c ng (.slice ao dn dc) p) 77);have HL':Hid _:=HL;clear HL
 go_enter func37,ntmps37
 go_wp2_with fail
 refine(HL'.out _).mono ?_;rintro z w1 ⟨rfl,b1⟩;have bq:=af w1 (.cells (yzA 0 0 0 0 false 0 0 0) 131);have m1:=(m0.l b1).l bq;have q1:=ah w1 (yzL 0 0 0 0 false 0 0 0) 131;have b01:=aa (aa b0 b1) bq;obtain⟨u0,u1,u2,u3⟩:=m1.cs4;obtain⟨s0,s1,s2,s3,s4,s5,s6,s7,s8⟩:=q1.cs9;clear m0 b0 b1 bq HL'
 go_wp2
 go_ret2
 exact⟨rfl,b01⟩
theorem aaS (n:Int)(R D L G fam:Int)(gr:Bool)(sz ex:Nat)(F:Nat)(c p:Int)(ng:Bool)(ao:Option Addr)(dn dc:Nat)(w:World)
  (HL:yJ 70 #[yi n] (.tuple #[ylV R D L G gr sz ex fam F,yi 0])) (hc:c<1):
  yC 37 #[yi n,yvV c ng (.slice ao dn dc) p] w (yR w (.tuple #[.string ⟨#[]⟩,yi 6])):=by
 have hsf:=cD;have hsn:=gn;have m0:=ah w (yvL c ng (.slice ao dn dc) p) 77;have b0:=af w (.cells (yvA c ng (.slice ao dn dc) p) 77);have HL':Hid _:=HL;clear HL
 go_enter func37,ntmps37
 go_wp2_with fail
 refine(HL'.out _).mono ?_;rintro z w1 ⟨rfl,b1⟩;have bq:=af w1 (.cells (ylA R D L G gr sz ex fam F) 131);have m1:=(m0.l b1).l bq;have q1:=ah w1 (ylL R D L G gr sz ex fam F) 131;have b01:=aa (aa b0 b1) bq;obtain⟨u0,u1,u2,u3⟩:=m1.cs4;obtain⟨s0,s1,s2,s3,s4,s5,s6,s7,s8⟩:=q1.cs9;clear m0 b0 b1 bq HL'
 go_wp2
 go_ret2
 exact⟨rfl,b01⟩
theorem Xj (n:Int)(R D L G fam:Int)(gr:Bool)(sz ex:Nat)(F:Nat)(c p:Int)(ng:Bool)(ao:Option Addr)(dn dc:Nat)(w:World)
  (HL:yJ 70 #[yi n] (.tuple #[ylV R D L G gr sz ex fam F,yi 0])) (hc:5<c):
  yC 37 #[yi n,yvV c ng (.slice ao dn dc) p] w (yR w (.tuple #[.string ⟨#[]⟩,yi 6])):=by
 have hc1: ¬c<1:=by omega
 have hsf:=cD;have hsn:=gn;have m0:=ah w (yvL c ng (.slice ao dn dc) p) 77;have b0:=af w (.cells (yvA c ng (.slice ao dn dc) p) 77);have HL':Hid _:=HL;clear HL
 go_enter func37,ntmps37
 go_wp2_with fail
 refine(HL'.out _).mono ?_;rintro z w1 ⟨rfl,b1⟩;have bq:=af w1 (.cells (ylA R D L G gr sz ex fam F) 131);have m1:=(m0.l b1).l bq;have q1:=ah w1 (ylL R D L G gr sz ex fam F) 131;have b01:=aa (aa b0 b1) bq;obtain⟨u0,u1,u2,u3⟩:=m1.cs4;obtain⟨s0,s1,s2,s3,s4,s5,s6,s7,s8⟩:=q1.cs9;clear m0 b0 b1 bq HL'
 go_wp2
 go_ret2
 exact⟨rfl,b01⟩
theorem EF (n:Int)(R D L G fam:Int)(gr:Bool)(sz ex:Nat)(F:Nat)(c p:Int)(ng:Bool)(ao:Option Addr)(dn dc:Nat)(w:World)
  (HL:yJ 70 #[yi n] (.tuple #[ylV R D L G gr sz ex fam F,yi 0]))
  (nc:Int) (HN:yH w 71 #[.slice ao dn dc] (yi nc)) (h1:1≤c) (h5:c≤5) (hn:nc≠0):
  yC 37 #[yi n,yvV c ng (.slice ao dn dc) p] w (yR w (.tuple #[.string ⟨#[]⟩,yi nc])):=by
 have HN':Hid _:=HN;clear HN;have hc1: ¬c<1:=by omega
 have hc5: ¬5<c:=by omega
 have hnb:(nc==0)=false:=by simpa using hn
 clear hn;have hsf:=cD;have hsn:=gn;have m0:=ah w (yvL c ng (.slice ao dn dc) p) 77;have b0:=af w (.cells (yvA c ng (.slice ao dn dc) p) 77);have HL':Hid _:=HL;clear HL
 go_enter func37,ntmps37
 go_wp2_with fail
 refine(HL'.out _).mono ?_;rintro z w1 ⟨rfl,b1⟩;have bq:=af w1 (.cells (ylA R D L G gr sz ex fam F) 131);have m1:=(m0.l b1).l bq;have q1:=ah w1 (ylL R D L G gr sz ex fam F) 131;have b01:=aa (aa b0 b1) bq;obtain⟨u0,u1,u2,u3⟩:=m1.cs4;obtain⟨s0,s1,s2,s3,s4,s5,s6,s7,s8⟩:=q1.cs9;clear m0 b0 b1 bq HL'
 go_wp2_with fail
 refine(HN'.out _ b01).mono ?_;rintro z w2 ⟨rfl,b2⟩;have m2:=m1.l b2;have q2:=q1.l b2;have b02:=aa b01 b2;obtain⟨v0,v1,v2,v3⟩:=m2.cs4;obtain⟨t0,t1,t2,t3,t4,t5,t6,t7,t8⟩:=q2.cs9
 go_wp2
 go_ret2
 exact⟨rfl,b02⟩
theorem Ip (n:Int)(R D L G fam:Int)(gr:Bool)(sz ex:Nat)(F:Nat)(c p:Int)(ng:Bool)(ao:Option Addr)(dn dc:Nat)(w:World)
  (HL:yJ 70 #[yi n] (.tuple #[ylV R D L G gr sz ex fam F,yi 0]))
  (nc:Int) (HN:yH w 71 #[.slice ao dn dc] (yi nc))
  (st:ByteArray) (er:Int) (HO:yJ 73 #[ylV R D L G gr sz ex fam F,yvV c ng (.slice ao dn dc) p] (.tuple #[.string st,yi er])) (h1:1≤c) (h5:c≤5) (h2:c≠2) (hn:nc=0):
  yC 37 #[yi n,yvV c ng (.slice ao dn dc) p] w (yR w (.tuple #[.string st,yi er])):=by
 subst hn;have HN':Hid _:=HN;clear HN;have hc1: ¬c<1:=by omega
 have hc5: ¬5<c:=by omega
 have HO':Hid _:=HO;clear HO;have hcb:(c==2)=false:=by simpa using h2
 clear h2;have hsf:=cD;have hsn:=gn;have m0:=ah w (yvL c ng (.slice ao dn dc) p) 77;have b0:=af w (.cells (yvA c ng (.slice ao dn dc) p) 77);have HL':Hid _:=HL;clear HL
 go_enter func37,ntmps37
 go_wp2_with fail
 refine(HL'.out _).mono ?_;rintro z w1 ⟨rfl,b1⟩;have bq:=af w1 (.cells (ylA R D L G gr sz ex fam F) 131);have m1:=(m0.l b1).l bq;have q1:=ah w1 (ylL R D L G gr sz ex fam F) 131;have b01:=aa (aa b0 b1) bq;obtain⟨u0,u1,u2,u3⟩:=m1.cs4;obtain⟨s0,s1,s2,s3,s4,s5,s6,s7,s8⟩:=q1.cs9;clear m0 b0 b1 bq HL'
 go_wp2_with fail
 refine(HN'.out _ b01).mono ?_;rintro z w2 ⟨rfl,b2⟩;have m2:=m1.l b2;have q2:=q1.l b2;have b02:=aa b01 b2;obtain⟨v0,v1,v2,v3⟩:=m2.cs4;obtain⟨t0,t1,t2,t3,t4,t5,t6,t7,t8⟩:=q2.cs9
 go_wp2_with fail
 refine(HO'.out _).mono ?_;rintro z w3 ⟨rfl,b3⟩
 go_wp2
 go_ret2
 exact⟨rfl,aa b02 b3⟩
end Go.Proofs.YtpainhklfoaniaaGreatDoor
