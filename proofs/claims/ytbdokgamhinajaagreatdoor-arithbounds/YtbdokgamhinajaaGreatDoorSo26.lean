/-
  Texts laid together: Nx2, Ar2, Ar4, Ar5, Ar3, Ar6.
-/
import Derived.Maps.AppendAt
import Derived.Test.YtbdokgamhinajaaGreatDoorSo25
set_option maxRecDepth 100000
set_option maxHeartbeats 12800000
namespace Go.Proofs.YtbdokgamhinajaaGreatDoor
open _root_.Go.Proofs.Tryz
open Go.RowKit
theorem uR (s:Bool)(e:Int):bU ⟨s,0,e⟩=(⟨false,0,0⟩,0):=by
 have hb:bare ⟨s,0,e⟩=⟨false,0,0⟩:=by simp[bare]
 unfold bU;rw[hb];simp only;rw[show Dg.dg 4294967296 0=[] from(Dg.dg_nil_iff _ _ (by omega)).2 rfl]
 rfl
def nxT (k:Nat)(s:ByteArray):ak:=ji k (aZ k s) (aR k s) (aU k s)
theorem wQ {k:Nat}(hk:1≤k∧k≤8):wdI (rdN k)=(ai (rdN k):Int):=by
 rcases bO hk with rfl|rfl|rfl|rfl|rfl|rfl|rfl|rfl<;>decide
theorem zd {k:Nat}(hk:1≤k∧k≤8){ng:Bool}{E F:Nat}(hc:dh k ng E F=1):ji k ng E F=⟨false,0,0⟩:=by
 have key: ∀(s:Bool) (e:Int),bare ⟨s,0,e⟩=⟨false,0,0⟩:=fun s e=>by simp[bare]
 have h2:2≤2^exN k:=by
  rcases bO hk with rfl|rfl|rfl|rfl|rfl|rfl|rfl|rfl<;>decide
 unfold dh at hc;unfold ji
 by_cases h3:k≤3
 ·rw[if_pos h3] at hc
  by_cases he:E=0
  ·rw[if_pos he] at hc
   by_cases hf:F=0
   ·subst he hf
    by_cases h4:k=3
    ·rw[if_pos h4,if_neg (by rintro(h|h)<;>omega)]
     exact key _ _
    ·rw[if_neg h4,if_pos (by omega),if_neg (by omega),if_neg (by omega)]
     exact key _ _
   ·rw[if_neg hf] at hc
    omega
  ·rw[if_neg he] at hc
   exfalso
   repeat' split at hc
   all_goals omega
 ·rw[if_neg h3] at hc
  rw[if_neg (show¬k=3 by omega),if_neg (show¬k≤2 by omega)]
  by_cases h5:k≤5
  ·rw[if_pos h5] at hc⊢
   by_cases hf:F=0
   ·subst hf
    exact key _ _
   ·rw[if_neg hf] at hc
    omega
  ·rw[if_neg h5] at hc⊢
   by_cases he:E=0
   ·rw[if_pos he]
   ·rw[if_neg he] at hc
    omega
theorem TS {k:Nat}(hk:1≤k∧k≤8){E:Nat}(hE:E<2^exN k): -16445≤(ai (rdN k):Int)*ii k E∧(ai (rdN k):Int)*ii k E≤16400∧ -16445≤ii k E∧ii k E≤16400:=by
 have hf:(rdN k=16∧ai (rdN k)=4∧ -78≤lsI k∧lsI k≤0∧2^exN k=128)∨(rdN k≠16∧ai (rdN k)=1∧ -16445≤lsI k∧lsI k+((2^exN k:Nat):Int)≤16400):=by
  rcases bO hk with rfl|rfl|rfl|rfl|rfl|rfl|rfl|rfl<;>decide
 unfold ii
 rcases hf with⟨h1,h2,h3,h4,h5⟩| ⟨h1,h2,h3,h4⟩
 ·rw[if_pos h1,h2]
  omega
 ·rw[if_neg h1,h2]
  split<;>omega
theorem J8 {k:Nat}(hk:1≤k∧k≤8)(ng:Bool)(E:Nat){F:Nat}(hF:F<2^64):ge k ng E F<2^64:=by
 unfold ge
 split
 ·exact Nat.lt_of_le_of_lt (GI _ _ _ _) (vS hk E hF)
 ·decide
theorem J9 {k:Nat}(hk:1≤k∧k≤8){ng:Bool}{E F:Nat}(hE:E<2^exN k)(hF:F<2^frN k)(hc:dh k ng E F=2):
  -16445≤(ji k ng E F).e∧(ji k ng E F).e≤16464∧ -16460≤gw k ng E F∧gw k ng E F≤16464:=by
 have h64:=mZ hk hF;obtain⟨p1,p2,-,-⟩:=TS hk hE;have hT:=iq hk hE hF hc;rw[wQ hk] at hT;have hp:=jX hc;have hl:=vS hk E h64;have hb:=AE (t:=⟨ng,iI k E F,(ai (rdN k):Int)*ii k E⟩) (Nat.ne_of_gt hp);have hbl:bitLen (iI k E F)≤64:=bF _ _ hl;rw[←hT] at hb;simp only at hb;obtain⟨-,b1,b2⟩:=hb;refine⟨by omega,by omega, ?_⟩;have hr:rdN k=2∨rdN k=16:=by
  rcases bO hk with rfl|rfl|rfl|rfl|rfl|rfl|rfl|rfl<;>decide
 rcases hr with hr|hr
 ·have:=(Va hk hE hF h64 hc hr).2
  omega
 ·have:=I5 hk hE hF h64 hc hr
  omega
theorem EX {k:Nat}(hk:1≤k∧k≤8)(s:ByteArray)(hc:dh k (aZ k s) (aR k s) (aU k s)=1∨dh k (aZ k s) (aR k s) (aU k s)=2):
  cC (ix (Dg.dg 4294967296 (ge k (aZ k s) (aR k s) (aU k s))) (gw k (aZ k s) (aR k s) (aU k s)) (rdN k) (dgN k) (lsI k) (gsI k)) ⟨kt k (aZ k s) (aR k s) (aU k s),Dg.vl 4294967296 (Dg.dg 4294967296 (ge k (aZ k s) (aR k s) (aU k s))),(ai (rdN k):Int)*gw k (aZ k s) (aR k s) (aU k s)⟩=(nxT k s,0):=by
 obtain⟨s1,s2⟩:=Cu k s;have h64:=mZ hk s2;have hgr:=(eR hk).2.2.2.2.2.2.2.2.2.2.2;unfold nxT;generalize aZ k s=ng at*;generalize aR k s=E at*;generalize aU k s=F at*;rw[Dg.vl_dg _ _ (by omega)];have hm:(Dg.dg 4294967296 (ge k ng E F)).length≤2:=Dg.dg_len_le 4294967296 _ 2 (by omega) (Nat.lt_of_lt_of_le (J8 hk ng E h64) (by decide));have hck:chk (Dg.dg 4294967296 (ge k ng E F))=0:=(bL (nt (n:=ge k ng E F) (e:=0) (by omega) (by omega) (by omega))).1
 rcases hc with hc|hc
 ·have hM:ge k ng E F=0:=if_neg (by omega)
  have hP:gw k ng E F=0:=if_neg (by omega);rw[hP,kA hck hgr (by decide),hM,zd hk hc];exact uR _ _
 ·obtain⟨v1,v2,v3,v4⟩:=J9 hk s1 s2 hc
  rw[kA hck hgr (by unfold eJ;simp;omega)];have hb:=rT hk s1 s2 h64 hc (Nat.ne_of_gt (jX hc));have hT:=iq hk s1 s2 hc;rw[wQ hk] at hT;have hG:kt k ng E F=ng:=by
   unfold kt;rw[if_pos (by omega)]
  rw[hG]
  show bU _=_
  rw[hT,←hb];rw[hT,←hb] at v1 v2;exact wK (Nat.le_trans (aH _ _ _ (by omega) (kR _)) (by simp only;omega)) (by omega) (by omega)
def opT (n:Int)(p:ByteArray):ak:=if dF n p=0 then nxT n.toNat p else⟨false,0,0⟩
def opC (n : Int) (p : ByteArray) (v : Value) : List Value := [.int .i64 ((bM n p : Nat) : Int), .bool (dz n p), .bool (opT n p).s, v, .int .i64 (opT n p).e]
def F7 (w:World)(n:Int)(g:Option Nat)(p:ByteArray)(v:Value):Prop:=
 (∃so sc,v= .slice so (Dg.dg 4294967296 (opT n p).n).length sc)∧Rd w .u32 v (Dg.dg 4294967296 (opT n p).n)∧ ∀b,g=some b→wF b v (Dg.dg 4294967296 (opT n p).n)
def sV (w:World)(n:Int)(g:Option Nat):List ByteArray→List Value→Prop
 | [],cs=>cs=[]
 |p::ps,cs=> ∃v rest,cs=opC n p v++rest∧F7 w n g p v∧sV w n g ps rest
theorem sV.mono {w w':World}{n:Int}{g g':Option Nat}(h: ∀p v,F7 w n g p v→F7 w' n g' p v): ∀{ps:List ByteArray} {cs:List Value},sV w n g ps cs→sV w' n g' ps cs
 | [],_,hc=>hc
 |p::_,_,hc=>by
  obtain⟨v,rest,h1,h2,h3⟩:=hc;exact⟨v,rest,h1,h p v h2,sV.mono h h3⟩
theorem sV.snoc {w:World}{n:Int}{g:Option Nat}{p:ByteArray}{v:Value}(hv:F7 w n g p v): ∀{ps:List ByteArray} {cs:List Value},sV w n g ps cs→sV w n g (ps++[p]) (cs++opC n p v)
 | [],cs,hc=>by
  have:cs=[]:=hc;subst this;exact⟨v,[],by simp,hv,rfl⟩
 |q::_,_,hc=>by
  obtain⟨u,rest,h1,h2,h3⟩:=hc;subst h1;exact⟨u,rest++opC n p v,by simp,h2,sV.snoc hv h3⟩
def fT (n:Int):List ByteArray→Int
 | []=>0
 |p::ps=>if dF n p=0 then fT n ps else dF n p
def QH (w:World)(n:Int)(ps:List ByteArray)(z:Ending)(w':World):Prop:=
 (fT n ps=0∧ ∃v cs,z= .returned (.tuple #[v,yi 0])∧w'.ownsRow w.heap.size 76 5 v ps.length cs∧sV w' n v.ownBlock ps cs∧yB w w')∨
 (fT n ps≠0∧z= .returned (.tuple #[yN,yi (fT n ps)])∧yB w w')
def Vc (w:World)(n:Int)(ps:List ByteArray)(i:Nat)(lv:Value)(wr:World):Prop:=
 ∃cs,wr.ownsRow (w.heap.size+1) 76 5 lv i cs∧sV wr n lv.ownBlock (ps.take i) cs∧fT n ps=fT n (ps.drop i)
theorem zZ {w w':World}{base e size k:Nat}{v:Value}{xs:List Value}(h:w.ownsRow base e size v k xs)(hb:yB w w'):w'.ownsRow base e size v k xs:=by
 obtain⟨hl,h2⟩:=h;refine⟨hl, ?_⟩
 rcases h2 with h2| ⟨g,cap,cur,hv,hbg,hh,r⟩
 ·exact .inl h2
 ·refine .inr ⟨g,cap,cur,hv,hbg, ?_,r⟩
  rw[hb.block g ?_]
  ·exact hh
  ·rw[Array.getElem?_eq_some_iff] at hh
   exact hh.1
theorem F7.l {w w':World}{n:Int}{g:Option Nat}{p:ByteArray}{v:Value}(h:F7 w n g p v)(hb:yB w w'):F7 w' n g p v:=⟨h.1,h.2.1.l hb,h.2.2⟩
theorem Vc.l {w wr w':World}{n:Int}{ps:List ByteArray}{i:Nat}{lv:Value}(h:Vc w n ps i lv wr)(hb:yB wr w'):Vc w n ps i lv w':=by
 obtain⟨cs,h1,h2,h3⟩:=h;exact⟨cs,zZ h1 hb,h2.mono (fun p v k=>k.l hb),h3⟩
theorem Nx {w w':World}{g:Nat}{k:IntKind}{v:Value}{zs:List Nat}(r:Rd w k v zs)(hg:w.grownBy w' (some g))(ho:wF g v zs):Rd w' k v zs:=by
 obtain⟨ao,cap,rfl,h1,h2,h3⟩:=r;refine⟨ao,cap,rfl,h1,h2,fun hp=> ?_⟩
 obtain⟨b,off,rfl,h4⟩:=h3 hp;refine⟨b,off,rfl,fun i hi=> ?_⟩
 have h5:=h4 i hi;have hlt:b<w.heap.size:=World.block_lt_of_cell? w _ h5;have hne:b≠g:=ho hp _ _ _ rfl;rw[←h5];unfold World.cell?;simp only;rw[hg.block b hlt (fun e=>hne (Option.some.inj e))]
theorem au.grownO {w w':World}{b:Nat}{ty:TypeId}{vs:List Value}{row:Option Nat}(h:au w b ty vs)(hg:w.grownBy w' row)(hne: ∀g,row=some g→b≠g):au w' b ty vs:=
 (hg.block b h.lt (fun e=>hne b e.symm rfl)).trans h
theorem Hv {w:World}{base base' e size k:Nat}{v:Value}{xs:List Value}(h:w.ownsRow base e size v k xs)(hb:base'≤base):w.ownsRow base' e size v k xs:=by
 obtain⟨hl,h2⟩:=h;refine⟨hl, ?_⟩
 rcases h2 with h2| ⟨g,cap,cur,hv,hbg,r⟩
 ·exact .inl h2
 ·exact .inr ⟨g,cap,cur,hv,Nat.le_trans hb hbg,r⟩
theorem Y4 {w w1 w2:World}{n:Int}{ps:List ByteArray}{i:Nat}{lv v' x:Value}{p:ByteArray}{cs:List Value}(hp:ps[i]? =some p)(he:dF n p=0)(h2:sV w1 n lv.ownBlock (ps.take i) cs)(h3:fT n ps=fT n (ps.drop i))(hx:F7 w1 n lv.ownBlock p x)
  (hown:w2.ownsRow (w.heap.size+1) 76 5 v' (i+1) (cs++opC n p x)) (hg:w1.grownBy w2 lv.ownBlock) (hat:v'.ownBlock=lv.ownBlock∨v'.ownBlock=some w1.heap.size):
  Vc w n ps (i+1) v' w2:=by
 have hil:i<ps.length:=by
  rw[List.getElem?_eq_some_iff] at hp;exact hp.1
 have hm: ∀q v,F7 w1 n lv.ownBlock q v→F7 w2 n v'.ownBlock q v:=fun q v k=>by
  obtain⟨k1,k2,k3⟩:=k;refine⟨k1, ?_, ?_⟩
  ·obtain⟨so,sc,rfl⟩:=k1
   cases hb:lv.ownBlock with
   |none=>exact k2.l ⟨hg.os,hg.tape,hg.output,hg.size,fun j hj=>hg.block j hj (by rw[hb];exact fun e=>nomatch e)⟩
   |some b=>exact Nx k2 (hb▸hg) (k3 b hb)
  ·intro b hb
   rcases hat with e|e
   ·exact k3 b (by rw[←e];exact hb)
   ·have hbw:b=w1.heap.size:=by rw[e] at hb;exact(Option.some.inj hb).symm
    exact t9 k2 (by omega)
 refine⟨_,hown, ?_, ?_⟩
 ·rw[List.take_add_one,hp]
  exact(h2.mono hm).snoc (hm p x hx)
 ·rw[h3]
  have hd:ps.drop i=p::ps.drop (i+1):=by
   rw[List.drop_eq_getElem_cons hil]
   congr 1
   rw[List.getElem?_eq_getElem hil] at hp;exact Option.some.inj hp
  rw[hd];exact if_pos he
theorem Sh {w:World}{n:Int}{g:Option Nat}: ∀{ps:List ByteArray} {cs:List Value} {i:Nat} {p:ByteArray},sV w n g ps cs→ps[i]? =some p→ ∃v,F7 w n g p v∧ ∀j u,(opC n p v)[j]? =some u→cs[5*i+j]? =some u
 | [],_,_,_,_,hp=>by simp at hp
 |q::ps,cs,0,p,hc,hp=>by
  obtain⟨v,rest,h1,h2,h3⟩:=hc;have:q=p:=by simpa using hp
  subst this;refine⟨v,h2,fun j u hj=> ?_⟩
  subst h1;rw[List.getElem?_append_left]
  ·simpa using hj
  ·have:=(List.getElem?_eq_some_iff.1 hj).1
   omega
 |q::ps,cs,i+1,p,hc,hp=>by
  obtain⟨v,rest,h1,h2,h3⟩:=hc;obtain⟨u,h4,h5⟩:=Sh h3 (by simpa using hp);refine⟨u,h4,fun j x hj=> ?_⟩
  subst h1;rw[List.getElem?_append_right (by simp[opC];omega)];have:=h5 j x hj;rw[show 5*(i+1)+j-(opC n q v).length=5*i+j from by simp[opC];omega]
  exact this
structure sF (w:World) (n:Int) (ps:List ByteArray) (g cap:Nat):Prop where
 fit:ps.length≤cap
 most:cap≤maxLen
 each: ∀(i:Nat) p,ps[i]? =some p→ ∃so sc,w.rangeAt g (i*5) (opC n p (.slice so (Dg.dg 4294967296 (opT n p).n).length sc))∧Rd w .u32 (.slice so (Dg.dg 4294967296 (opT n p).n).length sc) (Dg.dg 4294967296 (opT n p).n)
theorem aC {w w':World}{g o:Nat}{cs:List Value}(h:w.rangeAt g o cs)(hb:yB w w'):w'.rangeAt g o cs:=fun j v hv=>by
 have:=h j v hv;rw[←this];exact World.cell?_of_block (hb.block g (World.block_lt_of_cell? w _ this))
theorem sF.l {w w':World}{n:Int}{ps:List ByteArray}{g cap:Nat}(h:sF w n ps g cap)(hb:yB w w'):sF w' n ps g cap:=
 ⟨h.fit,h.most,fun i p hp=>by
  obtain⟨so,sc,h1,h2⟩:=h.each i p hp;exact⟨so,sc,aC h1 hb,h2.l hb⟩⟩
theorem JF {w:World}{n:Int}{ps:List ByteArray}{base:Nat}{v:Value}{cs:List Value}(h0:ps≠[])(ho:w.ownsRow base 76 5 v ps.length cs)(hat:sV w n v.ownBlock ps cs):
  ∃g cap,v= .slice (some ⟨g,0,none⟩) ps.length cap∧sF w n ps g cap:=by
 rcases ho.2 with⟨-,h⟩| ⟨g,cap,cur,hv,-,-,h1,h2,-,-⟩
 ·exact absurd (List.eq_nil_of_length_eq_zero h) h0
 ·refine⟨g,cap,hv,h1,h2,fun i p hp=> ?_⟩
  obtain⟨u,⟨⟨so,sc,rfl⟩,k2,k3⟩,k4⟩:=Sh hat hp;refine⟨so,sc,fun j x hj=> ?_,k2⟩
  have:=ho.cells (g:=g) (by rw[hv];rfl) (5*i+j) x (k4 j x hj);rw[Addr.add_mid,Nat.zero_add] at this;rw[Nat.mul_comm i 5];exact this
def dO (n:Int)(p:ByteArray):Bool:=decide (bM n p=4∨bM n p=5)
theorem wJ (n:Int)(ps:List ByteArray)(g cap:Nat)(w:World)(h:sF w n ps g cap)(hm:ps.length≤3):
  yC 56 #[.slice (some ⟨g,0,none⟩) ps.length cap] w (yR w (.bool (ps.any (dO n)))):=by
 obtain⟨m,hmE⟩: ∃m,ps.length=m:=⟨_,rfl⟩;have hfit:=h.fit;have hmost:=h.most;rw[hmE] at hm hfit⊢;have HM:Hid (ps.length=m):=hmE;have HF:Hid (m≤cap∧cap≤maxLen):=⟨hfit,hmost⟩;clear hmE hfit hmost
 go_enter func56,ntmps56
 go_wp2
 go_loopw [7] (fun iv wr=> ∃i:Nat,iv=yi (i:Int)∧i≤m∧Hid (ps.any (dO n)=(ps.drop i).any (dO n))∧sF wr n ps g cap∧yB w wr) (fun iv _=>m-(intOf iv).toNat)
 case atStart=>exact⟨0,rfl,by omega,rfl,h,Below.refl _ _⟩
 case round=>
  obtain⟨i,rfl,him,HN,hO,bel⟩:=hrel
  by_cases hlt:i<m
  ·have hil:i<ps.length:=by have:=HM.out;omega
   obtain⟨p,hp⟩: ∃p,ps[i]? =some p:=⟨_,List.getElem?_eq_getElem hil⟩;have hd:ps.drop i=p::ps.drop (i+1):=by
    rw[List.drop_eq_getElem_cons hil]
    congr 1
    rw[List.getElem?_eq_getElem hil] at hp;exact Option.some.inj hp
   have HN2:Hid (ps.any (dO n)=(dO n p||(ps.drop (i+1)).any (dO n))):=by
    have:=HN.out;rw[hd,List.any_cons] at this;exact this
   obtain⟨so,sc,hr,-⟩:=hO.each i p hp;unfold opC at hr;obtain⟨c,ec⟩: ∃c:Nat,bM n p=c:=⟨_,rfl⟩;obtain⟨b1,e1⟩: ∃c,dz n p=c:=⟨_,rfl⟩;obtain⟨t,et⟩: ∃c,opT n p=c:=⟨_,rfl⟩;have HC:Hid (dO n p=decide (c=4∨c=5)):=by unfold dO;rw[ec];rfl
   rw[ec,e1,et] at hr;have y0:wr.cell? ⟨g,i*5,none⟩=some (yi (c:Int)):=hr 0 _ rfl;have y1:wr.cell? ⟨g,i*5+1,none⟩=some (.bool b1):=hr 1 _ rfl;have y2:wr.cell? ⟨g,i*5+2,none⟩=some (.bool t.s):=hr 2 _ rfl;have y3:wr.cell? ⟨g,i*5+3,none⟩=some (yT so t.n sc):=hr 3 _ rfl;have y4:wr.cell? ⟨g,i*5+4,none⟩=some (yi t.e):=hr 4 _ rfl;have al:=af wr (.cells (yOA (c:Int) b1 t so sc) 76);have ln:=ah wr (yOL (c:Int) b1 t so sc) 76;have hO1:=hO.l al;have bel1:=aa bel al;clear hp hil hd HN hr ec e1 et hO bel al
   go_upto_region 4 with fail
   generalize wr.alloc (.cells (yOA (c:Int) b1 t so sc) 76)=W at ln hO1 bel1⊢;obtain⟨z0,z1,z2,z3,z4⟩:=ln.cs5;clear ln y0 y1 y2 y3 y4
   by_cases h4:c=4
   ·subst h4
    go_wp2
    go_ret
    refine⟨?_,bel1⟩;rw[HN2.out,HC.out];rfl
   ·by_cases h5:c=5
    ·subst h5
     go_wp2
     go_ret
     refine⟨?_,bel1⟩;rw[HN2.out,HC.out];rfl
    ·have c4:((c:Int)==4)=false:=beq_eq_false_iff_ne.2 (by omega)
     have c5:((c:Int)==5)=false:=beq_eq_false_iff_ne.2 (by omega);have HN3:Hid (ps.any (dO n)=(ps.drop (i+1)).any (dO n)):=by
      have h1:=HN2.out;rw[HC.out,decide_eq_false (by omega),Bool.false_or] at h1;exact h1
     clear h4 h5 HN2 HC
     go_wp2
     go_roundw
     case rel=>exact⟨i+1,by go_num,by omega,HN3,hO1,bel1⟩
     case measure=>simp[intOf];omega
  ·have HE:Hid (i=m):=(by omega:i=m)
   go_wp2
   go_ret
   refine⟨?_,bel⟩;rw[HN.out,List.drop_of_length_le (by have h1:=HE.out;have h2:=HM.out;omega)];rfl
theorem vQ (n wy fam R D L G:Int)(gr:Bool)(ps:List ByteArray)(pb:Nat)(w:World)(hps:au w pb 9 (ps.map Value.string))(hm:ps.length≤3)
  (HR: ∀p w1,yB w w1→yC 97 #[yi n,.string p] w1 (Ys w1 ((bM n p:Nat):Int) (dz n p) (gJ n p) (iF n p) (opT n p) (dF n p))):
  yC 55 #[ykV n wy fam R D L G gr,.slice (some ⟨pb,0,none⟩) ps.length ps.length] w (QH w n ps):=by
 replace HR:Hid _:=HR;obtain⟨i0,hi,hz0,hz1,hz2⟩:=info_parts (show(Tryz.prog.info? 76).map (fun i=>(i.zero,i.size,i.bytes))=some (some (yoV 0 false false yN 0),5,56) by kernel_rfl)
 have HI:Hid (_∧_∧_∧_):=⟨hi,hz0,hz1,hz2⟩;have hpb:=hps.lt;have bd0:=af w (.cells (ykA n wy fam R D L G gr) 69);have d0:=ah w (ykL n wy fam R D L G gr) 69;have s0:=hps.l bd0;obtain⟨m,hmE⟩: ∃m,ps.length=m:=⟨_,rfl⟩;rw[hmE] at hm⊢;have HM:Hid (ps.length=m):=hmE;clear hps hmE hi hz0 hz1 hz2
 go_enter func55,ntmps55
 go_wp2
 go_loopw [6,14] (fun lv iv wr=> ∃i:Nat,iv=yi (i:Int)∧i≤m∧Vc w n ps i lv wr∧yB w wr∧au wr w.heap.size 69 (ykL n wy fam R D L G gr)∧au wr pb 9 (ps.map Value.string)) (fun _ iv _=>m-(intOf iv).toNat)
 case atStart=>exact⟨0,rfl,by omega,⟨[],World.ownsRow_nil _ _ _ 5,rfl,rfl⟩,bd0,d0,s0⟩
 case round=>
  obtain⟨i,rfl,him,hO,bel,dl,sl⟩:=hrel
  by_cases hlt:i<m
  ·have hil:i<ps.length:=by have:=HM.out;omega
   obtain⟨p,hp⟩: ∃p,ps[i]? =some p:=⟨_,List.getElem?_eq_getElem hil⟩;have y:=sl.c i (v:= .string p) (by rw[List.getElem?_map,hp];rfl);have x0:=dl.c 0 rfl;have HRp:=HR.out p;obtain⟨c,ec⟩: ∃c:Int,((bM n p:Nat):Int)=c:=⟨_,rfl⟩;obtain⟨gg,eg⟩: ∃c,dz n p=c:=⟨_,rfl⟩;obtain⟨m1,em⟩: ∃c,gJ n p=c:=⟨_,rfl⟩;obtain⟨p1,ep⟩: ∃c,iF n p=c:=⟨_,rfl⟩;obtain⟨t,et⟩: ∃c,opT n p=c:=⟨_,rfl⟩;obtain⟨er,ee⟩: ∃c,dF n p=c:=⟨_,rfl⟩;rw[ec,eg,em,ep,et,ee] at HRp;have HP:Hid (ps[i]? =some p∧((bM n p:Nat):Int)=c∧dz n p=gg∧opT n p=t∧dF n p=er):=⟨hp,ec,eg,et,ee⟩;replace HRp:Hid _:=HRp;clear hp hil ec eg em ep et ee
   go_wp2_with fail
   refine(HRp.out _ bel).mono ?_;rintro z w1 ⟨v,x,rfl,rv,rx,fx,b1⟩;obtain⟨vo,vc,hv⟩:=rv.shape;subst hv;obtain⟨xo,xc,hx⟩:=rx.shape;subst hx;have a1:=af w1 (.cells (yvA c gg (yT vo m1 vc) p1) 100);have a2:=af (w1.alloc (.cells (yvA c gg (yT vo m1 vc) p1) 100)) (.cells (yDA t xo xc) 72);have bb:=aa (aa b1 a1) a2;have q9:=(ah w1 (yvL c gg (yT vo m1 vc) p1) 100).l a2;have q10:=ah (w1.alloc (.cells (yvA c gg (yT vo m1 vc) p1) 100)) (yDL t xo xc) 72;rw[World.size_alloc] at q10;have rx1:=(rx.l a1).l a2;have hO1:=hO.l bb;have dl1:=dl.l bb;have sl1:=sl.l bb;have bel1:=aa bel bb;have hbl: ∀b,u6.ownBlock=some b→b<wr.heap.size:=fun b hb=>by
    obtain⟨cs,h1,-⟩:=hO;exact(World.ownsRow.lt h1 b hb).2
   have hsz:wr.heap.size≤w1.heap.size:=b1.size;have hws:w.heap.size≤wr.heap.size:=bel.size;clear b1 a1 a2 bb rv rx hO dl sl bel y x0
   go_upto_region 6 with fail
   generalize(w1.alloc (.cells (yvA c gg (yT vo m1 vc) p1) 100)).alloc (.cells (yDA t xo xc) 72)=W at q9 q10 rx1 hO1 dl1 sl1 bel1⊢;generalize w1.heap.size=Q at q9 q10 hsz⊢
   by_cases he:er=0
   ·subst he
    go_wp2_with fail
    have qd:=q9.drew;have xd:=q10.drew;refine wp_region_held_drew (S:=fun wq=>wq.rangeAt Q 0 (yvL c gg (yT vo m1 vc) p1)∧wq.rangeAt (Q+1) 0 (yDL t xo xc)) (by kernel_rfl) ⟨qd.range,xd.range⟩ (fun hS0=> ?_)
    refine tq 0 (u6) rfl (fun w0 _=>by kernel_rfl) hS0 ?_
    refine tq 1 (.pointer (some ⟨Q,0,none⟩)) rfl (fun w0 _=>by kernel_rfl) hS0 ?_
    refine tq 2 (yi c) rfl (fun w0 hw0=>gU 3 (.tmp 30) rfl Q 0 (by kernel_rfl) _ _ underlying3 rfl (hw0.1 0 _ rfl)) hS0 ?_
    refine tq 3 (.pointer (some ⟨Q,1,none⟩)) rfl (fun w0 _=>by kernel_rfl) hS0 ?_
    refine tq 4 (.bool gg) rfl (fun w0 hw0=>gU 4 (.tmp 32) rfl Q 1 (by kernel_rfl) _ _ underlying4 rfl (hw0.1 1 _ rfl)) hS0 ?_
    refine tq 5 ((yDV t xo xc)) rfl (fun w0 hw0=>fy 72 (.tmp 10) rfl (Q+1) 0 (by kernel_rfl) _ _ hw0.2 underlying72 rfl (by kernel_rfl)) hS0 ?_
    refine wpAnyH_ready (rs:=[6]) (by kernel_rfl) (by simp) ?_;refine AllReadyH.cons rfl (fun K hK=> ?_) AllReadyH.nil
    go_simp
    refine(iK _ _ _ _ _ _).mono ?_;rintro z w2 ⟨rfl,b2⟩;have bW:yB W w2:=aa ((Below.refl _ _).drew) b2;have q92:=q9.l bW;have q102:=q10.l bW;have rx2:=rx1.l bW;have hO2:=hO1.l bW;have dl2:=dl1.l bW;have sl2:=sl1.l bW;have bel2:=aa bel1 bW;have hszW:=bW.size;refine hK.out _ _ ⟨q92.range,q102.range⟩ (fun hS6=> ?_)
    clear hK K qd xd b2 bW q9 q10 rx1 hO1 dl1 sl1 bel1;refine tq 7 ((yOV c gg t xo xc)) rfl (fun w0 _=>by kernel_rfl) hS6 ?_
    refine wpAnyH_ready (rs:=[8]) (by kernel_rfl) (by simp) ?_;refine AllReadyH.cons rfl (fun K hK=> ?_) AllReadyH.nil
    go_simp
    have al:=af w2 (.cells (yOA c gg t xo xc) 76);have nl:=ah w2 (yOL c gg t xo xc) 76;have q93:=q92.l al;have q103:=q102.l al;have rx3:=rx2.l al;have hO3:=hO2.l al;have dl3:=dl2.l al;have sl3:=sl2.l al;have bel3:=aa bel2 al;refine hK.out _ _ ⟨q93.range,q103.range⟩ (fun hS8=> ?_)
    clear hK K al q92 q102 rx2 hO2 dl2 sl2 bel2;generalize w2.alloc (.cells (yOA c gg t xo xc) 76)=W3 at nl q93 q103 rx3 hO3 dl3 sl3 bel3 hS8⊢;obtain⟨cs,k1,k2,k3⟩:=hO3;obtain⟨hi,hz0,hz1,hz2⟩:=HI.out;have hw3:w.heap.size+1≤W3.heap.size:=dl3.lt;obtain⟨v',w4,hrun,hown',hgrow,-,hat⟩:=run_append_own_at (P:=Tryz.prog) W3 (w.heap.size+1) 70 70 76 i0 _ 5 56 underlying70 hi hz0 hz1 hz2 rfl (by omega) u6 i cs k1 ⟨w2.heap.size,0,none⟩ 1 1 (yOL c gg t xo xc) rfl (fun j u hj=>by have:=nl.c j hj;rw[Addr.add_mid,Nat.zero_add];exact this) (fun u hu=>by simp at hu;rcases hu with rfl|rfl|rfl|rfl|rfl<;>rfl) (by unfold maxLen;omega) (by omega) hw3
    refine wpAnyH_ready (rs:=[9]) (by kernel_rfl) (by simp) ?_;refine AllReadyH.cons rfl (fun K hK=> ?_) AllReadyH.nil
    refine mg rfl (.tmp 29) (.tmp 37) 70 rfl _ _ v' w4 rfl rfl hrun ?_;have hlp:pb<w.heap.size:=hpb;have hgb: ∀g,u6.ownBlock=some g→w.heap.size<g∧g<wr.heap.size:=fun g hg=>⟨(World.ownsRow.lt k1 g hg).1,hbl g hg⟩
    have q94:=q93.grownO hgrow (fun g hg=>by have:=hgb g hg;omega)
    have q104:=q103.grownO hgrow (fun g hg=>by have:=hgb g hg;omega)
    have dl4:=dl3.grownO hgrow (fun g hg=>by have:=hgb g hg;omega)
    have sl4:=sl3.grownO hgrow (fun g hg=>by have:=hgb g hg;omega)
    have bel4:=bel3.grown hgrow (by omega) (fun g hg=>by have:=hgb g hg;omega)
    have hOps:Vc w n ps (i+1) v' w4:=by
     obtain⟨h1,h2,h3,h4,h5⟩:=HP.out;refine Y4 (x:=yT xo t.n xc) h1 h5 k2 k3 ⟨⟨xo,xc,by rw[h4]⟩,by rw[h4];exact rx3,fun b hb=> ?_⟩ ?_ hgrow hat
     ·intro _ a u v hv
      have:=fx a u v hv;have:=hgb b hb;omega
     ·unfold opC
      rw[h2,h3,h4];exact hown'
    refine hK.out _ _ ⟨q94.range,q104.range⟩ (fun hS9=> ?_)
    clear hK K q94 q104 q93 q103 dl3 sl3 bel3 hgrow hown' hat hrun rx3 nl fx k1 k2 k3 HP HRp HI;refine tq 10 (v') rfl (fun w0 _=>by go_simp) hS9 ?_
    simp only[Act.put,List.getElem_toArray,List.getElem_cons_succ,List.getElem_cons_zero,List.setIfInBounds_toArray,List.set_cons_zero,List.set_cons_succ];refine wpAnyH_done (by kernel_rfl) ?_ _
    go_wp2
    go_roundw
    case rel=>exact⟨i+1,by go_num,by omega,hOps,bel4,dl4,sl4⟩
    case measure=>simp[intOf];omega
   ·have hef:(er==0)=false:=by simpa using he
    go_wp2
    go_ret2
    obtain⟨h1,-,-,-,h5⟩:=HP.out;obtain⟨cs,-,-,k3⟩:=hO1;have hil:i<ps.length:=by have:=HM.out;omega
    have hd:ps.drop i=p::ps.drop (i+1):=by
     rw[List.drop_eq_getElem_cons hil]
     congr 1
     rw[List.getElem?_eq_getElem hil] at h1;exact Option.some.inj h1
    have hE:fT n ps=er:=by
     rw[k3,hd,←h5];exact if_neg (by rw[h5];exact he)
    refine .inr ⟨by rw[hE];exact he, ?_,bel1⟩;rw[hE];rfl
  ·have HE:Hid (i=m):=(by omega:i=m)
   go_wp2
   go_ret2
   obtain⟨cs,k1,k2,k3⟩:=hO;have h1:=HE.out;have h2:=HM.out;subst h1;rw[List.take_of_length_le (by omega)] at k2;rw[List.drop_of_length_le (by omega)] at k3;refine .inl ⟨k3,u6,cs,rfl, ?_,k2,bel⟩;rw[h2];exact Hv k1 (by omega)
theorem iz (c:Int)(g s:Bool)(ao:Option Addr)(la ca:Nat)(e:Int)(w:World):yC 60 #[yoV c g s (.slice ao la ca) e] w (yR w (.bool (c==3))):=by
 have b0:=af w (.cells (yoA c g s (.slice ao la ca) e) 76)
 go_enter func60,ntmps60
 go_wp2
 go_ret
 exact⟨rfl,b0⟩
def byI (c:Int)(g:Bool):Int:=if c=3 then(if g=true then-1 else 1) else 0
theorem sI (c:Int)(g s:Bool)(ao:Option Addr)(la ca:Nat)(e:Int)(w:World):yC 100 #[yoV c g s (.slice ao la ca) e] w (yR w (yi (byI c g))):=by
 have HI:Hid (yJ 60 #[yoV c g s (.slice ao la ca) e] (.bool (c==3))):=fun w1=>iz c g s ao la ca e w1
 have b0:=af w (.cells (yoA c g s (.slice ao la ca) e) 76);have l0:=ah w (yoL c g s (.slice ao la ca) e) 76;unfold byI
 by_cases hc:c=3
 ·rw[if_pos hc]
  subst hc
  cases g
  all_goals
   go_enter func100,ntmps100
   go_wp2_with fail
   refine(HI.out _).mono ?_;rintro z w1 ⟨rfl,b1⟩;have l1:=l0.l b1;obtain⟨y0,y1,y2,y3,y4⟩:=l1.cs5;have b2:=aa b0 b1
   go_wp2
   go_ret
   exact⟨rfl,b2⟩
 ·have hcf:(c==3)=false:=by simpa using hc
  rw[if_neg hc];rw[hcf] at HI;clear hc hcf
  go_enter func100,ntmps100
  go_wp2_with fail
  refine(HI.out _).mono ?_;rintro z w1 ⟨rfl,b1⟩;have b2:=aa b0 b1
  go_wp2
  go_ret
  exact⟨rfl,b2⟩
theorem D9 (cx cy r:Int)(gx sx gy sy:Bool)(xo yo:Option Addr)(lx kx ly ky:Nat)(ex ey:Int)(w:World)(hx:(cx==3)=false)(hy:(cy==3)=false)
  (HC:yH w 101 #[ydV sx (.slice xo lx kx) ex,ydV sy (.slice yo ly ky) ey] (yi r)):
  yC 57 #[yoV cx gx sx (.slice xo lx kx) ex,yoV cy gy sy (.slice yo ly ky) ey] w (yR w (yi r)):=by
 replace HC:Hid _:=HC;have HX:Hid (yJ 60 #[yoV cx gx sx (.slice xo lx kx) ex] (.bool (cx==3))):=fun w1=>iz cx gx sx xo lx kx ex w1
 have HY:Hid (yJ 60 #[yoV cy gy sy (.slice yo ly ky) ey] (.bool (cy==3))):=fun w1=>iz cy gy sy yo ly ky ey w1
 rw[hx] at HX;rw[hy] at HY;have bx:=af w (.cells (yoA cx gx sx (.slice xo lx kx) ex) 76);have by0:=af (w.alloc (.cells (yoA cx gx sx (.slice xo lx kx) ex) 76)) (.cells (yoA cy gy sy (.slice yo ly ky) ey) 76);have l0:=(ah w (yoL cx gx sx (.slice xo lx kx) ex) 76).l by0;have m0:=ah (w.alloc (.cells (yoA cx gx sx (.slice xo lx kx) ex) 76)) (yoL cy gy sy (.slice yo ly ky) ey) 76;rw[World.size_alloc] at m0;have b0:=aa bx by0;clear bx by0 hx hy
 go_enter func57,ntmps57
 go_upto_region 1 with fail
 generalize(w.alloc (.cells (yoA cx gx sx (.slice xo lx kx) ex) 76)).alloc (.cells (yoA cy gy sy (.slice yo ly ky) ey) 76)=W0 at l0 m0 b0⊢;obtain⟨x0,x1,x2,x3,x4⟩:=l0.cs5;obtain⟨y0,y1,y2,y3,y4⟩:=m0.cs5
 go_wp2_with fail
 refine(HX.out _).mono ?_;rintro z w1 ⟨rfl,b1⟩;have l1:=l0.l b1;have m1:=m0.l b1;have b01:=aa b0 b1;clear x0 x1 x2 x3 x4 y0 y1 y2 y3 y4 l0 m0 b0 b1 HX;obtain⟨x0,x1,x2,x3,x4⟩:=l1.cs5;obtain⟨y0,y1,y2,y3,y4⟩:=m1.cs5
 go_wp2_with fail
 refine(HY.out _).mono ?_;rintro z w2 ⟨rfl,b2⟩;have l2:=l1.l b2;have m2:=m1.l b2;have b02:=aa b01 b2;clear x0 x1 x2 x3 x4 y0 y1 y2 y3 y4 l1 m1 b01 b2 HY;obtain⟨x0,x1,x2,x3,x4⟩:=l2.cs5;obtain⟨y0,y1,y2,y3,y4⟩:=m2.cs5
 go_wp2_with fail
 refine(HC.out _ b02).mono ?_;rintro z w3 ⟨rfl,b3⟩;have b03:=aa b02 b3
 go_wp2
 go_ret
 exact⟨rfl,b03⟩
theorem OR (cy:Int)(gx sx gy sy:Bool)(xo yo:Option Addr)(lx kx ly ky:Nat)(ex ey:Int)(w:World):
  yC 57 #[yoV 3 gx sx (.slice xo lx kx) ex,yoV cy gy sy (.slice yo ly ky) ey] w (yR w (yi (dm (byI 3 gx) (byI cy gy)))):=by
 have HX:Hid (yJ 60 #[yoV 3 gx sx (.slice xo lx kx) ex] (.bool (3==3))):=fun w1=>iz 3 gx sx xo lx kx ex w1
 have BX:Hid (yJ 100 #[yoV 3 gx sx (.slice xo lx kx) ex] (yi (byI 3 gx))):=fun w1=>sI 3 gx sx xo lx kx ex w1
 have BY:Hid (yJ 100 #[yoV cy gy sy (.slice yo ly ky) ey] (yi (byI cy gy))):=fun w1=>sI cy gy sy yo ly ky ey w1
 have HC:Hid _:=AM;have bx:=af w (.cells (yoA 3 gx sx (.slice xo lx kx) ex) 76);have by0:=af (w.alloc (.cells (yoA 3 gx sx (.slice xo lx kx) ex) 76)) (.cells (yoA cy gy sy (.slice yo ly ky) ey) 76);have l0:=(ah w (yoL 3 gx sx (.slice xo lx kx) ex) 76).l by0;have m0:=ah (w.alloc (.cells (yoA 3 gx sx (.slice xo lx kx) ex) 76)) (yoL cy gy sy (.slice yo ly ky) ey) 76;rw[World.size_alloc] at m0;have b0:=aa bx by0;clear bx by0;obtain⟨rx,hrx⟩: ∃r,byI 3 gx=r:=⟨_,rfl⟩;obtain⟨ry,hry⟩: ∃r,byI cy gy=r:=⟨_,rfl⟩;rw[hrx] at BX⊢;rw[hry] at BY⊢;clear hrx hry
 go_enter func57,ntmps57
 go_upto_region 1 with fail
 generalize(w.alloc (.cells (yoA 3 gx sx (.slice xo lx kx) ex) 76)).alloc (.cells (yoA cy gy sy (.slice yo ly ky) ey) 76)=W0 at l0 m0 b0⊢;obtain⟨x0,x1,x2,x3,x4⟩:=l0.cs5;obtain⟨y0,y1,y2,y3,y4⟩:=m0.cs5
 go_wp2_with fail
 refine(HX.out _).mono ?_;rintro z w1 ⟨rfl,b1⟩;have l1:=l0.l b1;have m1:=m0.l b1;have b01:=aa b0 b1;clear x0 x1 x2 x3 x4 y0 y1 y2 y3 y4 l0 m0 b0 b1 HX
 go_upto_region 2 with fail
 have ld:=l1.drew;have md:=m1.drew;refine wp_region_held_drew (S:=fun wq=>wq.rangeAt w.heap.size 0 (yoL 3 gx sx (.slice xo lx kx) ex)∧wq.rangeAt (w.heap.size+1) 0 (yoL cy gy sy (.slice yo ly ky) ey)) (by kernel_rfl) ⟨ld.range,md.range⟩ (fun hS0=> ?_)
 refine tq 0 ((yoV 3 gx sx (.slice xo lx kx) ex)) rfl (fun w0 hw0=>fy 76 (.tmp 2) rfl w.heap.size 0 (by kernel_rfl) _ _ hw0.1 underlying76 rfl (by kernel_rfl)) hS0 ?_
 refine tq 2 ((yoV cy gy sy (.slice yo ly ky) ey)) rfl (fun w0 hw0=>fy 76 (.tmp 3) rfl (w.heap.size+1) 0 (by kernel_rfl) _ _ hw0.2 underlying76 rfl (by kernel_rfl)) hS0 ?_
 refine wpAnyH_ready (rs:=[1]) (by kernel_rfl) (by simp) ?_;refine AllReadyH.cons rfl (fun K hK=> ?_) AllReadyH.nil
 go_simp
 refine(BX.out _).mono ?_;rintro z w5 ⟨rfl,b5⟩;have l5:=ld.l b5;have m5:=md.l b5;have b05:=aa (b01.drew) b5;refine hK.out _ _ ⟨l5.range,m5.range⟩ (fun hS1=> ?_)
 clear hK K ld md b5;refine wpAnyH_ready (rs:=[3]) (by kernel_rfl) (by simp) ?_;refine AllReadyH.cons rfl (fun K hK=> ?_) AllReadyH.nil
 go_simp
 refine(BY.out _).mono ?_;rintro z w6 ⟨rfl,b6⟩;have l6:=l5.l b6;have m6:=m5.l b6;have b06:=aa b05 b6;refine hK.out _ _ ⟨l6.range,m6.range⟩ (fun hS3=> ?_)
 clear hK K l5 m5 b6;refine wpAnyH_ready (rs:=[4]) (by kernel_rfl) (by simp) ?_;refine AllReadyH.cons rfl (fun K hK=> ?_) AllReadyH.nil
 go_simp
 refine(HC.out _ _ _).mono ?_;rintro z w7 ⟨rfl,rfl⟩;refine hK.out _ _ hS3 (fun hS4=> ?_)
 clear hK K;refine tq 5 (yi (dm rx ry)) rfl (fun w0 _=>by go_simp) hS4 ?_
 simp only[Act.put,List.getElem_toArray,List.getElem_cons_succ,List.getElem_cons_zero,List.setIfInBounds_toArray,List.set_cons_zero,List.set_cons_succ];refine wpAnyH_done (by kernel_rfl) ?_ _
 go_wp2
 go_ret
 exact⟨rfl,b06⟩
theorem OS (cx:Int)(gx sx gy sy:Bool)(xo yo:Option Addr)(lx kx ly ky:Nat)(ex ey:Int)(w:World)(hx:(cx==3)=false):
  yC 57 #[yoV cx gx sx (.slice xo lx kx) ex,yoV 3 gy sy (.slice yo ly ky) ey] w (yR w (yi (dm (byI cx gx) (byI 3 gy)))):=by
 have HX:Hid (yJ 60 #[yoV cx gx sx (.slice xo lx kx) ex] (.bool (cx==3))):=fun w1=>iz cx gx sx xo lx kx ex w1
 have HY:Hid (yJ 60 #[yoV 3 gy sy (.slice yo ly ky) ey] (.bool (3==3))):=fun w1=>iz 3 gy sy yo ly ky ey w1
 have BX:Hid (yJ 100 #[yoV cx gx sx (.slice xo lx kx) ex] (yi (byI cx gx))):=fun w1=>sI cx gx sx xo lx kx ex w1
 have BY:Hid (yJ 100 #[yoV 3 gy sy (.slice yo ly ky) ey] (yi (byI 3 gy))):=fun w1=>sI 3 gy sy yo ly ky ey w1
 have HC:Hid _:=AM;rw[hx] at HX;have bx:=af w (.cells (yoA cx gx sx (.slice xo lx kx) ex) 76);have by0:=af (w.alloc (.cells (yoA cx gx sx (.slice xo lx kx) ex) 76)) (.cells (yoA 3 gy sy (.slice yo ly ky) ey) 76);have l0:=(ah w (yoL cx gx sx (.slice xo lx kx) ex) 76).l by0;have m0:=ah (w.alloc (.cells (yoA cx gx sx (.slice xo lx kx) ex) 76)) (yoL 3 gy sy (.slice yo ly ky) ey) 76;rw[World.size_alloc] at m0;have b0:=aa bx by0;clear bx by0;obtain⟨rx,hrx⟩: ∃r,byI cx gx=r:=⟨_,rfl⟩;obtain⟨ry,hry⟩: ∃r,byI 3 gy=r:=⟨_,rfl⟩;rw[hrx] at BX⊢;rw[hry] at BY⊢;clear hrx hry
 go_enter func57,ntmps57
 go_upto_region 1 with fail
 generalize(w.alloc (.cells (yoA cx gx sx (.slice xo lx kx) ex) 76)).alloc (.cells (yoA 3 gy sy (.slice yo ly ky) ey) 76)=W0 at l0 m0 b0⊢;obtain⟨x0,x1,x2,x3,x4⟩:=l0.cs5;obtain⟨y0,y1,y2,y3,y4⟩:=m0.cs5
 go_wp2_with fail
 refine(HX.out _).mono ?_;rintro z w1 ⟨rfl,b1⟩;have l1:=l0.l b1;have m1:=m0.l b1;have b01:=aa b0 b1;clear x0 x1 x2 x3 x4 y0 y1 y2 y3 y4 l0 m0 b0 b1 HX;obtain⟨x0,x1,x2,x3,x4⟩:=l1.cs5;obtain⟨y0,y1,y2,y3,y4⟩:=m1.cs5
 go_wp2_with fail
 refine(HY.out _).mono ?_;rintro z w2 ⟨rfl,b2⟩;have l2:=l1.l b2;have m2:=m1.l b2;have b02:=aa b01 b2;clear x0 x1 x2 x3 x4 y0 y1 y2 y3 y4 l1 m1 b01 b2 HY
 go_upto_region 2 with fail
 have ld:=l2.drew;have md:=m2.drew;refine wp_region_held_drew (S:=fun wq=>wq.rangeAt w.heap.size 0 (yoL cx gx sx (.slice xo lx kx) ex)∧wq.rangeAt (w.heap.size+1) 0 (yoL 3 gy sy (.slice yo ly ky) ey)) (by kernel_rfl) ⟨ld.range,md.range⟩ (fun hS0=> ?_)
 refine tq 0 ((yoV cx gx sx (.slice xo lx kx) ex)) rfl (fun w0 hw0=>fy 76 (.tmp 2) rfl w.heap.size 0 (by kernel_rfl) _ _ hw0.1 underlying76 rfl (by kernel_rfl)) hS0 ?_
 refine tq 2 ((yoV 3 gy sy (.slice yo ly ky) ey)) rfl (fun w0 hw0=>fy 76 (.tmp 3) rfl (w.heap.size+1) 0 (by kernel_rfl) _ _ hw0.2 underlying76 rfl (by kernel_rfl)) hS0 ?_
 refine wpAnyH_ready (rs:=[1]) (by kernel_rfl) (by simp) ?_;refine AllReadyH.cons rfl (fun K hK=> ?_) AllReadyH.nil
 go_simp
 refine(BX.out _).mono ?_;rintro z w5 ⟨rfl,b5⟩;have l5:=ld.l b5;have m5:=md.l b5;have b05:=aa (b02.drew) b5;refine hK.out _ _ ⟨l5.range,m5.range⟩ (fun hS1=> ?_)
 clear hK K ld md b5;refine wpAnyH_ready (rs:=[3]) (by kernel_rfl) (by simp) ?_;refine AllReadyH.cons rfl (fun K hK=> ?_) AllReadyH.nil
 go_simp
 refine(BY.out _).mono ?_;rintro z w6 ⟨rfl,b6⟩;have l6:=l5.l b6;have m6:=m5.l b6;have b06:=aa b05 b6;refine hK.out _ _ ⟨l6.range,m6.range⟩ (fun hS3=> ?_)
 clear hK K l5 m5 b6;refine wpAnyH_ready (rs:=[4]) (by kernel_rfl) (by simp) ?_;refine AllReadyH.cons rfl (fun K hK=> ?_) AllReadyH.nil
 go_simp
 refine(HC.out _ _ _).mono ?_;rintro z w7 ⟨rfl,rfl⟩;refine hK.out _ _ hS3 (fun hS4=> ?_)
 clear hK K;refine tq 5 (yi (dm rx ry)) rfl (fun w0 _=>by go_simp) hS4 ?_
 simp only[Act.put,List.getElem_toArray,List.getElem_cons_succ,List.getElem_cons_zero,List.setIfInBounds_toArray,List.set_cons_zero,List.set_cons_succ];refine wpAnyH_done (by kernel_rfl) ?_ _
 go_wp2
 go_ret
 exact⟨rfl,b06⟩
end Go.Proofs.YtbdokgamhinajaaGreatDoor
