/-
  Texts laid together: Co12, Co6, Co7, Co8, Co13.
-/
import Derived.Laws.IdiomStrings
import Derived.Test.YtpainhklfoaniaaGreatDoorSc08
set_option maxRecDepth 100000
set_option maxHeartbeats 3200000
namespace Go.Proofs.YtpainhklfoaniaaGreatDoor
open _root_.Go.Proofs.Tryz
open Go.RowKit
theorem Gd (R D L G sz ex c:Int)(gr ng:Bool)(F e f:Nat)(w:World)(HC:yJ 127 #[ylV R D L G gr sz ex 1 F,yfV ng e f] (yi c)):yC 94 #[ylV R D L G gr sz ex 1 F,yfV ng e f] w (yR w (yi c)):=by
 replace HC:Hid _:=HC;have hsf:=cD;have l0:=(ah w (ylL R D L G gr sz ex 1 F) 131).l (af _ (.cells (yfA ng e f) 133));have m0:=ah (w.alloc (.cells (ylA R D L G gr sz ex 1 F) 131)) (yfL ng e f) 133;have b0:=aa (af w (.cells (ylA R D L G gr sz ex 1 F) 131)) (af _ (.cells (yfA ng e f) 133));rw[World.size_alloc] at m0
 go_enter func94,ntmps94
 go_wp2_with fail
 refine(HC.out _).mono ?_;rintro z w1 ⟨rfl,b1⟩
 go_wp2
 go_ret
 exact⟨rfl,aa b0 b1⟩
theorem Za (R D L G sz ex:Int)(gr ng:Bool)(F e f:Nat)(w:World):yC 94 #[ylV R D L G gr sz ex 2 F,yfV ng e f] w (yR w (yi (((if f=0 then 1 else 2:Nat):Nat):Int))):=by
 have hsf:=cD;have l0:=(ah w (ylL R D L G gr sz ex 2 F) 131).l (af _ (.cells (yfA ng e f) 133));have m0:=ah (w.alloc (.cells (ylA R D L G gr sz ex 2 F) 131)) (yfL ng e f) 133;have b0:=aa (af w (.cells (ylA R D L G gr sz ex 2 F) 131)) (af _ (.cells (yfA ng e f) 133));rw[World.size_alloc] at m0;have HZ:Hid (∀b w1,yC 128 #[.bool b] w1 fun z w'=>z= .returned (yi (if b then 1 else 2))∧w'=w1):=fun b w1=>Aj b w1
 by_cases h:f=0
 ·subst h
  go_enter func94,ntmps94
  go_wp2_with fail
  refine(HZ.out true _).mono ?_;rintro z w1 ⟨rfl,rfl⟩
  go_wp2
  go_ret
  exact⟨rfl,b0⟩
 ·have h1:((f:Int)==0)=false:=by simp;omega
  rw[if_neg h];clear h
  go_enter func94,ntmps94
  go_wp2_with fail
  refine(HZ.out false _).mono ?_;rintro z w1 ⟨rfl,rfl⟩
  go_wp2
  go_ret
  exact⟨rfl,b0⟩
theorem Zb (R D L G sz ex:Int)(gr ng:Bool)(F e f:Nat)(w:World):yC 94 #[ylV R D L G gr sz ex 3 F,yfV ng e f] w (yR w (yi (((if e=0 then(if ng then 5 else 1) else 2:Nat):Nat):Int))):=by
 have hsf:=cD;have l0:=(ah w (ylL R D L G gr sz ex 3 F) 131).l (af _ (.cells (yfA ng e f) 133));have m0:=ah (w.alloc (.cells (ylA R D L G gr sz ex 3 F) 131)) (yfL ng e f) 133;have b0:=aa (af w (.cells (ylA R D L G gr sz ex 3 F) 131)) (af _ (.cells (yfA ng e f) 133));rw[World.size_alloc] at m0;have HZ:Hid (∀b w1,yC 128 #[.bool b] w1 fun z w'=>z= .returned (yi (if b then 1 else 2))∧w'=w1):=fun b w1=>Aj b w1
 by_cases h:e=0
 ·subst h
  rw[if_pos rfl]
  cases ng
  ·go_enter func94,ntmps94
   go_wp2_with fail
   refine(HZ.out true _).mono ?_;rintro z w1 ⟨rfl,rfl⟩
   go_wp2
   go_ret
   exact⟨rfl,b0⟩
  ·go_enter func94,ntmps94
   go_wp2
   go_ret
   exact⟨rfl,b0⟩
 ·have h1:((e:Int)==0)=false:=by simp;omega
  rw[if_neg h];clear h
  cases ng
  all_goals
   go_enter func94,ntmps94
   go_wp2_with fail
   refine(HZ.out false _).mono ?_;rintro z w1 ⟨rfl,rfl⟩
   go_wp2
   go_ret
   exact⟨rfl,b0⟩
theorem Gf (k:Nat)(hk:1≤k∧k≤8)(ng:Bool)(e f:Nat)(w:World)(hf:f<18446744073709551616):yC 94 #[.agg (tS k).toArray,yfV ng e f] w (yR w (yi ((dh k ng e f:Nat):Int))):=by
 rcases bO hk with rfl|rfl|rfl|rfl|rfl|rfl|rfl|rfl
 ·exact Gd _ _ _ _ _ _ _ _ ng _ e f w (fun w1=>afs ng e f w1 hf)
 ·exact Gd _ _ _ _ _ _ _ _ ng _ e f w (fun w1=>aft ng e f w1 hf)
 ·exact Gd _ _ _ _ _ _ _ _ ng _ e f w (fun w1=>afu ng e f w1 hf)
 iterate 2 exact Za _ _ _ _ _ _ _ ng _ e f w
 all_goals exact Zb _ _ _ _ _ _ _ ng _ e f w
def iI (k e f:Nat):Nat:=if rdN k=16 then f else if e=0 then f else f|||gW k
def ii (k e:Nat):Int:=if rdN k=16 then lsI k+e else if e=0 then lsI k else lsI k+e-1
theorem Vi (D L G sz ex fam:Int)(gr ng:Bool)(F e f:Nat)(w:World)(hw1:IntKind.i64.wrap (L+(e:Int))=L+(e:Int)):yC 96 #[ylV 16 D L G gr sz ex fam F,yfV ng e f] w (yR w (.tuple #[.int .u64 f,yi (L+(e:Int))])):=by
 have hsf:=cD;have l0:=(ah w (ylL 16 D L G gr sz ex fam F) 131).l (af _ (.cells (yfA ng e f) 133));have m0:=ah (w.alloc (.cells (ylA 16 D L G gr sz ex fam F) 131)) (yfL ng e f) 133;have b0:=aa (af w (.cells (ylA 16 D L G gr sz ex fam F) 131)) (af _ (.cells (yfA ng e f) 133));rw[World.size_alloc] at m0
 go_enter func96,ntmps96
 go_wp2
 go_quiet (fail)
 go_wp2
 go_ret2
 exact⟨by first|rfl| (rw[hw1];rfl)|simp[hw1,Act.put],aL b0 _⟩
theorem Zc (D L G sz ex fam:Int)(gr ng:Bool)(F f:Nat)(w:World):yC 96 #[ylV 2 D L G gr sz ex fam F,yfV ng 0 f] w (yR w (.tuple #[.int .u64 f,yi L])):=by
 have hsf:=cD;have l0:=(ah w (ylL 2 D L G gr sz ex fam F) 131).l (af _ (.cells (yfA ng 0 f) 133));have m0:=ah (w.alloc (.cells (ylA 2 D L G gr sz ex fam F) 131)) (yfL ng 0 f) 133;have b0:=aa (af w (.cells (ylA 2 D L G gr sz ex fam F) 131)) (af _ (.cells (yfA ng 0 f) 133));rw[World.size_alloc] at m0
 go_enter func96,ntmps96
 go_wp2
 go_quiet (fail)
 go_wp2
 go_ret2
 exact⟨rfl,aL b0 _⟩
theorem Zd (D L G sz ex fam ld o:Int)(gr ng:Bool)(F e f:Nat)(w:World)(h1:((e:Int)==0)=false)(ho:bits .or .u64 f ld=o)
  (hw1:IntKind.i64.wrap (L+(e:Int))=L+(e:Int)) (hw2:IntKind.i64.wrap (L+(e:Int)-1)=L+(e:Int)-1)
  (HL:yJ 131 #[ylV 2 D L G gr sz ex fam F] (.int .u64 ld)):
  yC 96 #[ylV 2 D L G gr sz ex fam F,yfV ng e f] w (yR w (.tuple #[.int .u64 o,yi (L+(e:Int)-1)])):=by
 replace HL:Hid _:=HL;have hsf:=cD;have l0:=(ah w (ylL 2 D L G gr sz ex fam F) 131).l (af _ (.cells (yfA ng e f) 133));have m0:=ah (w.alloc (.cells (ylA 2 D L G gr sz ex fam F) 131)) (yfL ng e f) 133;have b0:=aa (af w (.cells (ylA 2 D L G gr sz ex fam F) 131)) (af _ (.cells (yfA ng e f) 133));rw[World.size_alloc] at m0;obtain⟨x0,x1,x2,x3,x4,x5,x6,x7,x8⟩:=l0.cs9;obtain⟨u0,u1,u2⟩:=m0.cs3
 go_enter func96,ntmps96
 go_wp2_with fail
 go_region_held3 (fun wq=>(wq.cell? ⟨w.heap.size,0,none⟩=some (yi 2)∧wq.cell? ⟨w.heap.size,1,none⟩=some (yi D)∧wq.cell? ⟨w.heap.size,2,none⟩=some (yi L)∧wq.cell? ⟨w.heap.size,3,none⟩=some (yi G)∧wq.cell? ⟨w.heap.size,4,none⟩=some (.bool gr)∧wq.cell? ⟨w.heap.size,5,none⟩=some (yi sz)∧wq.cell? ⟨w.heap.size,6,none⟩=some (yi ex)∧wq.cell? ⟨w.heap.size,7,none⟩=some (yi fam)∧wq.cell? ⟨w.heap.size,8,none⟩=some (.func (.func F) #[] #[]))∧(wq.cell? ⟨w.heap.size+1,0,none⟩=some (.bool ng)∧wq.cell? ⟨w.heap.size+1,1,none⟩=some (yi e)∧wq.cell? ⟨w.heap.size+1,2,none⟩=some (.int .u64 f))) (go_keep) (first
  | (go_at_call 131;refine(HL.out _).mono ?_;rintro z w2 ⟨rfl,b2⟩;have l2:=l0.drew.l b2;have m2:=m0.drew.l b2;have b02:=aa b0.drew b2;obtain⟨y0,y1,y2,y3,y4,y5,y6,y7,y8⟩:=l2.cs9;obtain⟨v0,v1,v2⟩:=m2.cs3))
 all_goals go_wp2
 all_goals go_ret2
 all_goals exact⟨by first|rfl|simp[Act.put],b02⟩
theorem QL (k:Nat)(hk:1≤k∧k≤8)(ng:Bool)(e f:Nat)(w:World)(hf:f<18446744073709551616)(he:e<65536):yC 96 #[.agg (tS k).toArray,yfV ng e f] w (yR w (.tuple #[.int .u64 ((iI k e f:Nat):Int),yi (ii k e)])):=by
 have hls: -100000≤lsI k∧lsI k≤100000:=by rcases bO hk with rfl|rfl|rfl|rfl|rfl|rfl|rfl|rfl<;>decide
 have hw1:IntKind.i64.wrap (lsI k+(e:Int))=lsI k+(e:Int):=IntWalk.i64_in _ ⟨by omega,by omega⟩;have hw2:IntKind.i64.wrap (lsI k+(e:Int)-1)=lsI k+(e:Int)-1:=IntWalk.i64_in _ ⟨by omega,by omega⟩;have ho:bits .or .u64 f (gW k:Int)=((f|||gW k:Nat):Int):=u64_or_nat f (gW k) hf (by rcases bO hk with rfl|rfl|rfl|rfl|rfl|rfl|rfl|rfl<;>decide)
 have HL:=fun w1=>xX k hk w1
 unfold iI ii
 by_cases hr:rdN k=16
 ·rw[if_pos hr,if_pos hr]
  rcases bO hk with rfl|rfl|rfl|rfl|rfl|rfl|rfl|rfl
  all_goals first|exact absurd hr (by decide)|exact Vi _ _ _ _ _ _ _ ng _ e f w hw1
 ·rw[if_neg hr,if_neg hr]
  by_cases h:e=0
  ·subst h
   rw[if_pos rfl,if_pos rfl]
   rcases bO hk with rfl|rfl|rfl|rfl|rfl|rfl|rfl|rfl
   all_goals first|exact absurd rfl hr|exact Zc _ _ _ _ _ _ _ ng _ f w
  ·rw[if_neg h,if_neg h]
   have h1:((e:Int)==0)=false:=by simp;omega
   rcases bO hk with rfl|rfl|rfl|rfl|rfl|rfl|rfl|rfl
   all_goals first|exact absurd rfl hr|exact Zd _ _ _ _ _ _ _ _ _ ng _ e f w h1 ho hw1 hw2 HL
structure ik (w:World) (g:Nat) (zs:List Nat):Prop where
 c: ∀i,i<zs.length→w.cell? ⟨g,i,none⟩=some (.int .u8 ((zs.getD i 0:Nat):Int))
 f: ∀i,i<zs.length→w.frozen? ⟨g,i,none⟩=false
 lt:g<w.heap.size
theorem Eu {w w':World}{g i:Nat}(h:w'.heap[g]? =w.heap[g]?):w'.frozen? ⟨g,i,none⟩=w.frozen? ⟨g,i,none⟩:=by
 unfold World.frozen?;simp only[h]
theorem ik.l {w w':World}{g:Nat}{zs:List Nat}(h:ik w g zs)(hb:yB w w'):ik w' g zs:=
 ⟨fun i hi=>cell_later hb (h.c i hi),fun i hi=>(Eu (hb.block g h.lt)).trans (h.f i hi),Nat.lt_of_lt_of_le h.lt hb.size⟩
theorem ik.drew {w:World}{g:Nat}{zs:List Nat}(h:ik w g zs):ik w.drew g zs:=h.l (Below.refl _ _).drew
theorem O7 (w:World)(b o:Nat)(v:Value)(g i:Nat):(w.setCell ⟨b,o,none⟩ v).frozen? ⟨g,i,none⟩=w.frozen? ⟨g,i,none⟩:=
 World.frozen?_setCells b [v] o w ⟨g,i,none⟩
theorem ik.store {w:World}{g:Nat}{zs:List Nat}(h:ik w g zs)(j x:Nat):ik (w.setCell ⟨g,j,none⟩ (.int .u8 x)) g (zs.set j x):=by
 refine⟨fun i hi=> ?_,fun i hi=> ?_,by simpa[World.setCell] using h.lt⟩
 ·rw[List.length_set] at hi
  by_cases e:j=i
  ·subst e
   rw[World.cell?_setCell_same (h:=h.c j hi)];simp[List.getD_eq_getElem?_getD,hi]
  ·rw[World.cell?_setCell_other (h:=by intro k;cases k;exact e rfl),h.c i hi]
   simp[List.getD_eq_getElem?_getD,e]
 ·rw[List.length_set] at hi
  rw[O7];exact h.f i hi
theorem Ev {w:World}{base e:Nat}{g n cap:Nat}{zs:List Nat}(h:Own w base e .u8 (.slice (some ⟨g,0,none⟩) n cap) zs):ik w g zs:=
 ⟨fun i hi=>h.c i hi,fun i _=>h.f i,h.block.2⟩
def jr (s:ByteArray):List Nat:=s.data.toList.map (fun b=>b.toNat)
theorem oV (s:ByteArray):(jr s).length=s.size:=by
 unfold jr;rw[List.length_map,Array.length_toList];rfl
theorem zU (s:ByteArray):Dg.Small 256 (jr s):=by
 intro i;unfold jr;simp only[List.getD_eq_getElem?_getD,List.getElem?_map]
 cases h:s.data.toList[i]? with
 |none=>simp
 |some b=>simpa using b.toNat_lt
def fU (zs:List Nat)(i:Nat):Nat:=zs.getD (i/8) 0/2^ (7-i % 8) % 2
def eH (zs:List Nat)(f:Nat):Nat→Nat
 |0=>0
 |n+1=>2*eH zs f n+fU zs (f+n)
theorem xW (zs:List Nat)(i:Nat):fU zs i<2:=Nat.mod_lt _ (by omega)
theorem gh (zs:List Nat)(f:Nat): ∀n,eH zs f n<2^n
 |0=>by simp[eH]
 |n+1=>by
  have h1:=gh zs f n;have h2:=xW zs (f+n);rw[Nat.pow_succ];simp only[eH];omega
def Bg (zs:List Nat):List Nat:=(List.range zs.length).map fun i=>zs.getD (i+1-2*(i % 2)) 0
theorem Cq (zs:List Nat):(Bg zs).length=zs.length:=by simp[Bg]
theorem Fl (zs:List Nat)(i:Nat)(h:i<zs.length):(Bg zs).getD i 0=zs.getD (i+1-2*(i % 2)) 0:=by
 simp[Bg,List.getD_eq_getElem?_getD,h]
def WI (zs cur:List Nat)(i:Nat):Prop:=
 cur.length=zs.length∧ ∀k,k<zs.length→cur.getD k 0=if k<2*i then zs.getD (k+1-2*(k % 2)) 0 else zs.getD k 0
theorem aa3 {zs cur:List Nat}{i:Nat}(h:WI zs cur i)(hi:2*i+1<zs.length):WI zs ((cur.set (2*i) (cur.getD (2*i+1) 0)).set (2*i+1) (cur.getD (2*i) 0)) (i+1):=by
 obtain⟨h1,h3⟩:=h;refine⟨by simpa using h1,fun k hk=> ?_⟩
 rw[Dg.getD_set _ _ _ _ (by simp;omega),Dg.getD_set _ _ _ _ (by omega)]
 by_cases e1:2*i+1=k
 ·rw[if_pos e1,if_pos (by omega),h3 _ (by omega),if_neg (by omega),←e1]
  congr 1
  omega
 ·rw[if_neg e1]
  by_cases e2:2*i=k
  ·rw[if_pos e2,if_pos (by omega),h3 _ (by omega),if_neg (by omega),←e2]
   congr 1
   omega
  ·rw[if_neg e2,h3 k hk]
   by_cases e3:k<2*i
   ·rw[if_pos e3,if_pos (by omega)]
   ·rw[if_neg e3,if_neg (by omega)]
theorem ac1 {zs cur:List Nat}{i:Nat}(h:WI zs cur i)(hi:zs.length≤2*i):cur=Bg zs:=by
 obtain⟨h1,h3⟩:=h;apply List.ext_getElem (by rw[Cq];exact h1);intro k hk1 hk2;have hk:k<zs.length:=by omega
 have e1:cur.getD k 0=cur[k]:=by simp[List.getD_eq_getElem?_getD,hk1]
 have e2:(Bg zs).getD k 0=(Bg zs)[k]:=by simp only[List.getD_eq_getElem?_getD,List.getElem?_eq_getElem hk2,Option.getD_some]
 rw[←e1,←e2,h3 k hk,if_pos (by omega),Fl zs k hk]
theorem Ko (g cap:Nat)(zs:List Nat)(w:World)(ho:ik w g zs)(hl:zs.length≤1000000000):
  yC 134 #[.slice (some ⟨g,0,none⟩) zs.length cap] w fun e w'=>
   e= .returned (.tuple #[])∧ik w' g zs.reverse∧w.grownBy w' (some g):=by
 go_enter func134,ntmps134
 go_wp2
 go_loopw [2,3] (fun iv jv wr=> ∃(i:Nat) (cur:List Nat),iv=yi i∧jv=yi ((zs.length:Int)-1-i)∧ik wr g cur∧XT zs cur i∧w.grownBy wr (some g))
  (fun iv jv _=>(intOf jv+1-intOf iv).toNat)
 case atStart=>exact⟨0,zs,rfl,by go_num,ho,⟨rfl,by omega,fun k hk=>by rw[if_neg (by omega)]⟩,ib _ _⟩
 case round=>
  obtain⟨i,cur,rfl,rfl,own,hI,gr⟩:=hrel;have h1:=hI.1;have h2:=hI.2.1
  by_cases hij:i<zs.length-1-i
  ·obtain⟨j,hj⟩: ∃j,zs.length-1-i=j:=⟨_,rfl⟩
   have hjI:(zs.length:Int)-1-i=(j:Int):=by omega
   have ci:=own.c i (by omega);have cj:=own.c j (by omega);have fi:=own.f i (by omega);have fj:=own.f j (by omega);have hst:=IJ hI hij;rw[hj] at hst hij;rw[hjI];have hjl:j<zs.length:=by omega
   have Hj:Hid _:=hjI;obtain⟨x,ex⟩: ∃x,cur.getD i 0=x:=⟨_,rfl⟩;obtain⟨y,ey⟩: ∃y,cur.getD j 0=y:=⟨_,rfl⟩;rw[ex] at ci hst;rw[ey] at cj hst;clear hj hjI ex ey hI
   go_wp2
   go_region
   all_goals go_wp2
   all_goals go_roundw
   case rel=>exact⟨i+1,_,by go_num,by have:=Hj.out;go_num,((own.store i y).store j x).drew,hst,eF (eF gr (bI _ _ _ _)) ((eF (bI _ _ _ _) (vm _ _)))⟩
   case measure=>have:=Hj.out;simp[intOf];omega
  ·have hd: ¬((i:Int)< (zs.length:Int)-1-i):=by omega
   go_wp2
   go_end0
   rw[←MG hI hij];exact⟨rfl,own,gr⟩
theorem T8 (g cap m:Nat)(zs:List Nat)(w:World)(ho:ik w g zs)(hl:zs.length≤1000000000)(hm:zs.length=2*m):
  yC 135 #[.slice (some ⟨g,0,none⟩) zs.length cap] w fun e w'=>
   e= .returned (.tuple #[])∧ik w' g (Bg zs)∧w.grownBy w' (some g):=by
 go_enter func135,ntmps135
 go_wp2
 go_loopw [2] (fun iv wr=> ∃(i:Nat) (cur:List Nat),iv=yi ((2*i:Nat):Int)∧ik wr g cur∧WI zs cur i∧i≤m∧w.grownBy wr (some g))
  (fun iv _=>((zs.length:Int)-intOf iv).toNat)
 case atStart=>exact⟨0,zs,rfl,ho,⟨rfl,fun k hk=>by rw[if_neg (by omega)]⟩,by omega,ib _ _⟩
 case round=>
  obtain⟨i,cur,rfl,own,hI,him,gr⟩:=hrel;have h1:=hI.1
  by_cases hij:i<m
  ·obtain⟨a,ha⟩: ∃a,2*i=a:=⟨_,rfl⟩
   have ci:=own.c a (by omega);have cj:=own.c (a+1) (by omega);have fi:=own.f a (by omega);have fj:=own.f (a+1) (by omega);have hst:=aa3 hI (by omega);rw[ha] at hst⊢;have hal:a+1<zs.length:=by omega
   have Ha:Hid _:=ha;obtain⟨x,ex⟩: ∃x,cur.getD a 0=x:=⟨_,rfl⟩;obtain⟨y,ey⟩: ∃y,cur.getD (a+1) 0=y:=⟨_,rfl⟩;rw[ex] at ci hst;rw[ey] at cj hst;clear ha ex ey hI hm
   go_wp2
   go_region
   all_goals go_wp2
   all_goals go_roundw
   case rel=>exact⟨i+1,_,by have:=Ha.out;go_num,((own.store a y).store (a+1) x).drew,hst,by omega,eF (eF gr (bI _ _ _ _)) ((eF (bI _ _ _ _) (vm _ _)))⟩
   case measure=>simp[intOf];omega
  ·have hd: ¬(((2*i:Nat):Int)+1< (zs.length:Int)):=by omega
   go_wp2
   go_end0
   rw[←ac1 hI (by omega)];exact⟨rfl,own,gr⟩
theorem XO (x y r:Nat)(hx:x<9223372036854775808)(hy:y<256):bits .or .u64 (IntKind.u64.wrap ((x:Int)*2)) (IntKind.u64.wrap (bits .and .u8 ((y:Int)/2^ (7-r)) 1))=((2*x+y/2^ (7-r) % 2:Nat):Int):=by
 have e1:(y:Int)/2^ (7-r)=((y/2^ (7-r):Nat):Int):=by simp
 have h1:y/2^ (7-r)<256:=Nat.lt_of_le_of_lt (Nat.div_le_self _ _) hy;have e2:=u8_and_nat (y/2^ (7-r)) 1 h1 (by omega);rw[Nat.and_one_is_mod] at e2;rw[e1,show 1=((1:Nat):Int) from rfl,e2]
 have h2:=Nat.mod_lt (y/2^ (7-r)) (show 0<2 by omega)
 generalize y/2^ (7-r) % 2=b at*;rw[IntKind.wrap_u64,IntKind.wrap_u64,show((x:Int)*2) % 18446744073709551616=((2*x:Nat):Int) from by omega,show(b:Int) % 18446744073709551616=(b:Int) from by omega]
 rw[u64_or_nat _ _ (by omega) (by omega),nat_join 1 _ _ (by omega) (by omega)]
theorem Cr (g cap:Nat)(zs:List Nat)(f c:Nat)(w:World)(hr:ik w g zs)(hs:Dg.Small 256 zs)(hc:c≤64)(hfc:f+c≤8*zs.length)(hl:zs.length≤1000):
  yC 129 #[.slice (some ⟨g,0,none⟩) zs.length cap,yi f,yi c] w fun e w'=>e= .returned (.int .u64 (eH zs f c:Nat))∧w'=w:=by
 go_enter func129,ntmps129
 go_wp2
 go_loop [7,8] (fun xv iv=> ∃j i x:Nat,Hid (i=f+j)∧j≤c∧iv=yi (i:Int)∧xv= .int .u64 (x:Int)∧Hid (x=eH zs f j)) (fun xv iv=>((f:Int)+c-intOf iv).toNat)
 case atStart=>exact⟨0,f,0,rfl,by omega,rfl,rfl,rfl⟩
 case round=>
  obtain⟨j,i,x,Hi,hj,rfl,rfl,hx⟩:=hrel;have hi:=Hi.out
  by_cases hjc:j<c
  ·obtain⟨q,hq⟩: ∃q,i/8=q:=⟨_,rfl⟩
   obtain⟨r,hr'⟩: ∃r,i % 8=r:=⟨_,rfl⟩;have hqI:(i:Int)/8=(q:Int):=by omega
   have hrI:(i:Int) % 8=(r:Int):=by omega
   have hcell:=hr.c q (by omega);have hsm:=hs q;obtain⟨y,hy⟩: ∃y,zs.getD q 0=y:=⟨_,rfl⟩;rw[hy] at hcell hsm;have hql:q<zs.length:=by omega
   have hr8:r<8:=by omega
   have HH:Hid (_∧_∧_∧_):=⟨hi,hq,hr',hy⟩;have hic:(i:Int)< (f:Int)+(c:Int):=by omega
   have hib:(i:Int)≤8000:=by omega
   clear hi hq hr' hy
   go_wp2
   obtain⟨hi,hq,hr',hy⟩:=HH.out;have hxl:=gh zs f j;have hpw:(2:Nat)^j≤2^63:=Nat.pow_le_pow_right (by omega) (by omega);refine⟨⟨j+1,i+1,2*x+y/2^ (7-r) % 2, ?_,by omega,rfl, ?_, ?_⟩, ?_⟩
   ·show i+1=f+(j+1)
    omega
   ·rw[XO x y r (by have:=hx.out;omega) hsm]
   ·show 2*x+y/2^ (7-r) % 2=eH zs f (j+1)
    have:=hx.out;rw[eH,←this,fU,←hi,hq,hr',hy]
   ·simp only[intOf]
    omega
  ·have hd: ¬((i:Int)< (f:Int)+(c:Int)):=by omega
   have hjc':j=c:=by omega
   have HX:Hid (_∧_):=⟨hx.out,hjc'⟩;have hib:(i:Int)≤8000:=by omega
   clear hi hjc'
   go_wp2
   go_ret
   obtain⟨h1,h2⟩:=HX.out;subst h1 h2;exact⟨rfl,rfl⟩
def jT (k:Nat)(zs:List Nat):List Nat:=if k=3 then zs.reverse else if 6≤k then Bg zs else zs
theorem nM (k:Nat)(zs:List Nat):(jT k zs).length=zs.length:=by
 unfold jT
 split
 ·simp
 ·split
  ·exact Cq zs
  ·rfl
theorem xi (k:Nat)(zs:List Nat)(h:Dg.Small 256 zs):Dg.Small 256 (jT k zs):=by
 unfold jT
 split
 ·intro i
  by_cases hi:i<zs.length
  ·rw[List.getD_eq_getElem?_getD,List.getElem?_reverse hi,←List.getD_eq_getElem?_getD]
   exact h _
  ·rw[List.getD_eq_getElem?_getD,List.getElem?_eq_none (by simpa using hi)]
   simp
 ·split
  ·intro i
   by_cases hi:i<zs.length
   ·rw[Fl zs i hi]
    exact h _
   ·rw[List.getD_eq_getElem?_getD,List.getElem?_eq_none (by rw[Cq];omega)]
    simp
  ·exact h
theorem Ux (v:Value)(w:World):yC 132 #[v] w fun e w'=>e= .returned (.tuple #[])∧w'=w:=by
 go_enter func132,ntmps132
 go_wp2
 go_end0
 exact⟨rfl,rfl⟩
theorem Uy (g cap:Nat)(zs:List Nat)(w:World)(ho:ik w g zs)(hl:zs.length≤1000000000):
  yC 133 #[.slice (some ⟨g,0,none⟩) zs.length cap] w fun e w'=>e= .returned (.tuple #[])∧ik w' g zs.reverse∧w.grownBy w' (some g):=by
 have hr:=Ko g cap zs w ho hl
 go_enter func133,ntmps133
 go_wp2_with fail
 refine hr.mono ?_;rintro z w1 ⟨rfl,r1,g1⟩
 go_wp2
 go_end0
 exact⟨rfl,r1,g1⟩
def C9 (k:Nat):Nat:=if k=3 then 133 else if 6≤k then 135 else 132
theorem IV (k:Nat)(g cap:Nat)(zs:List Nat)(w:World)(ho:ik w g zs)(hl:zs.length≤1000)(hev: ∃m,zs.length=2*m):
  yC (C9 k) #[.slice (some ⟨g,0,none⟩) zs.length cap] w fun e w'=>e= .returned (.tuple #[])∧ik w' g (jT k zs)∧w.grownBy w' (some g):=by
 unfold C9 jT
 by_cases h3:k=3
 ·rw[if_pos h3,if_pos h3]
  exact Uy g cap zs w ho (by omega)
 ·rw[if_neg h3,if_neg h3]
  by_cases h6:6≤k
  ·rw[if_pos h6,if_pos h6]
   obtain⟨m,hm⟩:=hev;exact T8 g cap m zs w ho (by omega) hm
  ·rw[if_neg h6,if_neg h6]
   refine(Ux _ w).mono ?_;rintro z w1 ⟨rfl,rfl⟩;exact⟨rfl,ho,ib _ _⟩
theorem Cx {P:Program}{f:FuncId}{fn:Func}{c:Code}(hf:P.funcs[f]? =some fn)(hname:(fn.name== "runtime.NumGoroutine")=false)(hb:fn.body=some c)(args:Array Value)(w:World):Sem.run P (callFunc f args) w= .ok (.enter f args) w:=by
 have hn: ¬fn.name= "runtime.NumGoroutine" :=by simpa using hname
 simp[callFunc,hf,hn,hb]
theorem Db (k:Nat)(args:Array Value)(W:World):Sem.run Tryz.prog (callFunc (C9 k) args) W= .ok (.enter (C9 k) args) W:=by
 unfold C9
 split
 ·exact Cx func133 (by kernel_rfl) rfl args W
 ·split
  ·exact Cx func135 (by kernel_rfl) rfl args W
  ·exact Cx func132 (by kernel_rfl) rfl args W
theorem Uz {P:Program}(W:World)(src dst e:TypeId)(s:ByteArray)(hs:P.underlying src=some .string)(hd:P.underlying dst=some (.slice e))(he:P.underlying e=some (.int .u8)):
  ∃W1 cap,(convert src dst (.string s)).run P W= .ok (.slice (some ⟨W.heap.size,0,none⟩) s.size cap) W1∧ik W1 W.heap.size (jr s)∧yB W W1:=by
 refine⟨_,_,run_bytes_of_string W src dst e s hs hd he, ?_, ?_⟩
 ·refine⟨fun i hi=> ?_,fun i hi=> ?_, ?_⟩
  ·have hi':i<s.data.size:=by rw[oV] at hi;exact hi
   rw[show W.heap.size=W.drew.heap.size from rfl,World.cell?_alloc_mark,bytesRow_at s _ i hi',jr,List.getD_eq_getElem?_getD,List.getElem?_map,Array.getElem?_toList,Array.getElem?_eq_getElem hi']
   rfl
  ·have hi':i<s.data.size:=by rw[oV] at hi;exact hi
   rw[show W.heap.size=W.drew.heap.size from rfl,World.frozen?_alloc_mark]
   have: ¬((bytesRow s (grownCap W s.size 0 e)).size≤i):=by
    unfold bytesRow;rw[Array.size_append,Array.size_map];omega
   simp[this]
  ·show W.heap.size< (W.drew.alloc _).heap.size
   rw[World.size_alloc];exact Nat.lt_succ_self _
 ·exact((Below.refl _ _).drew).alloc (Nat.le_refl _) _
end Go.Proofs.YtpainhklfoaniaaGreatDoor
