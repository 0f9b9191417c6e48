/-
  Texts laid together: Co7, Co8, Co13, Co14, Co15.
-/
import Derived.Test.YtnhackdjplppjaaGreatDoorSp05
set_option maxRecDepth 100000
namespace Go.Proofs.YtnhackdjplppjaaGreatDoor
open Go.RowKit
def turnW (zs:List Nat):List Nat:=(List.range zs.length).map fun i=>zs.getD (i+1-2*(i % 2)) 0
theorem turnW_len (zs:List Nat):(turnW zs).length=zs.length:=by simp[turnW]
theorem turnW_at (zs:List Nat) (i:Nat) (h:i<zs.length):(turnW zs).getD i 0=zs.getD (i+1-2*(i % 2)) 0:=by
 simp[turnW,List.getD_eq_getElem?_getD,h]
def WI (zs cur:List Nat) (i:Nat):Prop:=
 cur.length=zs.length∧ ∀k,k<zs.length→cur.getD k 0=if k<2*i then zs.getD (k+1-2*(k % 2)) 0 else zs.getD k 0
theorem wi_step {zs cur:List Nat} {i:Nat} (h:WI zs cur i) (hi:2*i+1<zs.length):WI zs ((cur.set (2*i) (cur.getD (2*i+1) 0)).set (2*i+1) (cur.getD (2*i) 0)) (i+1):=by
 obtain⟨h1,h3⟩:=h;refine⟨by simpa using h1,fun k hk=> ?_⟩
 rw[Dg.getD_set _ _ _ _ (by simp;omega),Dg.getD_set _ _ _ _ (by omega)]
 by_cases e1:2*i+1=k
 ·rw[if_pos e1,if_pos (by omega),h3 _ (by omega),if_neg (by omega),←e1]
  congr 1
  omega
 ·rw[if_neg e1]
  by_cases e2:2*i=k
  ·rw[if_pos e2,if_pos (by omega),h3 _ (by omega),if_neg (by omega),←e2]
   congr 1
   omega
  ·rw[if_neg e2,h3 k hk]
   by_cases e3:k<2*i
   ·rw[if_pos e3,if_pos (by omega)]
   ·rw[if_neg e3,if_neg (by omega)]
theorem wi_end {zs cur:List Nat} {i:Nat} (h:WI zs cur i) (hi:zs.length≤2*i):cur=turnW zs:=by
 obtain⟨h1,h3⟩:=h;apply List.ext_getElem (by rw[turnW_len];exact h1);intro k hk1 hk2;have hk:k<zs.length:=by omega
 have e1:cur.getD k 0=cur[k]:=by simp[List.getD_eq_getElem?_getD,hk1]
 have e2:(turnW zs).getD k 0=(turnW zs)[k]:=by simp only[List.getD_eq_getElem?_getD,List.getElem?_eq_getElem hk2,Option.getD_some]
 rw[←e1,←e2,h3 k hk,if_pos (by omega),turnW_at zs k hk]
set_option maxHeartbeats 3200000 in
theorem breverse_any (g cap:Nat) (zs:List Nat) (w:World) (ho:BRow w g zs) (hl:zs.length≤1000000000):
  Calls Tryz.prog 202 #[.slice (some ⟨g,0,none⟩) zs.length cap] w fun e w'=>
   e= .returned (.tuple #[])∧BRow w' g zs.reverse∧w.grownBy w' (some g):=by
 go_enter Tryz.func202,Tryz.ntmps202
 go_wp2
 go_loopw [2,3] (fun iv jv wr=> ∃(i:Nat) (cur:List Nat),iv=yi i∧jv=yi ((zs.length:Int)-1-i)∧BRow wr g cur∧RevI zs cur i∧w.grownBy wr (some g))
  (fun iv jv _=>(intOf jv+1-intOf iv).toNat)
 case atStart=>exact⟨0,zs,rfl,by go_num,ho,⟨rfl,by omega,fun k hk=>by rw[if_neg (by omega)]⟩,grown_refl _ _⟩
 case round=>
  obtain⟨i,cur,rfl,rfl,own,hI,gr⟩:=hrel;have h1:=hI.1;have h2:=hI.2.1
  by_cases hij:i<zs.length-1-i
  ·obtain⟨j,hj⟩: ∃j,zs.length-1-i=j:=⟨_,rfl⟩
   have hjI:(zs.length:Int)-1-i=(j:Int):=by omega
   have ci:=own.cell i (by omega);have cj:=own.cell j (by omega);have fi:=own.free i (by omega);have fj:=own.free j (by omega);have hst:=revI_step hI hij;rw[hj] at hst hij;rw[hjI];have hjl:j<zs.length:=by omega
   have Hj:Hid _:=hjI;obtain⟨x,ex⟩: ∃x,cur.getD i 0=x:=⟨_,rfl⟩;obtain⟨y,ey⟩: ∃y,cur.getD j 0=y:=⟨_,rfl⟩;rw[ex] at ci hst;rw[ey] at cj hst;clear hj hjI ex ey hI
   go_wp2
   go_region
   all_goals go_wp2
   all_goals go_roundw
   case rel=>exact⟨i+1,_,by go_num,by have:=Hj.out;go_num,((own.store i y).store j x).drew,hst,grown_trans (grown_trans gr (grown_set _ _ _ _)) ((grown_trans (grown_set _ _ _ _) (grown_drew _ _)))⟩
   case measure=>have:=Hj.out;simp[intOf];omega
  ·have hd: ¬((i:Int)< (zs.length:Int)-1-i):=by omega
   go_wp2
   go_end0
   rw[←revI_end hI hij];exact⟨rfl,own,gr⟩
set_option maxHeartbeats 3200000 in
theorem words_any (g cap m:Nat) (zs:List Nat) (w:World) (ho:BRow w g zs) (hl:zs.length≤1000000000) (hm:zs.length=2*m):
  Calls Tryz.prog 203 #[.slice (some ⟨g,0,none⟩) zs.length cap] w fun e w'=>
   e= .returned (.tuple #[])∧BRow w' g (turnW zs)∧w.grownBy w' (some g):=by
 go_enter Tryz.func203,Tryz.ntmps203
 go_wp2
 go_loopw [2] (fun iv wr=> ∃(i:Nat) (cur:List Nat),iv=yi ((2*i:Nat):Int)∧BRow wr g cur∧WI zs cur i∧i≤m∧w.grownBy wr (some g))
  (fun iv _=>((zs.length:Int)-intOf iv).toNat)
 case atStart=>exact⟨0,zs,rfl,ho,⟨rfl,fun k hk=>by rw[if_neg (by omega)]⟩,by omega,grown_refl _ _⟩
 case round=>
  obtain⟨i,cur,rfl,own,hI,him,gr⟩:=hrel;have h1:=hI.1
  by_cases hij:i<m
  ·obtain⟨a,ha⟩: ∃a,2*i=a:=⟨_,rfl⟩
   have ci:=own.cell a (by omega);have cj:=own.cell (a+1) (by omega);have fi:=own.free a (by omega);have fj:=own.free (a+1) (by omega);have hst:=wi_step hI (by omega);rw[ha] at hst⊢;have hal:a+1<zs.length:=by omega
   have Ha:Hid _:=ha;obtain⟨x,ex⟩: ∃x,cur.getD a 0=x:=⟨_,rfl⟩;obtain⟨y,ey⟩: ∃y,cur.getD (a+1) 0=y:=⟨_,rfl⟩;rw[ex] at ci hst;rw[ey] at cj hst;clear ha ex ey hI hm
   go_wp2
   go_region
   all_goals go_wp2
   all_goals go_roundw
   case rel=>exact⟨i+1,_,by have:=Ha.out;go_num,((own.store a y).store (a+1) x).drew,hst,by omega,grown_trans (grown_trans gr (grown_set _ _ _ _)) ((grown_trans (grown_set _ _ _ _) (grown_drew _ _)))⟩
   case measure=>simp[intOf];omega
  ·have hd: ¬(((2*i:Nat):Int)+1< (zs.length:Int)):=by omega
   go_wp2
   go_end0
   rw[←wi_end hI (by omega)];exact⟨rfl,own,gr⟩
end Go.Proofs.YtnhackdjplppjaaGreatDoor
namespace Go.Proofs.YtnhackdjplppjaaGreatDoor
open Go.RowKit
theorem bit_join (x y r:Nat) (hx:x<9223372036854775808) (hy:y<256):bits .or .u64 (IntKind.u64.wrap ((x:Int)*2)) (IntKind.u64.wrap (bits .and .u8 ((y:Int)/2^ (7-r)) 1))=((2*x+y/2^ (7-r) % 2:Nat):Int):=by
 have e1:(y:Int)/2^ (7-r)=((y/2^ (7-r):Nat):Int):=by simp
 have h1:y/2^ (7-r)<256:=Nat.lt_of_le_of_lt (Nat.div_le_self _ _) hy;have e2:=u8_and_nat (y/2^ (7-r)) 1 h1 (by omega);rw[Nat.and_one_is_mod] at e2;rw[e1,show(1:Int)=((1:Nat):Int) from rfl,e2]
 have h2:=Nat.mod_lt (y/2^ (7-r)) (show 0<2 by omega)
 generalize y/2^ (7-r) % 2=b at*;rw[IntKind.wrap_u64,IntKind.wrap_u64,show((x:Int)*2) % 18446744073709551616=((2*x:Nat):Int) from by omega,show(b:Int) % 18446744073709551616=(b:Int) from by omega]
 rw[u64_or_nat _ _ (by omega) (by omega),nat_join 1 _ _ (by omega) (by omega)]
set_option maxHeartbeats 3200000 in
theorem cbits_any (g cap:Nat) (zs:List Nat) (f c:Nat) (w:World) (hr:BRow w g zs) (hs:Dg.Small 256 zs) (hc:c≤64) (hfc:f+c≤8*zs.length) (hl:zs.length≤1000):
  Calls Tryz.prog 196 #[.slice (some ⟨g,0,none⟩) zs.length cap,yi f,yi c] w fun e w'=>e= .returned (.int .u64 (bitsV zs f c:Nat))∧w'=w:=by
 go_enter Tryz.func196,Tryz.ntmps196
 go_wp2
 go_loop [7,8] (fun xv iv=> ∃j i x:Nat,Hid (i=f+j)∧j≤c∧iv=yi (i:Int)∧xv= .int .u64 (x:Int)∧Hid (x=bitsV zs f j)) (fun xv iv=>((f:Int)+c-intOf iv).toNat)
 case atStart=>exact⟨0,f,0,rfl,by omega,rfl,rfl,rfl⟩
 case round=>
  obtain⟨j,i,x,Hi,hj,rfl,rfl,hx⟩:=hrel;have hi:=Hi.out
  by_cases hjc:j<c
  ·obtain⟨q,hq⟩: ∃q,i/8=q:=⟨_,rfl⟩
   obtain⟨r,hr'⟩: ∃r,i % 8=r:=⟨_,rfl⟩;have hqI:(i:Int)/8=(q:Int):=by omega
   have hrI:(i:Int) % 8=(r:Int):=by omega
   have hcell:=hr.cell q (by omega);have hsm:=hs q;obtain⟨y,hy⟩: ∃y,zs.getD q 0=y:=⟨_,rfl⟩;rw[hy] at hcell hsm;have hql:q<zs.length:=by omega
   have hr8:r<8:=by omega
   have HH:Hid (_∧_∧_∧_):=⟨hi,hq,hr',hy⟩;have hic:(i:Int)< (f:Int)+(c:Int):=by omega
   have hib:(i:Int)≤8000:=by omega
   clear hi hq hr' hy
   go_wp2
   obtain⟨hi,hq,hr',hy⟩:=HH.out;have hxl:=bitsV_lt zs f j;have hpw:(2:Nat)^j≤2^63:=Nat.pow_le_pow_right (by omega) (by omega);refine⟨⟨j+1,i+1,2*x+y/2^ (7-r) % 2, ?_,by omega,rfl, ?_, ?_⟩, ?_⟩
   ·show i+1=f+(j+1)
    omega
   ·rw[bit_join x y r (by have:=hx.out;omega) hsm]
   ·show 2*x+y/2^ (7-r) % 2=bitsV zs f (j+1)
    have:=hx.out;rw[bitsV,←this,bitB,←hi,hq,hr',hy]
   ·simp only[intOf]
    omega
  ·have hd: ¬((i:Int)< (f:Int)+(c:Int)):=by omega
   have hjc':j=c:=by omega
   have HX:Hid (_∧_):=⟨hx.out,hjc'⟩;have hib:(i:Int)≤8000:=by omega
   clear hi hjc'
   go_wp2
   go_ret
   obtain⟨h1,h2⟩:=HX.out;subst h1 h2;exact⟨rfl,rfl⟩
end Go.Proofs.YtnhackdjplppjaaGreatDoor
namespace Go.Proofs.YtnhackdjplppjaaGreatDoor
open Go.RowKit
def turnB (k:Nat) (zs:List Nat):List Nat:=if k=3 then zs.reverse else if 6≤k then turnW zs else zs
theorem turnB_len (k:Nat) (zs:List Nat):(turnB k zs).length=zs.length:=by
 unfold turnB
 split
 ·simp
 ·split
  ·exact turnW_len zs
  ·rfl
theorem turnB_small (k:Nat) (zs:List Nat) (h:Dg.Small 256 zs):Dg.Small 256 (turnB k zs):=by
 unfold turnB
 split
 ·intro i
  by_cases hi:i<zs.length
  ·rw[List.getD_eq_getElem?_getD,List.getElem?_reverse hi,←List.getD_eq_getElem?_getD]
   exact h _
  ·rw[List.getD_eq_getElem?_getD,List.getElem?_eq_none (by simpa using hi)]
   simp
 ·split
  ·intro i
   by_cases hi:i<zs.length
   ·rw[turnW_at zs i hi]
    exact h _
   ·rw[List.getD_eq_getElem?_getD,List.getElem?_eq_none (by rw[turnW_len];omega)]
    simp
  ·exact h
theorem turn1_any (v:Value) (w:World):Calls Tryz.prog 200 #[v] w fun e w'=>e= .returned (.tuple #[])∧w'=w:=by
 go_enter Tryz.func200,Tryz.ntmps200
 go_wp2
 go_end0
 exact⟨rfl,rfl⟩
set_option maxHeartbeats 1600000 in
theorem turn2_any (g cap:Nat) (zs:List Nat) (w:World) (ho:BRow w g zs) (hl:zs.length≤1000000000):
  Calls Tryz.prog 201 #[.slice (some ⟨g,0,none⟩) zs.length cap] w fun e w'=>e= .returned (.tuple #[])∧BRow w' g zs.reverse∧w.grownBy w' (some g):=by
 have hr:=breverse_any g cap zs w ho hl
 go_enter Tryz.func201,Tryz.ntmps201
 go_wp2_with fail
 refine hr.mono ?_;rintro z w1 ⟨rfl,r1,g1⟩
 go_wp2
 go_end0
 exact⟨rfl,r1,g1⟩
def turnF (k:Nat):Nat:=if k=3 then 201 else if 6≤k then 203 else 200
theorem turnF_any (k:Nat) (g cap:Nat) (zs:List Nat) (w:World) (ho:BRow w g zs) (hl:zs.length≤1000) (hev: ∃m,zs.length=2*m):
  Calls Tryz.prog (turnF k) #[.slice (some ⟨g,0,none⟩) zs.length cap] w fun e w'=>e= .returned (.tuple #[])∧BRow w' g (turnB k zs)∧w.grownBy w' (some g):=by
 unfold turnF turnB
 by_cases h3:k=3
 ·rw[if_pos h3,if_pos h3]
  exact turn2_any g cap zs w ho (by omega)
 ·rw[if_neg h3,if_neg h3]
  by_cases h6:6≤k
  ·rw[if_pos h6,if_pos h6]
   obtain⟨m,hm⟩:=hev;exact words_any g cap m zs w ho (by omega) hm
  ·rw[if_neg h6,if_neg h6]
   refine(turn1_any _ w).mono ?_;rintro z w1 ⟨rfl,rfl⟩;exact⟨rfl,ho,grown_refl _ _⟩
theorem center_of {P:Program} {f:FuncId} {fn:Func} {c:Code} (hf:P.funcs[f]? =some fn) (hname:(fn.name== "runtime.NumGoroutine")=false) (hb:fn.body=some c) (args:Array Value) (w:World):Sem.run P (callFunc f args) w= .ok (.enter f args) w:=by
 have hn: ¬fn.name= "runtime.NumGoroutine" :=by simpa using hname
 simp[callFunc,hf,hn,hb]
theorem turnF_enter (k:Nat) (args:Array Value) (W:World):Sem.run Tryz.prog (callFunc (turnF k) args) W= .ok (.enter (turnF k) args) W:=by
 unfold turnF
 split
 ·exact center_of Tryz.func201 (by kernel_rfl) rfl args W
 ·split
  ·exact center_of Tryz.func203 (by kernel_rfl) rfl args W
  ·exact center_of Tryz.func200 (by kernel_rfl) rfl args W
theorem bytes_run {P:Program} (W:World) (src dst e:TypeId) (s:ByteArray) (hs:P.underlying src=some .string) (hd:P.underlying dst=some (.slice e)) (he:P.underlying e=some (.int .u8)):
  ∃W1 cap,(convert src dst (.string s)).run P W= .ok (.slice (some ⟨W.heap.size,0,none⟩) s.size cap) W1∧BRow W1 W.heap.size (bytesOf s)∧Below W.heap.size W W1:=by
 refine⟨_,_,run_bytes_of_string W src dst e s hs hd he, ?_, ?_⟩
 ·refine⟨fun i hi=> ?_,fun i hi=> ?_, ?_⟩
  ·have hi':i<s.data.size:=by rw[bytesOf_len] at hi;exact hi
   rw[show W.heap.size=W.drew.heap.size from rfl,World.cell?_alloc_mark,bytesRow_at s _ i hi',bytesOf,List.getD_eq_getElem?_getD,List.getElem?_map,Array.getElem?_toList,Array.getElem?_eq_getElem hi']
   rfl
  ·have hi':i<s.data.size:=by rw[bytesOf_len] at hi;exact hi
   rw[show W.heap.size=W.drew.heap.size from rfl,World.frozen?_alloc_mark]
   have: ¬((bytesRow s (grownCap W s.size 0 e)).size≤i):=by
    unfold bytesRow;rw[Array.size_append,Array.size_map];omega
   simp[this]
  ·show W.heap.size< (W.drew.alloc _).heap.size
   rw[World.size_alloc];exact Nat.lt_succ_self _
 ·exact((Below.refl _ _).drew).alloc (Nat.le_refl _) _
end Go.Proofs.YtnhackdjplppjaaGreatDoor
namespace Go.Proofs.YtnhackdjplppjaaGreatDoor
open Go.RowKit
theorem LocE.grown {w w':World} {b g:Nat} {ty:TypeId} {vs:List Value} (h:LocE w b ty vs) (hg:w.grownBy w' (some g)) (hne:b≠g):LocE w' b ty vs:=
 (hg.block b h.lt (fun e=>hne (Option.some.inj e))).trans h
set_option maxHeartbeats 12800000 in
theorem cread_W (R D L G fam:Int) (gr:Bool) (sz ex fr:Nat) (F:Nat) (s:ByteArray) (ts:List Nat) (w:World) (hs:s.size=sz) (hlen:ts.length=sz) (hsm:Dg.Small 256 ts) (hfr:1+ex+fr=8*sz) (hex:ex≤15) (hsz:sz≤10) (hfr64:fr≤64)
  (HT: ∀g cap w1,BRow w1 g (bytesOf s)→Calls Tryz.prog F #[.slice (some ⟨g,0,none⟩) sz cap] w1 fun z w'=>z= .returned (.tuple #[])∧BRow w' g ts∧w1.grownBy w' (some g))
  (HFR: ∀w1,Calls Tryz.prog 197 #[ylV R D L G gr (sz:Int) (ex:Int) fam F] w1 fun z w'=>z= .returned (yi (fr:Int))∧Below w1.heap.size w1 w')
  (HE: ∀args W,Sem.run Tryz.prog (callFunc F args) W= .ok (.enter F args) W):
  Calls Tryz.prog 150 #[ylV R D L G gr (sz:Int) (ex:Int) fam F,.string s] w fun z w'=>z= .returned (yfV (decide (bitsV ts 0 1=1)) ((bitsV ts 1 ex:Nat):Int) ((bitsV ts (1+ex) fr:Nat):Int))∧Below w.heap.size w w':=by
 have hsf:=hsf_z;have l0:=(locE_new w (ylL R D L G gr (sz:Int) (ex:Int) fam F) 144).later (below_alloc _ (.cells (yfL false 0 0).toArray 147));have m0:=locE_new (w.alloc (.cells (ylL R D L G gr (sz:Int) (ex:Int) fam F).toArray 144)) (yfL false 0 0) 147;have b0:=below_trans (below_alloc w (.cells (ylL R D L G gr (sz:Int) (ex:Int) fam F).toArray 144)) (below_alloc _ (.cells (yfL false 0 0).toArray 147));rw[World.size_alloc] at m0;have H2:((w.alloc (.cells (ylL R D L G gr (sz:Int) (ex:Int) fam F).toArray 144)).alloc (.cells (yfL false 0 0).toArray 147)).heap.size=w.heap.size+2:=by rw[World.size_alloc,World.size_alloc]
 obtain⟨W1,cap,hrun,hrow,hbel⟩:=bytes_run (P:=Tryz.prog) ((w.alloc (.cells (ylL R D L G gr (sz:Int) (ex:Int) fam F).toArray 144)).alloc (.cells (yfL false 0 0).toArray 147)) 9 110 5 s Tryz.underlying9 Tryz.underlying110 Tryz.underlying5;have l1:=l0.later hbel;have m1:=m0.later hbel;have b1:=below_trans b0 hbel;rw[H2] at hrun hrow;rw[hs] at hrun;obtain⟨g,hg⟩: ∃g,w.heap.size+2=g:=⟨_,rfl⟩;rw[hg] at hrun hrow;have x8:=l1.cell 8 rfl;have HT':Hid _:=HT;have HFR':Hid _:=HFR;have HHg:Hid _:=hg;have HL:Hid (_∧_):=⟨hlen,hfr⟩;obtain⟨n0,hn0⟩: ∃n,bitsV ts 0 1=n:=⟨_,rfl⟩;obtain⟨n1,hn1⟩: ∃n,bitsV ts 1 ex=n:=⟨_,rfl⟩;obtain⟨n2,hn2⟩: ∃n,bitsV ts (1+ex) fr=n:=⟨_,rfl⟩;rw[hn0,hn1,hn2];have HN:Hid (_∧_∧_):=⟨hn0,hn1,hn2⟩;have hd0:((n0:Int)==1)=decide (n0=1):=by
  by_cases h:n0=1
  ·subst h;rfl
  ·rw[decide_eq_false h];simp;omega
 obtain⟨q0,hq0⟩: ∃q,decide (n0=1)=q:=⟨_,rfl⟩;rw[hq0] at hd0⊢;clear HT HFR hg hlen hfr hn0 hn1 hn2 hq0
 go_enter Tryz.func150,Tryz.ntmps150
 go_wp2_with fail
 refine(HT'.out _ _ _ hrow).mono ?_;rintro z w2 ⟨rfl,r2,g2⟩;have hgg:=HHg.out;have l2:=(l1.grown g2 (by omega)).drew;have m2:=(m1.grown g2 (by omega)).drew;have b2:=(b1.grown g2 b1.size (fun k h=>by cases h;omega)).drew
 have r2':=r2.drew;obtain⟨hlen,hfr⟩:=HL.out;have HB0:Hid (∀w1,BRow w1 g ts→Calls Tryz.prog 196 #[.slice (some ⟨g,0,none⟩) sz cap,yi 0,yi 1] w1 fun z w'=>z= .returned (.int .u64 ((bitsV ts 0 1:Nat):Int))∧w1=w'):=fun w1 h=>by
  have:=cbits_any g cap ts 0 1 w1 h hsm (by omega) (by omega) (by omega);rw[hlen] at this;exact this.mono (fun _ _ h=>⟨h.1,h.2.symm⟩)
 have HB1:Hid (∀w1,BRow w1 g ts→Calls Tryz.prog 196 #[.slice (some ⟨g,0,none⟩) sz cap,yi 1,yi (ex:Int)] w1 fun z w'=>z= .returned (.int .u64 ((bitsV ts 1 ex:Nat):Int))∧w1=w'):=fun w1 h=>by
  have:=cbits_any g cap ts 1 ex w1 h hsm (by omega) (by omega) (by omega);rw[hlen] at this;exact this.mono (fun _ _ h=>⟨h.1,h.2.symm⟩)
 have HB2:Hid (∀w1,BRow w1 g ts→Calls Tryz.prog 196 #[.slice (some ⟨g,0,none⟩) sz cap,yi (1+(ex:Int)),yi (fr:Int)] w1 fun z w'=>z= .returned (.int .u64 ((bitsV ts (1+ex) fr:Nat):Int))∧w1=w'):=fun w1 h=>by
  have:=cbits_any g cap ts (1+ex) fr w1 h hsm (by omega) (by omega) (by omega);rw[hlen,show(((1+ex:Nat):Nat):Int)=1+(ex:Int) from by omega] at this
  exact this.mono (fun _ _ h=>⟨h.1,h.2.symm⟩)
 have h1l:=bitsV_lt ts 1 ex;have h1p:(2:Nat)^ex≤2^15:=Nat.pow_le_pow_right (by omega) hex;obtain⟨hn0,hn1,hn2⟩:=HN.out;rw[hn0] at HB0;rw[hn1] at HB1 h1l;rw[hn2] at HB2;have hn1b:n1<32768:=by omega
 clear hn0 hn1 hn2 h1l h1p hlen hfr l0 l1 m0 m1 b0 b1 r2 hrow hrun hbel x8 H2 hgg;have hexI:(ex:Int)≤15:=by omega
 have hwr:IntKind.i64.wrap (1+(ex:Int))=1+(ex:Int):=IntWalk.i64_in _ ⟨by omega,by omega⟩;have hwn:IntKind.i64.wrap (n1:Int)=(n1:Int):=IntWalk.i64_in _ ⟨by omega,by omega⟩;obtain⟨x0,x1,x2,x3,x4,x5,x6,x7,x8⟩:=l2.cs9
 go_wp2_with fail
 go_region_held3 (fun wq=>wq.cell? ⟨w.heap.size,0,none⟩=some (yi R)∧wq.cell? ⟨w.heap.size,1,none⟩=some (yi D)∧wq.cell? ⟨w.heap.size,2,none⟩=some (yi L)∧wq.cell? ⟨w.heap.size,3,none⟩=some (yi G)∧wq.cell? ⟨w.heap.size,4,none⟩=some (.bool gr)∧wq.cell? ⟨w.heap.size,5,none⟩=some (yi (sz:Int))∧wq.cell? ⟨w.heap.size,6,none⟩=some (yi (ex:Int))∧wq.cell? ⟨w.heap.size,7,none⟩=some (yi fam)∧wq.cell? ⟨w.heap.size,8,none⟩=some (.func (.func F) #[] #[])) (go_keep) (first
  | (go_at_call 197;refine(HFR'.out _).mono ?_;rintro z w5 ⟨rfl,b5⟩;have l5:=l2.later b5;have m5:=m2.later b5;have b05:=below_trans b2 b5;have r5:=r2'.later b5;obtain⟨y0,y1,y2,y3,y4,y5,y6,y7,y8⟩:=l5.cs9;obtain⟨u0,u1,u2⟩:=m5.cs3;have f0:=m5.free 0;have f1:=m5.free 1;have f2:=m5.free 2)
  | (go_at_call 196;(with_reducible (refine(HB0.out _ (by assumption)).mono ?_));rintro z wv ⟨rfl,rfl⟩)
  | (go_at_call 196;(with_reducible (refine(HB1.out _ (by assumption)).mono ?_));rintro z wv ⟨rfl,rfl⟩)
  | (go_at_call 196;(with_reducible (refine(HB2.out _ (by assumption)).mono ?_));rintro z wv ⟨rfl,rfl⟩))
 have cR:LocE (((w5.setCell ⟨w.heap.size+1,0,none⟩ (.bool q0)).setCell ⟨w.heap.size+1,1,none⟩ (yi (n1:Int))).setCell ⟨w.heap.size+1,2,none⟩ (.int .u64 (n2:Int))) (w.heap.size+1) 147 (yfL q0 (n1:Int) (n2:Int)):=((m5.set 0 (.bool q0)).set 1 (yi (n1:Int))).set 2 (.int .u64 (n2:Int));have bR:=(((but_set w5 (w.heap.size+1) 0 (.bool q0)).trans (but_set _ (w.heap.size+1) 1 (yi (n1:Int)))).trans (but_set _ (w.heap.size+1) 2 (.int .u64 (n2:Int)))).below b05 (by omega);have hl:=run_loadVar_mid (P:=Tryz.prog) _ (w.heap.size+1) 0 147 (yfL q0 (n1:Int) (n2:Int)) _ cR.range Tryz.underlying147 rfl (by kernel_rfl);have HH:Hid (_∧_):=⟨hl,bR⟩;clear hl bR cR l2 m2 b2 l5 m5 b05
 go_wp2
 obtain⟨hl,bR⟩:=HH.out;exact bodyPost_ret (results_one Tryz.results150 rfl hl) rfl ⟨rfl,bR⟩
def fldB (k:Nat) (s:ByteArray):List Nat:=turnB k (bytesOf s)
def fldN (k:Nat) (s:ByteArray):Bool:=decide (bitsV (fldB k s) 0 1=1)
def fldE (k:Nat) (s:ByteArray):Nat:=bitsV (fldB k s) 1 (exN k)
def fldF (k:Nat) (s:ByteArray):Nat:=bitsV (fldB k s) (1+exN k) (frN k)
theorem sizes_fit {k:Nat} (hk:1≤k∧k≤8):1+exN k+frN k=8*szN k∧exN k≤15∧szN k≤10∧frN k≤64∧(∃m,szN k=2*m)∧7≤exN k:=by
 rcases eight hk with rfl|rfl|rfl|rfl|rfl|rfl|rfl|rfl
 ·exact⟨by decide,by decide,by decide,by decide,⟨2,rfl⟩,by decide⟩
 ·exact⟨by decide,by decide,by decide,by decide,⟨4,rfl⟩,by decide⟩
 ·exact⟨by decide,by decide,by decide,by decide,⟨5,rfl⟩,by decide⟩
 ·exact⟨by decide,by decide,by decide,by decide,⟨2,rfl⟩,by decide⟩
 ·exact⟨by decide,by decide,by decide,by decide,⟨4,rfl⟩,by decide⟩
 ·exact⟨by decide,by decide,by decide,by decide,⟨2,rfl⟩,by decide⟩
 ·exact⟨by decide,by decide,by decide,by decide,⟨4,rfl⟩,by decide⟩
 ·exact⟨by decide,by decide,by decide,by decide,⟨4,rfl⟩,by decide⟩
theorem cread_any (k:Nat) (hk:1≤k∧k≤8) (s:ByteArray) (w:World) (hs:s.size=szN k):
  Calls Tryz.prog 150 #[.agg (layV k).toArray,.string s] w fun z w'=>z= .returned (yfV (fldN k s) ((fldE k s:Nat):Int) ((fldF k s:Nat):Int))∧Below w.heap.size w w':=by
 obtain⟨h1,h2,h3,h4,h5,-⟩:=sizes_fit hk;have hb:=bytesOf_len s;have HT: ∀g cap w1,BRow w1 g (bytesOf s)→Calls Tryz.prog (turnF k) #[.slice (some ⟨g,0,none⟩) (szN k) cap] w1 fun z w'=>z= .returned (.tuple #[])∧BRow w' g (fldB k s)∧w1.grownBy w' (some g):=fun g cap w1 h=>by
  have:=turnF_any k g cap (bytesOf s) w1 h (by omega) (by rw[hb,hs];exact h5);rw[hb,hs] at this;exact this
 have HF:=fun w1=>lfraction_any k hk w1
 have hl:(fldB k s).length=szN k:=by rw[fldB,turnB_len,hb,hs]
 have hm:=turnB_small k _ (bytesOf_small s);have HE:=fun args W=>turnF_enter k args W
 unfold fldN fldE fldF
 rcases eight hk with rfl|rfl|rfl|rfl|rfl|rfl|rfl|rfl
 all_goals exact cread_W _ _ _ _ _ _ _ _ _ _ s _ w hs hl hm h1 h2 h3 h4 HT HF HE
theorem fldE_lt {k:Nat} (s:ByteArray):fldE k s<2^exN k:=bitsV_lt _ _ _
theorem fldE_small {k:Nat} (hk:1≤k∧k≤8) (s:ByteArray):fldE k s<65536:=by
 have h1:=fldE_lt (k:=k) s;have h2:(2:Nat)^exN k≤2^15:=Nat.pow_le_pow_right (by omega) (sizes_fit hk).2.1;omega
theorem fldF_lt {k:Nat} (s:ByteArray):fldF k s<2^frN k:=bitsV_lt _ _ _
theorem fldF_small {k:Nat} (hk:1≤k∧k≤8) (s:ByteArray):fldF k s<18446744073709551616:=by
 have h1:=fldF_lt (k:=k) s;have h2:(2:Nat)^frN k≤2^64:=Nat.pow_le_pow_right (by omega) (sizes_fit hk).2.2.2.1;omega
end Go.Proofs.YtnhackdjplppjaaGreatDoor
namespace Go.Proofs.YtnhackdjplppjaaGreatDoor
open Go.RowKit
theorem word_digits (x:Nat):Dg.vl 4294967296 [x % 4294967296,x/4294967296]=x:=by
 simp only[Dg.vl];omega
set_option maxHeartbeats 1600000 in
theorem fromWord_any (x:Nat) (hx:x<18446744073709551616) (w:World):
  Calls Tryz.prog 152 #[.int .u64 (x:Int)] w fun z w'=> ∃v,z= .returned v∧Own w' w.heap.size 141 .u32 v (Dg.dg 4294967296 x)∧Below w.heap.size w w':=by
 have hlo:(x:Int) % 4294967296=((x % 4294967296:Nat):Int):=by omega
 have hhi:(x:Int)/4294967296=((x/4294967296:Nat):Int):=by omega
 have hx2:x/4294967296<4294967296:=by omega
 have hx1:x % 4294967296<4294967296:=Nat.mod_lt _ (by omega);have hd:=word_digits x;obtain⟨lo,elo⟩: ∃n,x % 4294967296=n:=⟨_,rfl⟩;obtain⟨hi,ehi⟩: ∃n,x/4294967296=n:=⟨_,rfl⟩;rw[elo] at hlo hd hx1;rw[ehi] at hhi hd hx2;have own:Own (w.alloc (.cells #[.int .u32 (lo:Int),.int .u32 (hi:Int)] 141)) w.heap.size 141 .u32 (.slice (some ⟨w.heap.size,0,none⟩) 2 2) [lo,hi]:=
  own_of_heap (zs:=[lo,hi]) (heap_alloc_new _ _) (Nat.le_refl _) (by unfold maxLen;simp)
 have htr:=trim_any (some ⟨w.heap.size,0,none⟩) 2 2 [lo,hi] _ own.rd;have hsm:Dg.Small 4294967296 [lo,hi]:=by
  intro i
  match i with
  |0=>exact hx1
  |1=>exact hx2
  |i+2=>simp
 have b0:=below_alloc w (.cells #[.int .u32 (lo:Int),.int .u32 (hi:Int)] 141);have HH:Hid (_∧_):=⟨hd,hsm⟩;have hxI:(x:Int)<18446744073709551616:=by omega
 clear elo ehi hd hsm
 go_enter Tryz.func152,Tryz.ntmps152
 go_wp2_with fail
 refine htr.mono ?_;rintro z w1 ⟨n,rfl,ht,rfl⟩
 go_wp2
 go_ret
 obtain⟨hd,hsm⟩:=HH.out;refine⟨_,rfl, ?_,b0⟩;have:=Dg.trim_eq 4294967296 (by omega) [lo,hi] n hsm ht.1 ht.2.1 ht.2.2;rw[hd] at this;rw[←this];exact own.take n ht.1
end Go.Proofs.YtnhackdjplppjaaGreatDoor
