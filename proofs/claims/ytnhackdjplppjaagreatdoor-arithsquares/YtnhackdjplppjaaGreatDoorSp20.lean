/-
  Texts laid together: Ce2, Ef1, Cr3, Co10, Co19, Ce3, Ce4.
-/
import Derived.Deep.RegionWith
import Derived.Laws.OwnMore
import Derived.Deep.AppendLies
import Derived.Deep.CutBlock
import Derived.Test.YtnhackdjplppjaaGreatDoorSp19
set_option maxRecDepth 100000
namespace Go.Proofs.YtnhackdjplppjaaGreatDoor
open Go.RowKit
theorem OwnB.store {w:World} {base g n cap:Nat} {bs:List Bool} (h:OwnB w base (.slice (some ⟨g,0,none⟩) n cap) bs) (hn:n=bs.length) (j:Nat) (x:Bool):
  OwnB (w.setCell ⟨g,j,none⟩ (.bool x)) base (.slice (some ⟨g,0,none⟩) n cap) (bs.set j x):=by
 subst hn;have:=(World.ownsRow.stored h j (.bool x)).1;unfold OwnB;rw[List.length_set,List.map_set];exact this
theorem OwnB.free {w:World} {base g n cap:Nat} {bs:List Bool} (h:OwnB w base (.slice (some ⟨g,0,none⟩) n cap) bs) (hn:n=bs.length) (j:Nat):w.frozen? ⟨g,j,none⟩=false:=by
 subst hn;exact World.ownsRow.frozenAt h j
theorem OwnB.block {w:World} {base g n cap:Nat} {bs:List Bool} (h:OwnB w base (.slice (some ⟨g,0,none⟩) n cap) bs) (hn:n=bs.length):base≤g∧g<w.heap.size:=by
 subst hn;exact World.ownsRow.lt h g rfl
theorem OwnB.cell {w:World} {base g n cap:Nat} {bs:List Bool} (h:OwnB w base (.slice (some ⟨g,0,none⟩) n cap) bs) (hn:n=bs.length) (j:Nat) (hj:j<bs.length):w.cell? ⟨g,j,none⟩=some (.bool (bs.getD j false)):=by
 subst hn;have hc:=World.ownsRow.cellAt h j (by omega);rw[hc,List.getElem?_map,List.getElem?_eq_getElem hj];simp[List.getD_eq_getElem?_getD,hj]
end Go.Proofs.YtnhackdjplppjaaGreatDoor
namespace Go.Proofs.YtnhackdjplppjaaGreatDoor
open Go.RowKit
theorem step_run_append {P:Program} {ops:Array Oper} {o:Oper} {a:Act} {w:World} {K:Act→World→Prop} {Q:Exit→Act→World→Prop} {E:Prop}
  (hg:o.guard=none) (s x:Operand) (t:TypeId) (hop:o.op=Op.call {callee:=Callee.builtin Builtin.append,args:= #[s,x],argTypes:= #[t,t]})
  (v u v':Value) (w':World) (hs:a.eval s=v) (hx:a.eval x=u) (hr:(Builtin.append_ #[t,t] o.type #[v,u]).run P w= .ok v' w') (hK:K (a.put o.dst v') w'):
  if Region.wanted o (yielded ops a.tmps)=true then Oper.wp P o a w K Q else E:=by
 have hw:Region.wanted o (yielded ops a.tmps)=true:=by simp[Region.wanted,hg]
 rw[if_pos hw];unfold Oper.wp;simp[execOp,hop,resolve,invoke,builtin,hs,hx,hr,Result.andThen];exact hK
end Go.Proofs.YtnhackdjplppjaaGreatDoor
namespace Go.Proofs.YtnhackdjplppjaaGreatDoor
open Go.RowKit
def valB (bf:Nat→Bool):Nat→Nat
 |0=>0
 |n+1=>valB bf n*2+if bf n then 1 else 0
theorem valB_lt (bf:Nat→Bool): ∀n,valB bf n<2^n
 |0=>by simp[valB]
 |n+1=>by
  have:=valB_lt bf n;rw[valB,Nat.pow_succ]
  split<;>omega
end Go.Proofs.YtnhackdjplppjaaGreatDoor
namespace Go.Proofs.YtnhackdjplppjaaGreatDoor
open Go.RowKit
def setB (f:Nat):Nat→Nat→List Nat→List Nat
 |0,_,zs=>zs
 |c+1,x,zs=>setB f c (x/2) (zs.set ((f+c)/8) (zs.getD ((f+c)/8) 0|||x % 2*2^ (7-(f+c) % 8)))
theorem bit_at_lt (x r:Nat):x % 2*2^ (7-r)<256:=by
 have h1:(2:Nat)^ (7-r)≤2^7:=Nat.pow_le_pow_right (by omega) (by omega);have h2:=Nat.mod_lt x (show 0<2 by omega)
 have h3:x % 2*2^ (7-r)≤1*2^7:=Nat.mul_le_mul (by omega) h1;omega
theorem set_small {B:Nat} {zs:List Nat} (h:Dg.Small B zs) (i x:Nat) (hx:x<B):Dg.Small B (zs.set i x):=by
 intro k
 by_cases hk:i<zs.length
 ·rw[Dg.getD_set _ _ _ _ hk]
  by_cases e:i=k
  ·rw[if_pos e];exact hx
  ·rw[if_neg e];exact h k
 ·rw[List.set_eq_of_length_le (by omega)]
  exact h k
theorem bit_put (b y r:Nat) (hb:b<256) (hy:y<18446744073709551616):bits .or .u8 (b:Int) (bits .and .u64 (y:Int) 1 % 256*2^ (7-r) % 256)=((b|||y % 2*2^ (7-r):Nat):Int):=by
 have e2:=u64_and_nat y 1 hy (by omega);rw[Nat.and_one_is_mod] at e2;have h2:=Nat.mod_lt y (show 0<2 by omega)
 have h3:=bit_at_lt y r;have e3:(((y % 2:Nat):Int) % 256*2^ (7-r))=((y % 2*2^ (7-r):Nat):Int):=by
  rw[show((y % 2:Nat):Int) % 256=((y % 2:Nat):Int) from by omega]
  push_cast
  rfl
 rw[show(1:Int)=((1:Nat):Int) from rfl,e2,e3,show((y % 2*2^ (7-r):Nat):Int) % 256=((y % 2*2^ (7-r):Nat):Int) from by omega]
 exact u8_or_nat _ _ hb h3
set_option maxHeartbeats 3200000 in
theorem csetBits_any (g cap:Nat) (zs:List Nat) (f c x:Nat) (w:World) (hr:BRow w g zs) (hs:Dg.Small 256 zs) (hx:x<18446744073709551616) (hfc:f+c≤8*zs.length) (hl:zs.length≤1000):
  Calls Tryz.prog 207 #[.slice (some ⟨g,0,none⟩) zs.length cap,yi f,yi c,.int .u64 x] w fun e w'=>e= .returned (.tuple #[])∧BRow w' g (setB f c x zs)∧w.grownBy w' (some g):=by
 go_enter Tryz.func207,Tryz.ntmps207
 go_wp2
 go_loopw [3,8] (fun xv iv wr=> ∃(j y:Nat) (cur:List Nat),j≤c∧iv=yi ((f:Int)+j-1)∧xv= .int .u64 (y:Int)∧y<18446744073709551616∧BRow wr g cur∧Dg.Small 256 cur∧Hid (cur.length=zs.length)∧Hid (setB f j y cur=setB f c x zs)∧w.grownBy wr (some g))
  (fun _ iv _=>(intOf iv+1).toNat)
 case atStart=>exact⟨c,x,zs,Nat.le_refl _,by go_num,rfl,hx,hr,hs,rfl,rfl,grown_refl _ _⟩
 case round=>
  obtain⟨j,y,cur,hj,rfl,rfl,hy,own,hsm,Hl,Hx,gr⟩:=hrel;have hlen:=Hl.out
  by_cases hj0:0<j
  ·obtain⟨j',rfl⟩: ∃j',j=j'+1:=⟨j-1,by omega⟩
   obtain⟨i,hi⟩: ∃i,f+j'=i:=⟨_,rfl⟩;have hiI:(f:Int)+((j'+1:Nat):Int)-1=(i:Int):=by omega
   rw[hiI];obtain⟨q,hq⟩: ∃q,i/8=q:=⟨_,rfl⟩;obtain⟨r,hr'⟩: ∃r,i % 8=r:=⟨_,rfl⟩;have hqI:(i:Int)/8=(q:Int):=by omega
   have hrI:(i:Int) % 8=(r:Int):=by omega
   have hcell:=own.cell q (by omega);have hfree:=own.free q (by omega);have hs1:=hsm q;obtain⟨b,hb⟩: ∃b,cur.getD q 0=b:=⟨_,rfl⟩;rw[hb] at hcell hs1;have hql:q<zs.length:=by omega
   have hr8:r<8:=by omega
   have HH:Hid (_∧_∧_∧_):=⟨hi,hq,hr',hb⟩;have hic:(f:Int)≤(i:Int):=by omega
   have hib:(i:Int)≤8000:=by omega
   clear hi hq hr' hb hlen hiI
   go_wp2
   go_region
   all_goals go_wp2
   all_goals go_roundw
   case rel=>
    obtain⟨hi,hq,hr',hb⟩:=HH.out;have hbl:b|||y % 2*2^ (7-r)<256:=Nat.or_lt_two_pow (n:=8) hs1 (bit_at_lt y r)
    refine⟨j',y/2,cur.set q (b|||y % 2*2^ (7-r)),by omega,by congr 1;omega,rfl,by omega, ?_,set_small hsm _ _ hbl, ?_, ?_,grown_trans gr (grown_trans (grown_set _ _ _ _) (grown_drew _ _))⟩
    ·rw[bit_put b y r hs1 hy]
     exact(own.store q _).drew
    ·show _=_
     rw[List.length_set];exact Hl.out
    ·show _=_
     have:=Hx.out;rw[setB,hi,hq,hr',hb] at this;exact this
   case measure=>simp only[intOf];omega
  ·have hd: ¬((f:Int)≤(f:Int)+(j:Int)-1):=by omega
   have h0:Hid (j=0):=(by omega:j=0);clear hlen
   go_wp2
   go_end0
   have h1:=h0.out;subst h1;have:=Hx.out;rw[setB] at this;rw[←this];exact⟨rfl,own,gr⟩
end Go.Proofs.YtnhackdjplppjaaGreatDoor
namespace Go.Proofs.YtnhackdjplppjaaGreatDoor
open Go.RowKit
theorem setB_len (f:Nat): ∀(c x:Nat) (zs:List Nat),(setB f c x zs).length=zs.length
 |0,_,_=>rfl
 |c+1,x,zs=>by rw[setB,setB_len f c];exact List.length_set
theorem setB_small (f:Nat): ∀(c x:Nat) (zs:List Nat),Dg.Small 256 zs→Dg.Small 256 (setB f c x zs)
 |0,_,_,h=>h
 |c+1,x,zs,h=>by
  rw[setB];exact setB_small f c _ _ (set_small h _ _ (Nat.or_lt_two_pow (n:=8) (h _) (bit_at_lt _ _)))
theorem convert_brow {P:Program} {w:World} {e g cap:Nat} {zs:List Nat} (src dst:TypeId) (hs:P.underlying src=some (.slice e)) (he:P.underlying e=some (.int .u8)) (hd:P.underlying dst=some .string)
  (h:BRow w g zs):(convert src dst (.slice (some ⟨g,0,none⟩) zs.length cap)).run P w= .ok (.string (strOf zs)) w:=by
 rw[run_convert_bytes_string w src dst e _ _ _ hs he hd];have hl:=run_loadCells_list (P:=P) w ⟨g,0,none⟩ (zs.map (fun n:Nat=>Value.int .u8 (n:Int))) (by
  intro j u hj;have hjl:j<zs.length:=by have:=(List.getElem?_eq_some_iff.1 hj).1;simpa using this
  rw[getD_map_cell _ zs j hjl] at hj;rw[addr_add,Nat.zero_add,h.cell j hjl];exact hj)
 rw[List.length_map] at hl;have:=run_bytesToString (P:=P) w ⟨g,0,none⟩ zs.length cap (zs.map (fun n:Nat=>(n:Int))) (by
  rw[hl];simp)
 rw[this,fold_push];simp[strOf]
set_option maxHeartbeats 6400000 in
theorem cwrite_true (R D L G fam:Int) (gr:Bool) (sz ex fr:Nat) (F:Nat) (e f:Nat) (ts:List Nat) (w:World) (hfr:1+ex+fr=8*sz) (hex:ex≤15) (hsz:sz≤10) (he:e<65536) (hf:f<18446744073709551616) (hts:ts.length=sz)
  (HT: ∀g cap w1,BRow w1 g (setB (1+ex) fr f (setB 1 ex e (setB 0 1 1 (List.replicate sz 0))))→Calls Tryz.prog F #[.slice (some ⟨g,0,none⟩) sz cap] w1 fun z w'=>z= .returned (.tuple #[])∧BRow w' g ts∧w1.grownBy w' (some g))
  (HFR: ∀w1,Calls Tryz.prog 197 #[ylV R D L G gr (sz:Int) (ex:Int) fam F] w1 fun z w'=>z= .returned (yi (fr:Int))∧Below w1.heap.size w1 w')
  (HE: ∀args W,Sem.run Tryz.prog (callFunc F args) W= .ok (.enter F args) W):
  Calls Tryz.prog 158 #[ylV R D L G gr (sz:Int) (ex:Int) fam F,yfV true (e:Int) (f:Int)] w fun z w'=>z= .returned (.string (strOf ts))∧Below w.heap.size w w':=by
 have hsf:=hsf_z;have l0:=(locE_new w (ylL R D L G gr (sz:Int) (ex:Int) fam F) 144).later (below_alloc _ (.cells (yfL true (e:Int) (f:Int)).toArray 147));have m0:=locE_new (w.alloc (.cells (ylL R D L G gr (sz:Int) (ex:Int) fam F).toArray 144)) (yfL true (e:Int) (f:Int)) 147;have b0:=below_trans (below_alloc w (.cells (ylL R D L G gr (sz:Int) (ex:Int) fam F).toArray 144)) (below_alloc _ (.cells (yfL true (e:Int) (f:Int)).toArray 147));rw[World.size_alloc] at m0;have H2:((w.alloc (.cells (ylL R D L G gr (sz:Int) (ex:Int) fam F).toArray 144)).alloc (.cells (yfL true (e:Int) (f:Int)).toArray 147)).heap.size=w.heap.size+2:=by rw[World.size_alloc,World.size_alloc]
 obtain⟨i0,hi,hz0,hz1,hz2⟩:=info_parts Tryz.infoU8;have HT':Hid _:=HT;have HFR':Hid _:=HFR;clear HT HFR;obtain⟨x0,x1,x2,x3,x4,x5,x6,x7,x8⟩:=l0.cs9;obtain⟨u0,u1,u2⟩:=m0.cs3
 go_enter Tryz.func158,Tryz.ntmps158
 go_wp2_with (at_make;refine wpList_make_full _ rfl _ _ 110 rfl (w.heap.size+2) 5 i0 (.int .u8 0) 1 Tryz.underlying110 hi hz0 hz1 _ _ _ _ sz rfl rfl (by omega) (by omega) ?b2 ?b3 (Nat.le_of_eq H2.symm) ?_)
 case b2=>rw[hz2];omega
 case b3=>unfold maxLen;omega
 intro w1 hown hgrow;have r1:=own_brow (own_made hown);have bg:=(Below.refl _ _).grown hgrow (Nat.le_refl _) (fun k h=>by cases h)
 have l1:=l0.later bg;have m1:=m0.later bg;have b1:=below_trans b0 bg;clear hown hgrow bg l0 m0 b0 hi hz0 hz1 hz2 H2 x0 x1 x2 x3 x4 x5 x6 x7 x8 u0 u1 u2;obtain⟨g,hg⟩: ∃g,w.heap.size+2=g:=⟨_,rfl⟩;have hg0:w.heap.size≠g:=by omega
 have hg1:w.heap.size+1≠g:=by omega
 have hgl:w.heap.size≤g:=by omega
 rw[hg] at r1⊢;clear hg;have HSB:Hid (∀(c a b:Nat) (zs:List Nat) w1,BRow w1 g zs→zs.length=sz→Dg.Small 256 zs→a+b≤8*sz→c<18446744073709551616→Calls Tryz.prog 207 #[.slice (some ⟨g,0,none⟩) sz sz,yi (a:Int),yi (b:Int),.int .u64 (c:Int)] w1 fun z w'=>z= .returned (.tuple #[])∧BRow w' g (setB a b c zs)∧w1.grownBy w' (some g)):=fun c a b zs w1 h hz hm hab hc=>by
  have:=csetBits_any g sz zs a b c w1 h hm hc (by omega) (by omega);rw[hz] at this;exact this
 have sm0:Dg.Small 256 (List.replicate sz 0):=by
  intro i
  by_cases hi:i<sz
  ·simp[List.getD_eq_getElem?_getD,hi]
  ·simp[List.getD_eq_getElem?_getD,hi]
 have ln0:(List.replicate sz 0).length=sz:=List.length_replicate;have hwe:IntKind.u64.wrap (e:Int)=(e:Int):=IntWalk.u64_in _ ⟨by omega,by omega⟩;have hwr:IntKind.i64.wrap (1+(ex:Int))=1+(ex:Int):=IntWalk.i64_in _ ⟨by omega,by omega⟩;have HN:Hid _:=hfr;have ln1:(setB 0 1 1 (List.replicate sz 0)).length=sz:=by rw[setB_len];exact ln0
 have sm1:Dg.Small 256 (setB 0 1 1 (List.replicate sz 0)):=setB_small _ _ _ _ sm0;have hs0:=HSB.out 1 0 1 (List.replicate sz 0) _ r1 ln0 sm0 (by omega) (by omega);have HS0:Hid _:=hs0;clear hs0;obtain⟨x0,x1,x2,x3,x4,x5,x6,x7,x8⟩:=l1.cs9;obtain⟨u0,u1,u2⟩:=m1.cs3
 go_wp2_with fail
 refine Calls.mono HS0.out ?_;rintro z w2 ⟨rfl,r2,g2⟩;have l2:=l1.grown g2 hg0;have m2:=m1.grown g2 hg1;have b2:=b1.grown g2 b1.size (fun k h=>by cases h;exact hgl)
 clear x0 x1 x2 x3 x4 x5 x6 x7 x8 u0 u1 u2 l1 m1 b1 g2 HS0 r1;obtain⟨z2,hz2⟩: ∃z,setB 1 ex e (setB 0 1 1 (List.replicate sz 0))=z:=⟨_,rfl⟩;obtain⟨z3,hz3⟩: ∃z,setB (1+ex) fr f z2=z:=⟨_,rfl⟩;have ln2:z2.length=sz:=by rw[←hz2,setB_len];exact ln1
 have sm2:Dg.Small 256 z2:=by rw[←hz2];exact setB_small _ _ _ _ sm1
 have hs1:=HSB.out e 1 ex (setB 0 1 1 (List.replicate sz 0)) _ r2 ln1 sm1 (by omega) (by omega);have HS3:Hid (∀w1,BRow w1 g z2→Calls Tryz.prog 207 #[.slice (some ⟨g,0,none⟩) sz sz,yi (1+(ex:Int)),yi (fr:Int),.int .u64 (f:Int)] w1 fun z w'=>z= .returned (.tuple #[])∧BRow w' g z3∧w1.grownBy w' (some g)):=fun w1 h=>by
  have:=HSB.out f (1+ex) fr z2 w1 h ln2 sm2 (by omega) hf;rw[hz3,show(((1+ex:Nat):Nat):Int)=1+(ex:Int) from by omega] at this
  exact this
 rw[hz2,hz3] at HT';rw[hz2] at hs1;have HS1:Hid _:=hs1;clear hs1 hz2 hz3 sm2 ln2 sm0 ln0 HSB hfr ln1 sm1;obtain⟨x0,x1,x2,x3,x4,x5,x6,x7,x8⟩:=l2.cs9;obtain⟨u0,u1,u2⟩:=m2.cs3
 go_wp2_with fail
 refine Calls.mono HS1.out ?_;rintro z w3 ⟨rfl,r3,g3⟩;have l3:=(l2.grown g3 hg0).drew;have m3:=(m2.grown g3 hg1).drew;have b3:=(b2.grown g3 b2.size (fun k h=>by cases h;exact hgl)).drew
 have r3d:=r3.drew;clear x0 x1 x2 x3 x4 x5 x6 x7 x8 u0 u1 u2 l2 m2 b2 g3 HS1 r3 r2;obtain⟨x0,x1,x2,x3,x4,x5,x6,x7,x8⟩:=l3.cs9;obtain⟨u0,u1,u2⟩:=m3.cs3
 go_wp2_with fail
 go_region_held3 (fun wq=>(wq.cell? ⟨w.heap.size,0,none⟩=some (yi (R:Int))∧wq.cell? ⟨w.heap.size,1,none⟩=some (yi D)∧wq.cell? ⟨w.heap.size,2,none⟩=some (yi L)∧wq.cell? ⟨w.heap.size,3,none⟩=some (yi G)∧wq.cell? ⟨w.heap.size,4,none⟩=some (.bool gr)∧wq.cell? ⟨w.heap.size,5,none⟩=some (yi (sz:Int))∧wq.cell? ⟨w.heap.size,6,none⟩=some (yi (ex:Int))∧wq.cell? ⟨w.heap.size,7,none⟩=some (yi fam)∧wq.cell? ⟨w.heap.size,8,none⟩=some (.func (.func F) #[] #[]))∧(wq.cell? ⟨w.heap.size+1,0,none⟩=some (.bool true)∧wq.cell? ⟨w.heap.size+1,1,none⟩=some (yi (e:Int))∧wq.cell? ⟨w.heap.size+1,2,none⟩=some (.int .u64 (f:Int)))) (go_keep) (first
  | (go_at_call 197;refine(HFR'.out _).mono ?_;rintro z w4 ⟨rfl,b4⟩;have l4:=l3.later b4;have m4:=m3.later b4;have b04:=below_trans b3 b4;have r4:=r3d.later b4;obtain⟨y0,y1,y2,y3,y4,y5,y6,y7,y8⟩:=l4.cs9;obtain⟨v0,v1,v2⟩:=m4.cs3)
  | (go_at_call 207;refine(HS3.out _ r4).mono ?_;rintro z w5 ⟨rfl,r5,g5⟩;have l5:=l4.grown g5 hg0;have m5:=m4.grown g5 hg1;have b05:=b04.grown g5 b04.size (fun k h=>by cases h;exact hgl);obtain⟨t0,t1,t2,t3,t4,t5,t6,t7,t8⟩:=l5.cs9;obtain⟨s0,s1,s2⟩:=m5.cs3))
 go_wp2_with fail
 refine(HT'.out _ _ _ r5).mono ?_;rintro z w6 ⟨rfl,r6,g6⟩;have b06:=b05.grown g6 b05.size (fun k h=>by cases h;exact hgl)
 have hcv:=convert_brow (cap:=sz) 110 9 Tryz.underlying110 Tryz.underlying5 Tryz.underlying9 r6;rw[hts] at hcv
 go_wp2
 go_ret
 exact⟨rfl,b06⟩
set_option maxHeartbeats 6400000 in
theorem cwrite_false (R D L G fam:Int) (gr:Bool) (sz ex fr:Nat) (F:Nat) (e f:Nat) (ts:List Nat) (w:World) (hfr:1+ex+fr=8*sz) (hex:ex≤15) (hsz:sz≤10) (he:e<65536) (hf:f<18446744073709551616) (hts:ts.length=sz)
  (HT: ∀g cap w1,BRow w1 g (setB (1+ex) fr f (setB 1 ex e (List.replicate sz 0)))→Calls Tryz.prog F #[.slice (some ⟨g,0,none⟩) sz cap] w1 fun z w'=>z= .returned (.tuple #[])∧BRow w' g ts∧w1.grownBy w' (some g))
  (HFR: ∀w1,Calls Tryz.prog 197 #[ylV R D L G gr (sz:Int) (ex:Int) fam F] w1 fun z w'=>z= .returned (yi (fr:Int))∧Below w1.heap.size w1 w')
  (HE: ∀args W,Sem.run Tryz.prog (callFunc F args) W= .ok (.enter F args) W):
  Calls Tryz.prog 158 #[ylV R D L G gr (sz:Int) (ex:Int) fam F,yfV false (e:Int) (f:Int)] w fun z w'=>z= .returned (.string (strOf ts))∧Below w.heap.size w w':=by
 have hsf:=hsf_z;have l0:=(locE_new w (ylL R D L G gr (sz:Int) (ex:Int) fam F) 144).later (below_alloc _ (.cells (yfL false (e:Int) (f:Int)).toArray 147));have m0:=locE_new (w.alloc (.cells (ylL R D L G gr (sz:Int) (ex:Int) fam F).toArray 144)) (yfL false (e:Int) (f:Int)) 147;have b0:=below_trans (below_alloc w (.cells (ylL R D L G gr (sz:Int) (ex:Int) fam F).toArray 144)) (below_alloc _ (.cells (yfL false (e:Int) (f:Int)).toArray 147));rw[World.size_alloc] at m0;have H2:((w.alloc (.cells (ylL R D L G gr (sz:Int) (ex:Int) fam F).toArray 144)).alloc (.cells (yfL false (e:Int) (f:Int)).toArray 147)).heap.size=w.heap.size+2:=by rw[World.size_alloc,World.size_alloc]
 obtain⟨i0,hi,hz0,hz1,hz2⟩:=info_parts Tryz.infoU8;have HT':Hid _:=HT;have HFR':Hid _:=HFR;clear HT HFR;obtain⟨x0,x1,x2,x3,x4,x5,x6,x7,x8⟩:=l0.cs9;obtain⟨u0,u1,u2⟩:=m0.cs3
 go_enter Tryz.func158,Tryz.ntmps158
 go_wp2_with (at_make;refine wpList_make_full _ rfl _ _ 110 rfl (w.heap.size+2) 5 i0 (.int .u8 0) 1 Tryz.underlying110 hi hz0 hz1 _ _ _ _ sz rfl rfl (by omega) (by omega) ?b2 ?b3 (Nat.le_of_eq H2.symm) ?_)
 case b2=>rw[hz2];omega
 case b3=>unfold maxLen;omega
 intro w1 hown hgrow;have r1:=own_brow (own_made hown);have bg:=(Below.refl _ _).grown hgrow (Nat.le_refl _) (fun k h=>by cases h)
 have l1:=l0.later bg;have m1:=m0.later bg;have b1:=below_trans b0 bg;clear hown hgrow bg l0 m0 b0 hi hz0 hz1 hz2 H2 x0 x1 x2 x3 x4 x5 x6 x7 x8 u0 u1 u2;obtain⟨g,hg⟩: ∃g,w.heap.size+2=g:=⟨_,rfl⟩;have hg0:w.heap.size≠g:=by omega
 have hg1:w.heap.size+1≠g:=by omega
 have hgl:w.heap.size≤g:=by omega
 rw[hg] at r1⊢;clear hg;have HSB:Hid (∀(c a b:Nat) (zs:List Nat) w1,BRow w1 g zs→zs.length=sz→Dg.Small 256 zs→a+b≤8*sz→c<18446744073709551616→Calls Tryz.prog 207 #[.slice (some ⟨g,0,none⟩) sz sz,yi (a:Int),yi (b:Int),.int .u64 (c:Int)] w1 fun z w'=>z= .returned (.tuple #[])∧BRow w' g (setB a b c zs)∧w1.grownBy w' (some g)):=fun c a b zs w1 h hz hm hab hc=>by
  have:=csetBits_any g sz zs a b c w1 h hm hc (by omega) (by omega);rw[hz] at this;exact this
 have sm0:Dg.Small 256 (List.replicate sz 0):=by
  intro i
  by_cases hi:i<sz
  ·simp[List.getD_eq_getElem?_getD,hi]
  ·simp[List.getD_eq_getElem?_getD,hi]
 have ln0:(List.replicate sz 0).length=sz:=List.length_replicate;have hwe:IntKind.u64.wrap (e:Int)=(e:Int):=IntWalk.u64_in _ ⟨by omega,by omega⟩;have hwr:IntKind.i64.wrap (1+(ex:Int))=1+(ex:Int):=IntWalk.i64_in _ ⟨by omega,by omega⟩;have HN:Hid _:=hfr;obtain⟨z2,hz2⟩: ∃z,setB 1 ex e (List.replicate sz 0)=z:=⟨_,rfl⟩;obtain⟨z3,hz3⟩: ∃z,setB (1+ex) fr f z2=z:=⟨_,rfl⟩;have ln2:z2.length=sz:=by rw[←hz2,setB_len];exact ln0
 have sm2:Dg.Small 256 z2:=by rw[←hz2];exact setB_small _ _ _ _ sm0
 have hs1:=HSB.out e 1 ex (List.replicate sz 0) _ r1 ln0 sm0 (by omega) (by omega);have HS3:Hid (∀w1,BRow w1 g z2→Calls Tryz.prog 207 #[.slice (some ⟨g,0,none⟩) sz sz,yi (1+(ex:Int)),yi (fr:Int),.int .u64 (f:Int)] w1 fun z w'=>z= .returned (.tuple #[])∧BRow w' g z3∧w1.grownBy w' (some g)):=fun w1 h=>by
  have:=HSB.out f (1+ex) fr z2 w1 h ln2 sm2 (by omega) hf;rw[hz3,show(((1+ex:Nat):Nat):Int)=1+(ex:Int) from by omega] at this
  exact this
 rw[hz2,hz3] at HT';rw[hz2] at hs1;have HS1:Hid _:=hs1;clear hs1 hz2 hz3 sm2 ln2 sm0 ln0 HSB hfr;obtain⟨x0,x1,x2,x3,x4,x5,x6,x7,x8⟩:=l1.cs9;obtain⟨u0,u1,u2⟩:=m1.cs3
 go_wp2_with fail
 refine Calls.mono HS1.out ?_;rintro z w3 ⟨rfl,r3,g3⟩;have l3:=(l1.grown g3 hg0).drew;have m3:=(m1.grown g3 hg1).drew;have b3:=(b1.grown g3 b1.size (fun k h=>by cases h;exact hgl)).drew
 have r3d:=r3.drew;clear x0 x1 x2 x3 x4 x5 x6 x7 x8 u0 u1 u2 l1 m1 b1 g3 HS1 r3 r1;obtain⟨x0,x1,x2,x3,x4,x5,x6,x7,x8⟩:=l3.cs9;obtain⟨u0,u1,u2⟩:=m3.cs3
 go_wp2_with fail
 go_region_held3 (fun wq=>(wq.cell? ⟨w.heap.size,0,none⟩=some (yi (R:Int))∧wq.cell? ⟨w.heap.size,1,none⟩=some (yi D)∧wq.cell? ⟨w.heap.size,2,none⟩=some (yi L)∧wq.cell? ⟨w.heap.size,3,none⟩=some (yi G)∧wq.cell? ⟨w.heap.size,4,none⟩=some (.bool gr)∧wq.cell? ⟨w.heap.size,5,none⟩=some (yi (sz:Int))∧wq.cell? ⟨w.heap.size,6,none⟩=some (yi (ex:Int))∧wq.cell? ⟨w.heap.size,7,none⟩=some (yi fam)∧wq.cell? ⟨w.heap.size,8,none⟩=some (.func (.func F) #[] #[]))∧(wq.cell? ⟨w.heap.size+1,0,none⟩=some (.bool false)∧wq.cell? ⟨w.heap.size+1,1,none⟩=some (yi (e:Int))∧wq.cell? ⟨w.heap.size+1,2,none⟩=some (.int .u64 (f:Int)))) (go_keep) (first
  | (go_at_call 197;refine(HFR'.out _).mono ?_;rintro z w4 ⟨rfl,b4⟩;have l4:=l3.later b4;have m4:=m3.later b4;have b04:=below_trans b3 b4;have r4:=r3d.later b4;obtain⟨y0,y1,y2,y3,y4,y5,y6,y7,y8⟩:=l4.cs9;obtain⟨v0,v1,v2⟩:=m4.cs3)
  | (go_at_call 207;refine(HS3.out _ r4).mono ?_;rintro z w5 ⟨rfl,r5,g5⟩;have l5:=l4.grown g5 hg0;have m5:=m4.grown g5 hg1;have b05:=b04.grown g5 b04.size (fun k h=>by cases h;exact hgl);obtain⟨t0,t1,t2,t3,t4,t5,t6,t7,t8⟩:=l5.cs9;obtain⟨s0,s1,s2⟩:=m5.cs3))
 go_wp2_with fail
 refine(HT'.out _ _ _ r5).mono ?_;rintro z w6 ⟨rfl,r6,g6⟩;have b06:=b05.grown g6 b05.size (fun k h=>by cases h;exact hgl)
 have hcv:=convert_brow (cap:=sz) 110 9 Tryz.underlying110 Tryz.underlying5 Tryz.underlying9 r6;rw[hts] at hcv
 go_wp2
 go_ret
 exact⟨rfl,b06⟩
def wrtB (k:Nat) (ng:Bool) (e f:Nat):List Nat:=turnB k (setB (1+exN k) (frN k) f (setB 1 (exN k) e (if ng then setB 0 1 1 (List.replicate (szN k) 0) else List.replicate (szN k) 0)))
theorem wrtB_len (k:Nat) (ng:Bool) (e f:Nat):(wrtB k ng e f).length=szN k:=by
 unfold wrtB;rw[turnB_len,setB_len,setB_len]
 split
 ·rw[setB_len,List.length_replicate]
 ·rw[List.length_replicate]
theorem cwrite_any (k:Nat) (hk:1≤k∧k≤8) (ng:Bool) (e f:Nat) (w:World) (he:e<65536) (hf:f<18446744073709551616):
  Calls Tryz.prog 158 #[.agg (layV k).toArray,yfV ng (e:Int) (f:Int)] w fun z w'=>z= .returned (.string (strOf (wrtB k ng e f)))∧Below w.heap.size w w':=by
 obtain⟨h1,h2,h3,h4,h5,-⟩:=sizes_fit hk;have hl:=wrtB_len k ng e f;have HF:=fun w1=>lfraction_any k hk w1
 have HE:=fun args W=>turnF_enter k args W
 have HT:=fun zs (hz:zs.length=szN k) g cap w1 h=>turnF_any k g cap zs w1 h (by omega) (by rw[hz];exact h5)
 cases ng
 ·have HT': ∀g cap w1,BRow w1 g (setB (1+exN k) (frN k) f (setB 1 (exN k) e (List.replicate (szN k) 0)))→Calls Tryz.prog (turnF k) #[.slice (some ⟨g,0,none⟩) (szN k) cap] w1 fun z w'=>z= .returned (.tuple #[])∧BRow w' g (wrtB k false e f)∧w1.grownBy w' (some g):=fun g cap w1 h=>by
   have hz:(setB (1+exN k) (frN k) f (setB 1 (exN k) e (List.replicate (szN k) 0))).length=szN k:=by rw[setB_len,setB_len,List.length_replicate]
   have:=HT _ hz g cap w1 h;rw[hz] at this;exact this
  rcases eight hk with rfl|rfl|rfl|rfl|rfl|rfl|rfl|rfl
  all_goals exact cwrite_false _ _ _ _ _ _ _ _ _ _ e f _ w h1 h2 h3 he hf hl HT' HF HE
 ·have HT': ∀g cap w1,BRow w1 g (setB (1+exN k) (frN k) f (setB 1 (exN k) e (setB 0 1 1 (List.replicate (szN k) 0))))→Calls Tryz.prog (turnF k) #[.slice (some ⟨g,0,none⟩) (szN k) cap] w1 fun z w'=>z= .returned (.tuple #[])∧BRow w' g (wrtB k true e f)∧w1.grownBy w' (some g):=fun g cap w1 h=>by
   have hz:(setB (1+exN k) (frN k) f (setB 1 (exN k) e (setB 0 1 1 (List.replicate (szN k) 0)))).length=szN k:=by rw[setB_len,setB_len,setB_len,List.length_replicate]
   have:=HT _ hz g cap w1 h;rw[hz] at this;exact this
  rcases eight hk with rfl|rfl|rfl|rfl|rfl|rfl|rfl|rfl
  all_goals exact cwrite_true _ _ _ _ _ _ _ _ _ _ e f _ w h1 h2 h3 he hf hl HT' HF HE
end Go.Proofs.YtnhackdjplppjaaGreatDoor
namespace Go.Proofs.YtnhackdjplppjaaGreatDoor
open Go.RowKit
def byL (bf:Nat→Bool) (n:Nat):List Nat:=(List.range n).map fun i=>valB (fun j=>bf (8*i+j)) 8
theorem byL_len (bf:Nat→Bool) (n:Nat):(byL bf n).length=n:=by simp[byL]
theorem byL_at (bf:Nat→Bool) (n i:Nat) (h:i<n):(byL bf n).getD i 0=valB (fun j=>bf (8*i+j)) 8:=by
 simp[byL,List.getD_eq_getElem?_getD,h]
theorem plN_twice {k i:Nat} (hk:1≤k∧k≤8) (hi:i<szN k):plN k (plN k i)=i:=by
 obtain⟨m,hm⟩:=(sizes_fit hk).2.2.2.2.1;unfold plN
 by_cases h3:k=3
 ·rw[if_pos h3,if_pos h3]
  omega
 ·rw[if_neg h3,if_neg h3]
  by_cases h6:6≤k
  ·rw[if_pos h6,if_pos h6]
   omega
  ·rw[if_neg h6,if_neg h6]
end Go.Proofs.YtnhackdjplppjaaGreatDoor
namespace Go.Proofs.YtnhackdjplppjaaGreatDoor
open Go.RowKit
theorem bitB_test (zs:List Nat) (i:Nat):bitB zs i=((zs.getD (i/8) 0).testBit (7-i % 8)).toNat:=by
 unfold bitB;rw[Nat.testBit_eq_decide_div_mod_eq];have h:=Nat.mod_lt (zs.getD (i/8) 0/2^ (7-i % 8)) (show 0<2 by omega)
 rcases(show zs.getD (i/8) 0/2^ (7-i % 8) % 2=0∨zs.getD (i/8) 0/2^ (7-i % 8) % 2=1 by omega) with e|e<;>rw[e]<;>rfl
theorem testBit_put (y b t u:Nat) (hb:b<2):(y|||b*2^t).testBit u=(y.testBit u||(decide (b=1)&&decide (t=u))):=by
 rw[Nat.testBit_or]
 rcases(show b=0∨b=1 by omega) with rfl|rfl
 ·simp
 ·rw[Nat.one_mul,Nat.testBit_two_pow]
  simp
theorem bitB_put (zs:List Nat) (p b i:Nat) (hb:b<2) (hp:p/8<zs.length):bitB (zs.set (p/8) (zs.getD (p/8) 0|||b*2^ (7-p % 8))) i=if i=p then(if b=1 then 1 else bitB zs i) else bitB zs i:=by
 rw[bitB_test,bitB_test,Dg.getD_set _ _ _ _ hp]
 by_cases h8:p/8=i/8
 ·rw[if_pos h8,testBit_put _ _ _ _ hb,h8]
  by_cases hi:i=p
  ·subst hi
   rw[if_pos rfl]
   rcases(show b=0∨b=1 by omega) with rfl|rfl
   ·simp
   ·simp
  ·rw[if_neg hi,decide_eq_false (show¬7-p % 8=7-i % 8 by omega)]
   simp
 ·rw[if_neg h8,if_neg (show¬i=p from fun e=>h8 (by rw[e]))]
theorem bitB_setB (f:Nat): ∀(c x:Nat) (zs:List Nat) (i:Nat),f+c≤8*zs.length→bitB (setB f c x zs) i=if f≤i∧i<f+c then(if x/2^ (f+c-1-i) % 2=1 then 1 else bitB zs i) else bitB zs i
 |0,x,zs,i,_=>by
  rw[setB,if_neg (by omega)]
 |c+1,x,zs,i,h=>by
  rw[setB,bitB_setB f c (x/2) _ i (by rw[List.length_set];omega),bitB_put _ _ _ _ (Nat.mod_lt _ (by omega)) (by omega)]
  by_cases h1:f≤i∧i<f+c
  ·rw[if_pos h1,if_pos (show f≤i∧i<f+(c+1) by omega),if_neg (show¬i=f+c by omega),Nat.div_div_eq_div_mul,←Nat.pow_succ',show(f+c-1-i).succ=f+(c+1)-1-i from by omega]
  ·rw[if_neg h1]
   by_cases h2:i=f+c
   ·rw[if_pos h2,if_pos (show f≤i∧i<f+(c+1) by omega),show f+(c+1)-1-i=0 from by omega,Nat.pow_zero,Nat.div_one]
   ·rw[if_neg h2,if_neg (show¬(f≤i∧i<f+(c+1)) by omega)]
theorem byte_bits (y:Nat) (h:y<256):valB (fun j=>decide (y/2^ (7-j) % 2=1)) 8=y:=by
 have e: ∀n,(if decide (n % 2=1)=true then 1 else 0)=n % 2:=fun n=>by
  rcases(show n % 2=0∨n % 2=1 by omega) with h|h<;>rw[h]<;>rfl
 simp only[valB,e];omega
theorem valB_congr {f g:Nat→Bool}: ∀n,(∀j,j<n→f j=g j)→valB f n=valB g n
 |0,_=>rfl
 |n+1,h=>by
  rw[valB,valB,valB_congr n (fun j hj=>h j (by omega)),h n (by omega)]
theorem bytes_bits (zs:List Nat) (hs:Dg.Small 256 zs):zs=byL (fun i=>decide (bitB zs i=1)) zs.length:=by
 apply List.ext_getElem (by rw[byL_len]);intro p hp1 hp2;have e1:zs.getD p 0=zs[p]:=by simp[List.getD_eq_getElem?_getD,hp1]
 have e2:(byL (fun i=>decide (bitB zs i=1)) zs.length).getD p 0=(byL (fun i=>decide (bitB zs i=1)) zs.length)[p]:=by simp only[List.getD_eq_getElem?_getD,List.getElem?_eq_getElem hp2,Option.getD_some]
 rw[←e1,←e2,byL_at _ _ _ hp1];refine(byte_bits (zs.getD p 0) (hs p)).symm.trans (valB_congr 8 (fun j hj=> ?_))
 unfold bitB;rw[show(8*p+j)/8=p from by omega,show(8*p+j) % 8=j from by omega]
theorem byL_congr {f g:Nat→Bool} (n:Nat) (h: ∀i,i<8*n→f i=g i):byL f n=byL g n:=by
 unfold byL;apply List.map_congr_left;intro i hi;have:=List.mem_range.1 hi;exact valB_congr 8 (fun j hj=>h _ (by omega))
theorem bitB_zeros (n i:Nat):bitB (List.replicate n 0) i=0:=by
 unfold bitB;have:(List.replicate n 0).getD (i/8) 0=0:=by
  by_cases h:i/8<n
  ·simp[List.getD_eq_getElem?_getD,h]
  ·simp[List.getD_eq_getElem?_getD,h]
 rw[this];simp
def patF (ex fr:Nat) (ng:Bool) (e f:Nat) (i:Nat):Bool:=
 if i=0 then ng else if i≤ex then decide (e/2^ (ex-i) % 2=1) else decide (f/2^ (ex+fr-i) % 2=1)
theorem wrtB_bits {k:Nat} (hk:1≤k∧k≤8) (ng:Bool) (e f:Nat):wrtB k ng e f=turnB k (byL (patF (exN k) (frN k) ng e f) (szN k)):=by
 obtain⟨h1,h2,h3,h4,-,h7⟩:=sizes_fit hk;unfold wrtB
 congr 1
 have sm0:Dg.Small 256 (List.replicate (szN k) 0):=by
  intro i
  by_cases hi:i<szN k
  ·simp[List.getD_eq_getElem?_getD,hi]
  ·simp[List.getD_eq_getElem?_getD,hi]
 have key: ∀zs:List Nat,zs.length=szN k→Dg.Small 256 zs→(∀i,bitB zs i=if i=0∧ng=true then 1 else 0)→setB (1+exN k) (frN k) f (setB 1 (exN k) e zs)=byL (patF (exN k) (frN k) ng e f) (szN k):=fun zs hl hs hb=>by
  have hl2:(setB (1+exN k) (frN k) f (setB 1 (exN k) e zs)).length=szN k:=by rw[setB_len,setB_len,hl]
  rw[bytes_bits _ (setB_small _ _ _ _ (setB_small _ _ _ _ hs)),hl2];refine byL_congr _ (fun i hi=> ?_)
  rw[bitB_setB _ _ _ _ _ (by rw[setB_len];omega),bitB_setB _ _ _ _ _ (by omega),hb i];unfold patF
  by_cases h0:i=0
  ·subst h0
   rw[if_neg (by omega),if_neg (by omega),if_pos rfl]
   cases ng<;>rfl
  ·rw[if_neg h0]
   have hz:(if i=0∧ng=true then 1 else 0)=0:=if_neg (fun h=>h0 h.1)
   rw[hz]
   by_cases hx:i≤exN k
   ·rw[if_pos hx,if_neg (by omega),if_pos (show 1≤i∧i<1+exN k by omega),show 1+exN k-1-i=exN k-i from by omega]
    split
    ·rename_i h;rw[h]
    ·rename_i h;rw[decide_eq_false h];rfl
   ·rw[if_neg hx,if_pos (show 1+exN k≤i∧i<1+exN k+frN k by omega),if_neg (show¬(1≤i∧i<1+exN k) by omega),show 1+exN k+frN k-1-i=exN k+frN k-i from by omega]
    split
    ·rename_i h;rw[h]
    ·rename_i h;rw[decide_eq_false h];rfl
 cases ng
 ·rw[if_neg (by simp)]
  exact key _ List.length_replicate sm0 (fun i=>by rw[bitB_zeros];simp)
 ·rw[if_pos rfl]
  refine key _ (by rw[setB_len];exact List.length_replicate) (setB_small _ _ _ _ sm0) (fun i=> ?_)
  rw[bitB_setB _ _ _ _ _ (by rw[List.length_replicate];omega),bitB_zeros]
  by_cases h0:i=0
  ·subst h0
   rfl
  ·rw[if_neg (by omega),if_neg (fun h=>h0 h.1)]
end Go.Proofs.YtnhackdjplppjaaGreatDoor
