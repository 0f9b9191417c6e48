/-
  Texts laid together: Div1, Rev, Lk2, Ex, Rl, Dr1, Aw0, Co6, Co8, Co2, Co3, Co7, Co13, Co14, Co19, Co15, Ce10, Tx4, Co17, Co18, Tx0, Cr2, Cr4, Gh3, Ce2, Nx2, Ar2, Ar4, Rk1, Oq1, Bl1.
-/
import Derived.Test.YtpgijbdgljkeeaaGreatDoorUx08
import Derived.Test.YtpgijbdgljkeeaaGreatDoorUx10
import Derived.Test.YtpgijbdgljkeeaaGreatDoorUx11
set_option maxRecDepth 100000
set_option maxHeartbeats 3200000
namespace Go.Proofs.YtpgijbdgljkeeaaGreatDoor
open _root_.Go.Proofs.Tryz
open Go.RowKit
theorem Bz (v:Value)(zs:List Nat)(w:World)(h:Rd w .u32 v zs)(hl:zs.length≤1000000):
  yC 135 #[v] w fun e w'=>e= .returned (.slice (some ⟨w.heap.size,0,none⟩) zs.length zs.length)∧Own w' w.heap.size 138 .u32 (.slice (some ⟨w.heap.size,0,none⟩) zs.length zs.length) zs∧yB w w':=by
 obtain⟨i0,hi,hz0,hz1,hz2⟩:=info_parts Tryz.infoU32;have hsz:(Tryz.prog.info? 138).map (·.size)=some 1:=by rw[hi];simp[hz1]
 obtain⟨ao,ca,rfl⟩:=h.shape
 go_enter func135,ntmps135
 go_wp2_with (at_make;refine wpList_make_full _ rfl _ _ 100 rfl w.heap.size 138 i0 (.int .u32 0) 1 underlying100 hi hz0 hz1 _ _ _ _ zs.length rfl rfl (by omega) (by omega) ?b2 ?b3 (Nat.le_refl _) ?_)
 case b2=>rw[hz2];omega
 case b3=>unfold maxLen;omega
 intro w0 hown0 hgrow0;have own0:=gL hown0;have bel0:yB w w0:=(Below.refl _ _).grown hgrow0 (Nat.le_refl _) (fun k h=>by cases h)
 obtain⟨w1,hrun,own1,gr1⟩:=Nw 100 100 3 underlying100 hsz own0 (h.l bel0) (by simp);have bel1:=bel0.grown gr1 bel0.size (fun k hk=>by cases hk;exact Nat.le_refl _)
 clear hown0 hgrow0 hsz
 go_wp2
 go_ret
 refine⟨rfl, ?_,bel1⟩;have e:zs++(List.replicate zs.length 0).drop zs.length=zs:=by simp
 rw[e] at own1;exact own1
theorem MH (g n cap base:Nat)(zs:List Nat)(w:World)(ho:Own w base 5 .u8 (.slice (some ⟨g,0,none⟩) n cap) zs)(hl:zs.length≤1000000000):
  yC 137 #[.slice (some ⟨g,0,none⟩) n cap] w fun e w'=>
   e= .returned (.tuple #[])∧Own w' base 5 .u8 (.slice (some ⟨g,0,none⟩) n cap) zs.reverse∧w.grownBy w' (some g):=by
 have hn:=ho.len;subst hn
 go_enter func137,ntmps137
 go_wp2
 go_loopw [2,3] (fun iv jv wr=> ∃(i:Nat) (cur:List Nat),iv=yi i∧jv=yi ((zs.length:Int)-1-i)∧Own wr base 5 .u8 (.slice (some ⟨g,0,none⟩) zs.length cap) cur∧XT zs cur i∧w.grownBy wr (some g))
  (fun iv jv _=>(intOf jv+1-intOf iv).toNat)
 case atStart=>exact⟨0,zs,rfl,by go_num,ho,⟨rfl,by omega,fun k hk=>by rw[if_neg (by omega)]⟩,ib _ _⟩
 case round=>
  obtain⟨i,cur,rfl,rfl,own,hI,gr⟩:=hrel;have h1:=hI.1;have h2:=hI.2.1
  by_cases hij:i<zs.length-1-i
  ·obtain⟨j,hj⟩: ∃j,zs.length-1-i=j:=⟨_,rfl⟩
   have hjI:(zs.length:Int)-1-i=(j:Int):=by omega
   have ci:=own.c i (by omega);have cj:=own.c j (by omega);have fi:=own.f i;have fj:=own.f j;have hst:=IJ hI hij;rw[hj] at hst hij;rw[hjI];have hjl:j<zs.length:=by omega
   have Hj:Hid _:=hjI;obtain⟨x,ex⟩: ∃x,cur.getD i 0=x:=⟨_,rfl⟩;obtain⟨y,ey⟩: ∃y,cur.getD j 0=y:=⟨_,rfl⟩;rw[ex] at ci hst;rw[ey] at cj hst;clear hj hjI ex ey hI
   go_wp2
   go_region
   all_goals go_wp2
   all_goals go_roundw
   case rel=>exact⟨i+1,_,by go_num,by have:=Hj.out;go_num,(own.store i y).store j x,hst,eF (eF gr (bI _ _ _ _)) ((eF (bI _ _ _ _) (vm _ _)))⟩
   case measure=>have:=Hj.out;simp[intOf];omega
  ·have hd: ¬((i:Int)< (zs.length:Int)-1-i):=by omega
   go_wp2
   go_end0
   rw[←MG hI hij];exact⟨rfl,own,gr⟩
theorem ag (w:World)(b i:Nat)(x:Value):But b w (w.setCell ⟨b,i,none⟩ x):=
 ⟨rfl,rfl,rfl,by simp[World.setCell],fun _ hk=>Below.heap_setCell _ _ _ _ hk⟩
theorem de (b:Nat): ∀(vs:List Value) (o:Nat) (w:World),But b w (w.setCells b o vs)
 | [],_,w=>⟨rfl,rfl,rfl,rfl,fun _ _=>rfl⟩
 |v::r,o,w=>by
  rw[World.setCells];exact(ag w b o v).trans (de b r (o+1) _)
theorem But.below {b B:Nat}{w0 w w':World}(h:But b w w')(k:Below B w0 w)(hb:B≤b):Below B w0 w':=
 ⟨h.os.trans k.os,h.tape.trans k.tape,h.output.trans k.output,by rw[h.size];exact k.size,fun i hi=>(h.block i (by omega)).trans (k.block i hi)⟩
theorem But.loc {b c:Nat}{w w':World}{ty:TypeId}{vs:List Value}(h:But b w w')(k:au w c ty vs)(hne:c≠b):au w' c ty vs:=(h.block c hne).trans k
theorem But.c {b:Nat}{w w':World}(h:But b w w'){a:Addr}(ha:a.block≠b):w'.cell? a=w.cell? a:=by
 unfold World.cell?;rw[h.block a.block ha]
theorem But.rd {b:Nat}{w w':World}{k:IntKind}{v:Value}{zs:List Nat}(h:But b w w')(r:Rd w k v zs)(ho:wF b v zs):Rd w' k v zs:=by
 obtain⟨ao,cap,rfl,h1,h2,h3⟩:=r;refine⟨ao,cap,rfl,h1,h2,fun hp=> ?_⟩
 obtain⟨g,off,rfl,hc⟩:=h3 hp;have hne:=ho hp _ _ _ rfl;exact⟨g,off,rfl,fun j hj=>(h.c (a:=⟨g,off+j,none⟩) hne).trans (hc j hj)⟩
theorem But.own {b:Nat}{w w':World}{base e:Nat}{k:IntKind}{v:Value}{zs:List Nat}(h:But b w w')(r:Own w base e k v zs){ty:TypeId}{vs:List Value}(hl:au w b ty vs)(hty:ty≠e):Own w' base e k v zs:=by
 obtain⟨h0,h2⟩:=r;refine⟨h0, ?_⟩
 rcases h2 with h2| ⟨g',cap',cur,hv,hbg,hh,r⟩
 ·exact .inl h2
 ·refine .inr ⟨g',cap',cur,hv,hbg, ?_,r⟩
  have hne:g'≠b:=by
   intro e;subst e;unfold au at hl;rw[hl] at hh;simp only[Option.some.injEq,Obj.cells.injEq] at hh;exact hty hh.2.1
  rw[h.block g' hne];exact hh
theorem au.range {w:World}{b:Nat}{tb:TypeId}{vs:List Value}(h:au w b tb vs):w.rangeAt b 0 vs:=fun j _ hv=>by rw[Nat.zero_add];exact h.c j hv
theorem au.there {w:World}{b:Nat}{tb:TypeId}{us:List Value}(h:au w b tb us)(n:Nat)(hn:n=us.length):w.there b 0 n:=fun j hj=>by
 have hj':j<us.length:=by omega
 rw[Nat.zero_add];exact⟨by rw[h.c j (List.getElem?_eq_getElem hj')];rfl,h.f j⟩
theorem gU {P:Program}{o:Oper}{a:Act}{w:World}(t:TypeId)(x:Operand)(ho:o.op= .load t x)(b i:Nat)(hx:a.eval x= .pointer (some ⟨b,i,none⟩))(v:Value)(d:TypeDesc)(hu:P.underlying t=some d)(hd:d.isRow=false)(hc:w.cell? ⟨b,i,none⟩=some v):(execOp a.eval o).run P w= .ok (.value v) w:=by
 have hagg:(isAgg t).run P w= .ok false w:=by
  unfold isAgg;rw[Sem.run_bind,run_underlying hu w]
  cases d<;>simp_all
 have hl:(loadVar t ⟨b,i,none⟩).run P w= .ok v w:=by
  simp[loadVar,Sem.run_bind,hagg,hc]
 unfold execOp;simp[ho,hx,Instr.loadAt,Instr.sureAddr,hl]
theorem dD {w:World}{b:Nat}{ty:TypeId}{vs:List Value}(h:au w b ty vs):w.there b 0 vs.length:=fun j hj=>by
 have:=h.c j (List.getElem?_eq_getElem hj);have hf:=h.f j;simp[this,hf]
theorem aC {w w':World}{g o:Nat}{cs:List Value}(h:w.rangeAt g o cs)(hb:yB w w'):w'.rangeAt g o cs:=fun j v hv=>by
 have:=h j v hv;rw[←this];exact World.cell?_of_block (hb.block g (World.block_lt_of_cell? w _ this))
theorem ZB.rd {w:World}{b:Nat}{v:Value}{zs:List Nat}(h:ZB w b)(hr:Rd w .i64 v zs)(hn:Dg.Norm zs)(x0 x1 x2:Value):
  Rd (((w.setCell ⟨b,0,none⟩ x0).setCell ⟨b,1,none⟩ x1).setCell ⟨b,2,none⟩ x2) .i64 v zs:=by
 obtain⟨hl,ty,hh⟩:=h;obtain⟨ao,cap,rfl,h1,h2,h3⟩:=hr;refine⟨ao,cap,rfl,h1,h2,fun hp=> ?_⟩
 obtain⟨c,off,rfl,hc⟩:=h3 hp;refine⟨c,off,rfl,fun i hi=> ?_⟩
 have hne:c≠b:=by
  intro e;subst e;have k1:=hc (zs.length-1) (by omega);have hz:=hn (List.length_pos_iff.1 hp);unfold World.cell? at k1;simp only[hh] at k1;obtain⟨o,ho⟩: ∃o,off+(zs.length-1)=o:=⟨_,rfl⟩;rw[ho] at k1;generalize zs.getD (zs.length-1) 0=d at*
  match o,k1 with
  |0,k1=>simp at k1
  |1,k1=>simp at k1
  |2,k1=>simp at k1;omega
  |o+3,k1=>simp at k1
 rw[World.cell?_setCell_other (h:=by simp),World.cell?_setCell_other (h:=by simp),World.cell?_setCell_other (h:=by simp)];exact hc i hi
theorem afz {P:Program}{w0 w:World}{n b:Nat}{ty:TypeId}{z0 z1 z2 z3:Value}{d:TypeDesc}(h:au w b ty [z0,z1,z2,z3])(hb:Below n w0 w)(hn:n≤b)(hu:P.underlying ty=some d)(hd:d.isRow=true)(hi:(P.info? ty).map (·.size)=some 4)(v0 v1 v2 v3:Value):
  (loadVar ty ⟨b,0,none⟩).run P ((((w.setCell ⟨b,0,none⟩ v0).setCell ⟨b,1,none⟩ v1).setCell ⟨b,2,none⟩ v2).setCell ⟨b,3,none⟩ v3)= .ok (.agg #[v0,v1,v2,v3]) ((((w.setCell ⟨b,0,none⟩ v0).setCell ⟨b,1,none⟩ v1).setCell ⟨b,2,none⟩ v2).setCell ⟨b,3,none⟩ v3)∧Below n w0 ((((w.setCell ⟨b,0,none⟩ v0).setCell ⟨b,1,none⟩ v1).setCell ⟨b,2,none⟩ v2).setCell ⟨b,3,none⟩ v3)∧But b w ((((w.setCell ⟨b,0,none⟩ v0).setCell ⟨b,1,none⟩ v1).setCell ⟨b,2,none⟩ v2).setCell ⟨b,3,none⟩ v3):=by
 have cR:au ((((w.setCell ⟨b,0,none⟩ v0).setCell ⟨b,1,none⟩ v1).setCell ⟨b,2,none⟩ v2).setCell ⟨b,3,none⟩ v3) b ty [v0,v1,v2,v3]:=((((h.set 0 v0).set 1 v1).set 2 v2).set 3 v3);have bu:=(((ag w b 0 v0).trans (ag _ b 1 v1)).trans (ag _ b 2 v2)).trans (ag _ b 3 v3);exact⟨run_loadVar_mid (P:=P) _ b 0 ty [v0,v1,v2,v3] _ cR.range hu hd hi,bu.below hb hn,bu⟩
theorem afB {w:World}{b:Nat}{ty:TypeId}{z0 z1 z2 z3:Value}(h:au w b ty [z0,z1,z2,z3]):(w.cell? ⟨b,0,none⟩=some z0∧w.cell? ⟨b,1,none⟩=some z1∧w.cell? ⟨b,2,none⟩=some z2∧w.cell? ⟨b,3,none⟩=some z3)∧w.frozen? ⟨b,0,none⟩=false∧w.frozen? ⟨b,1,none⟩=false∧w.frozen? ⟨b,2,none⟩=false∧w.frozen? ⟨b,3,none⟩=false:=
 ⟨⟨h.c 0 rfl,h.c 1 rfl,h.c 2 rfl,h.c 3 rfl⟩,h.f 0,h.f 1,h.f 2,h.f 3⟩
structure ik (w:World) (g:Nat) (zs:List Nat):Prop where
 c: ∀i,i<zs.length→w.cell? ⟨g,i,none⟩=some (.int .u8 ((zs.getD i 0:Nat):Int))
 f: ∀i,i<zs.length→w.frozen? ⟨g,i,none⟩=false
 lt:g<w.heap.size
theorem ik.l {w w':World}{g:Nat}{zs:List Nat}(h:ik w g zs)(hb:yB w w'):ik w' g zs:=
 ⟨fun i hi=>cell_later hb (h.c i hi),fun i hi=>(Eu (hb.block g h.lt)).trans (h.f i hi),Nat.lt_of_lt_of_le h.lt hb.size⟩
theorem ik.drew {w:World}{g:Nat}{zs:List Nat}(h:ik w g zs):ik w.drew g zs:=h.l (Below.refl _ _).drew
theorem ik.store {w:World}{g:Nat}{zs:List Nat}(h:ik w g zs)(j x:Nat):ik (w.setCell ⟨g,j,none⟩ (.int .u8 x)) g (zs.set j x):=by
 refine⟨fun i hi=> ?_,fun i hi=> ?_,by simpa[World.setCell] using h.lt⟩
 ·rw[List.length_set] at hi
  by_cases e:j=i
  ·subst e
   rw[World.cell?_setCell_same (h:=h.c j hi)];simp[List.getD_eq_getElem?_getD,hi]
  ·rw[World.cell?_setCell_other (h:=by intro k;cases k;exact e rfl),h.c i hi]
   simp[List.getD_eq_getElem?_getD,e]
 ·rw[List.length_set] at hi
  rw[O7];exact h.f i hi
theorem Ev {w:World}{base e:Nat}{g n cap:Nat}{zs:List Nat}(h:Own w base e .u8 (.slice (some ⟨g,0,none⟩) n cap) zs):ik w g zs:=
 ⟨fun i hi=>h.c i hi,fun i _=>h.f i,h.block.2⟩
theorem Cr (g cap:Nat)(zs:List Nat)(f c:Nat)(w:World)(hr:ik w g zs)(hs:Dg.Small 256 zs)(hc:c≤64)(hfc:f+c≤8*zs.length)(hl:zs.length≤1000):
  yC 153 #[.slice (some ⟨g,0,none⟩) zs.length cap,yi f,yi c] w fun e w'=>e= .returned (.int .u64 (eH zs f c:Nat))∧w'=w:=by
 go_enter func153,ntmps153
 go_wp2
 go_loop [7,8] (fun xv iv=> ∃j i x:Nat,Hid (i=f+j)∧j≤c∧iv=yi (i:Int)∧xv= .int .u64 (x:Int)∧Hid (x=eH zs f j)) (fun xv iv=>((f:Int)+c-intOf iv).toNat)
 case atStart=>exact⟨0,f,0,rfl,by omega,rfl,rfl,rfl⟩
 case round=>
  obtain⟨j,i,x,Hi,hj,rfl,rfl,hx⟩:=hrel;have hi:=Hi.out
  by_cases hjc:j<c
  ·obtain⟨q,hq⟩: ∃q,i/8=q:=⟨_,rfl⟩
   obtain⟨r,hr'⟩: ∃r,i % 8=r:=⟨_,rfl⟩;have hqI:(i:Int)/8=(q:Int):=by omega
   have hrI:(i:Int) % 8=(r:Int):=by omega
   have hcell:=hr.c q (by omega);have hsm:=hs q;obtain⟨y,hy⟩: ∃y,zs.getD q 0=y:=⟨_,rfl⟩;rw[hy] at hcell hsm;have hql:q<zs.length:=by omega
   have hr8:r<8:=by omega
   have HH:Hid (_∧_∧_∧_):=⟨hi,hq,hr',hy⟩;have hic:(i:Int)< (f:Int)+(c:Int):=by omega
   have hib:(i:Int)≤8000:=by omega
   clear hi hq hr' hy
   go_wp2
   obtain⟨hi,hq,hr',hy⟩:=HH.out;have hxl:=gh zs f j;have hpw:(2:Nat)^j≤2^63:=Nat.pow_le_pow_right (by omega) (by omega);refine⟨⟨j+1,i+1,2*x+y/2^ (7-r) % 2, ?_,by omega,rfl, ?_, ?_⟩, ?_⟩
   ·show i+1=f+(j+1)
    omega
   ·rw[XO x y r (by have:=hx.out;omega) hsm]
   ·show 2*x+y/2^ (7-r) % 2=eH zs f (j+1)
    have:=hx.out;rw[eH,←this,fU,←hi,hq,hr',hy]
   ·simp only[intOf]
    omega
  ·have hd: ¬((i:Int)< (f:Int)+(c:Int)):=by omega
   have hjc':j=c:=by omega
   have HX:Hid (_∧_):=⟨hx.out,hjc'⟩;have hib:(i:Int)≤8000:=by omega
   clear hi hjc'
   go_wp2
   go_ret
   obtain⟨h1,h2⟩:=HX.out;subst h1 h2;exact⟨rfl,rfl⟩
theorem br {P:Program}{fn:Func}{a:Nat}{ty:TypeId}{tmps:Array Value}{w:World}{b:Nat}{v:Value}(hres:fn.results= #[.cell a ty])(hp:tmps.getD a undef= .pointer (some ⟨b,0,none⟩))(hl:(loadVar ty ⟨b,0,none⟩).run P w= .ok v w):(results fn tmps).run P w= .ok v w:=by
 rw[Array.getD_eq_getD_getElem?] at hp;unfold results;simp[hres,hp,asAddr,hl]
theorem aj {P:Program}{fn:Func}{a t:Nat}{ty:TypeId}{tmps:Array Value}{w:World}{b:Nat}{v u:Value}(hres:fn.results= #[.cell a ty,.tmp t])(hp:tmps.getD a undef= .pointer (some ⟨b,0,none⟩))(hu:tmps.getD t undef=u)(hl:(loadVar ty ⟨b,0,none⟩).run P w= .ok v w):(results fn tmps).run P w= .ok (.tuple #[v,u]) w:=by
 rw[Array.getD_eq_getD_getElem?] at hp hu;unfold results;simp[hres,hp,hu,asAddr,hl]
def Bg (zs:List Nat):List Nat:=(List.range zs.length).map fun i=>zs.getD (i+1-2*(i % 2)) 0
def jT (k:Nat)(zs:List Nat):List Nat:=if k=3 then zs.reverse else if 6≤k then Bg zs else zs
theorem Uz {P:Program}(W:World)(src dst e:TypeId)(s:ByteArray)(hs:P.underlying src=some .string)(hd:P.underlying dst=some (.slice e))(he:P.underlying e=some (.int .u8)):
  ∃W1 cap,(convert src dst (.string s)).run P W= .ok (.slice (some ⟨W.heap.size,0,none⟩) s.size cap) W1∧ik W1 W.heap.size (jr s)∧yB W W1:=by
 refine⟨_,_,run_bytes_of_string W src dst e s hs hd he, ?_, ?_⟩
 ·refine⟨fun i hi=> ?_,fun i hi=> ?_, ?_⟩
  ·have hi':i<s.data.size:=by rw[oV] at hi;exact hi
   rw[show W.heap.size=W.drew.heap.size from rfl,World.cell?_alloc_mark,bytesRow_at s _ i hi',jr,List.getD_eq_getElem?_getD,List.getElem?_map,Array.getElem?_toList,Array.getElem?_eq_getElem hi']
   rfl
  ·have hi':i<s.data.size:=by rw[oV] at hi;exact hi
   rw[show W.heap.size=W.drew.heap.size from rfl,World.frozen?_alloc_mark]
   have: ¬((bytesRow s (grownCap W s.size 0 e)).size≤i):=by
    unfold bytesRow;rw[Array.size_append,Array.size_map];omega
   simp[this]
  ·show W.heap.size< (W.drew.alloc _).heap.size
   rw[World.size_alloc];exact Nat.lt_succ_self _
 ·exact((Below.refl _ _).drew).alloc (Nat.le_refl _) _
theorem au.grown {w w':World}{b g:Nat}{ty:TypeId}{vs:List Value}(h:au w b ty vs)(hg:w.grownBy w' (some g))(hne:b≠g):au w' b ty vs:=
 (hg.block b h.lt (fun e=>hne (Option.some.inj e))).trans h
def wG (k:Nat)(s:ByteArray):List Nat:=jT k (jr s)
def aZ (k:Nat)(s:ByteArray):Bool:=decide (eH (wG k s) 0 1=1)
def aR (k:Nat)(s:ByteArray):Nat:=eH (wG k s) 1 (exN k)
def aU (k:Nat)(s:ByteArray):Nat:=eH (wG k s) (1+exN k) (frN k)
theorem vi {P:Program}{w:World}{e g cap:Nat}{zs:List Nat}(src dst:TypeId)(hs:P.underlying src=some (.slice e))(he:P.underlying e=some (.int .u8))(hd:P.underlying dst=some .string)
  (h:ik w g zs):(convert src dst (.slice (some ⟨g,0,none⟩) zs.length cap)).run P w= .ok (.string (cF zs)) w:=by
 rw[run_convert_bytes_string w src dst e _ _ _ hs he hd];have hl:=run_loadCells_list (P:=P) w ⟨g,0,none⟩ (zs.map (fun n:Nat=>Value.int .u8 (n:Int))) (by
  intro j u hj;have hjl:j<zs.length:=by have:=(List.getElem?_eq_some_iff.1 hj).1;simpa using this
  rw[j9 _ zs j hjl] at hj;rw[rO,Nat.zero_add,h.c j hjl];exact hj)
 rw[List.length_map] at hl;have:=run_bytesToString (P:=P) w ⟨g,0,none⟩ zs.length cap (zs.map (fun n:Nat=>(n:Int))) (by
  rw[hl];simp)
 rw[this,Iu];simp[cF]
theorem KH (x:Nat)(hx:x<18446744073709551616)(w:World):
  yC 120 #[.int .u64 x] w fun z w'=> ∃v,z= .returned v∧Own w' w.heap.size 138 .u32 v (Dg.dg 4294967296 x)∧yB w w':=by
 have hlo:(x:Int) % 4294967296=((x % 4294967296:Nat):Int):=by omega
 have hhi:(x:Int)/4294967296=((x/4294967296:Nat):Int):=by omega
 have hx2:x/4294967296<4294967296:=by omega
 have hx1:x % 4294967296<4294967296:=Nat.mod_lt _ (by omega);have hd:=Nq x;obtain⟨lo,elo⟩: ∃n,x % 4294967296=n:=⟨_,rfl⟩;obtain⟨hi,ehi⟩: ∃n,x/4294967296=n:=⟨_,rfl⟩;rw[elo] at hlo hd hx1;rw[ehi] at hhi hd hx2;have own:Own (w.alloc (.cells #[.int .u32 (lo:Int),.int .u32 (hi:Int)] 138)) w.heap.size 138 .u32 (.slice (some ⟨w.heap.size,0,none⟩) 2 2) [lo,hi]:=
  pr (zs:=[lo,hi]) (heap_alloc_new _ _) (Nat.le_refl _) (by unfold maxLen;simp)
 have htr:=jD (some ⟨w.heap.size,0,none⟩) 2 2 [lo,hi] _ own.rd;have hsm:Dg.Small 4294967296 [lo,hi]:=by
  intro i
  match i with
  |0=>exact hx1
  |1=>exact hx2
  |i+2=>simp
 have b0:=af w (.cells #[.int .u32 (lo:Int),.int .u32 (hi:Int)] 138);have HH:Hid (_∧_):=⟨hd,hsm⟩;have hxI:(x:Int)<18446744073709551616:=by omega
 clear elo ehi hd hsm
 go_enter func120,ntmps120
 go_wp2_with fail
 refine htr.mono ?_;rintro z w1 ⟨n,rfl,ht,rfl⟩
 go_wp2
 go_ret
 obtain⟨hd,hsm⟩:=HH.out;refine⟨_,rfl, ?_,b0⟩;have:=Dg.trim_eq 4294967296 (by omega) [lo,hi] n hsm ht.1 ht.2.1 ht.2.2;rw[hd] at this;rw[←this];exact own.take n ht.1
theorem xD {w:World}{q:Nat}(h:w.cell? ⟨q,0,none⟩=some (.int .u32 1)):Rd w .u32 (.slice (some ⟨q,0,none⟩) 1 1) [1]:=
 ⟨_,1,rfl,Nat.le_refl _,by unfold maxLen;omega,fun _=>⟨q,0,rfl,fun i hi=>by
  obtain rfl:i=0:=by simpa using hi
  exact h⟩⟩
theorem rd_one1 {w:World}{q:Nat}(h:w.cell? ⟨q,0,none⟩=some (.int .u32 1)):Rd w .u32 (.slice (some ⟨q,0,none⟩) 1 1) (Dg.dg 4294967296 1):=xD h
theorem kg {P:Program}{fn:Func}{a b t:Nat}{ta tb:TypeId}{tmps:Array Value}{w:World}{ba bb:Nat}{va vb u:Value}(hres:fn.results= #[.cell a ta,.cell b tb,.tmp t])(ha:tmps.getD a undef= .pointer (some ⟨ba,0,none⟩))(hb:tmps.getD b undef= .pointer (some ⟨bb,0,none⟩))(hu:tmps.getD t undef=u)(hla:(loadVar ta ⟨ba,0,none⟩).run P w= .ok va w)(hlb:(loadVar tb ⟨bb,0,none⟩).run P w= .ok vb w):(results fn tmps).run P w= .ok (.tuple #[va,vb,u]) w:=by
 rw[Array.getD_eq_getD_getElem?] at ha hb hu;unfold results;simp[hres,ha,hb,hu,asAddr,hla,hlb]
def bM (n:Int)(s:ByteArray):Nat:=if dF n s=0 then dh n.toNat (aZ n.toNat s) (aR n.toNat s) (aU n.toNat s) else 0
def dz (n:Int)(s:ByteArray):Bool:=if dF n s=0 then kt n.toNat (aZ n.toNat s) (aR n.toNat s) (aU n.toNat s) else false
open Go.Shelf Go.RowKit
shelf_lay Lays.n145 Nm 145 at Tryz as lays145
shelf_lay Lays.n103 Nm 103 at Tryz as lays103
shelf_lay Lays.n172 Nm 172 at Tryz as lays172
shelf_lay LaysM.n171 Nm 171 at Tryz as lays171
def powN:String:=(Rows.textRatiosRow.laid.map (fun p=>p.1)).getD 2 ""
def TxW (w:World):Prop:=Tab w∧(∃m:Int,w.cell? ⟨lays145_ren.g 1,0,none⟩=some (yi m))∧Lib.TabIs Tryz.prog w powN .u64 Lib.pow10Tab
theorem TxW.l {w w':World}(h:TxW w)(hb:yB w w'):TxW w':=by
 obtain⟨h1,⟨m,h2⟩,h3⟩:=h;exact⟨h1.l hb,⟨m,cell_later hb h2⟩,Lib.tabBelow_of_tabIs h3 w' hb⟩
theorem drewN_below (w:World)(n:Nat):yB w (w.drewN n):=⟨rfl,rfl,rfl,Nat.le_refl _,fun _ _=>rfl⟩
theorem cut_any (s sep:ByteArray)(w:World)(hs:s.size≤1000)(hT:TxW w):
  yC 67 #[.string s,.string sep] w (yR w (.tuple #[.string ⟨(Lib.cut s.data.toList sep.data.toList).1.toArray⟩,.string ⟨(Lib.cut s.data.toList sep.data.toList).2.1.toArray⟩,.bool (Lib.cut s.data.toList sep.data.toList).2.2])):=by
 obtain⟨-,⟨m,hm⟩,-⟩:=hT;refine(Any.strings_Cut lays145 s sep m w (by omega) hm).mono ?_;rintro z w' ⟨rfl,n,rfl⟩;exact⟨rfl,drewN_below w n⟩
theorem prefix_any (s p:ByteArray)(w:World):
  yC 66 #[.string s,.string p] w (yR w (.tuple #[.string ⟨(Lib.trimPrefix s.data.toList p.data.toList).toArray⟩,.bool (Lib.hasPrefix s.data.toList p.data.toList)])):=by
 refine(Any.strings_CutPrefix lays103 s p w).mono ?_;rintro z w' ⟨rfl,rfl⟩;exact⟨rfl,Below.refl _ _⟩
theorem atoi_any (s:ByteArray)(n:Int)(w:World)(hs:s.size≤18)(h:Lib.atoi s.data.toList=some n):
  yC 123 #[.string s] w (yR w (.tuple #[yi n,.nilIface])):=by
 refine(Any.strconv_Atoi lays172 s n hs h w).mono ?_;rintro z w' ⟨rfl,t,rfl⟩;exact⟨rfl,Joins.below_bytesWorld _ w _ t (Nat.le_refl _)⟩
theorem itoa_any (n:Int)(w:World)(h0: -9223372036854775808≤n)(h1:n≤9223372036854775807)(hT:TxW w):
  yC 104 #[yi n] w (yR w (.string ⟨(Lib.itoa n).toArray⟩)):=by
 refine(Any.strconv_Itoa lays171 n h0 h1 w hT.2.2).mono ?_;rintro z w' ⟨rfl,k,os,rfl⟩;exact⟨rfl,Lib.below_grow _ w (Nat.le_refl _) k os⟩
def jp (w:World)(base:Nat)(v:Value)(bs:List Bool):Prop:=w.ownsRow base 4 1 v bs.length (bs.map Value.bool)
theorem Tryz.infoB:(Tryz.prog.info? 4).map (fun i=>(i.zero,i.size,i.bytes))=some (some (.bool false),1,1):=by kernel_rfl
theorem jp.l {w w':World}{base:Nat}{v:Value}{bs:List Bool}(h:jp w base v bs)(hb:yB w w'):jp w' base v bs:=by
 obtain⟨hl,h2⟩:=h;refine⟨hl, ?_⟩
 rcases h2 with h2| ⟨g,cap,cur,hv,hbg,hh,r⟩
 ·exact .inl h2
 ·refine .inr ⟨g,cap,cur,hv,hbg, ?_,r⟩
  rw[hb.block g ?_]
  ·exact hh
  ·rw[Array.getElem?_eq_some_iff] at hh
   exact hh.1
structure TG (w:World) (bn bf:Nat) (ng:Bool) (fv:List Value) (v:Value) (m:Nat) (w':World):Prop where
 q:au w' w.heap.size 49 (yoL 0 false false yN 0)
 f:au w' bf 42 fv
 n:w'.cell? ⟨bn,0,none⟩=some (.bool ng)
 b:yB w w'
 r:Rd w' .i64 v (Dg.dg 65536 m)
theorem TG.l {w w1 w2:World}{bn bf:Nat}{ng:Bool}{fv:List Value}{v:Value}{m:Nat}(h:TG w bn bf ng fv v m w1)(b:yB w1 w2):TG w bn bf ng fv v m w2:=
 ⟨h.q.l b,h.f.l b,cell_later b h.n,aa h.b b,h.r.l b⟩
def Xn (w:World)(s9 s10:Value)(hd:Bool)(rd:Nat)(rk:Int)(wx:World):Prop:=
 ∃pb so sc,s9= .pointer (some ⟨pb,0,none⟩)∧s10= .bool hd∧w.heap.size+1+1≠pb∧w.heap.size≤pb∧au wx pb 238 [yT so rd sc,yi rk]∧Own wx w.heap.size 138 .u32 (yT so rd sc) (Dg.dg 4294967296 rd)∧au wx (w.heap.size+1+1) 238 [yN,yi 0]∧yB w wx
theorem TI {w wb:World}{hd:Bool}{rd:Nat}{rk:Int}{so:Option Addr}{sc:Nat}(hc:au wb (w.heap.size+1+1) 238 [yN,yi 0])(ho:Own wb w.heap.size 138 .u32 (yT so rd sc) (Dg.dg 4294967296 rd))(hb:yB w wb):
  Xn w (.pointer (some ⟨wb.heap.size,0,none⟩)) (.bool hd) hd rd rk (wb.alloc (.cells #[yT so rd sc,yi rk] 238)):=by
 have ba:=af wb (.cells #[yT so rd sc,yi rk] 238);have:=hc.lt;exact⟨_,so,sc,rfl,rfl,by omega,by omega,ah wb [yT so rd sc,yi rk] 238,ho.l ba,hc.l ba,aa hb ba⟩
theorem Is {w wb:World}{hd:Bool}{rd:Nat}{rk:Int}{so:Option Addr}{sc nb:Nat}(hc:au wb (w.heap.size+1+1) 238 [yN,yi 0])(hn:au wb nb 238 [yN,yi 0])(ho:Own wb w.heap.size 138 .u32 (yT so rd sc) (Dg.dg 4294967296 rd))(hb:yB w wb)(h1:w.heap.size+1+1≠nb)(h2:w.heap.size≤nb):
  Xn w (.pointer (some ⟨nb,0,none⟩)) (.bool hd) hd rd rk ((wb.setCell ⟨nb,0,none⟩ (yT so rd sc)).setCell ⟨nb,1,none⟩ (yi rk)):=by
 have bu:=(ag wb nb 0 (yT so rd sc)).trans (ag _ nb 1 (yi rk));exact⟨nb,so,sc,rfl,rfl,h1,h2,(hn.set 0 _).set 1 _,bu.own ho hn (by decide),bu.loc hc h1,bu.below hb h2⟩
theorem jp.block {w:World}{base g n cap:Nat}{bs:List Bool}(h:jp w base (.slice (some ⟨g,0,none⟩) n cap) bs)(hn:n=bs.length):base≤g∧g<w.heap.size:=by
 subst hn;exact World.ownsRow.lt h g rfl
theorem jp.c {w:World}{base g n cap:Nat}{bs:List Bool}(h:jp w base (.slice (some ⟨g,0,none⟩) n cap) bs)(hn:n=bs.length)(j:Nat)(hj:j<bs.length):w.cell? ⟨g,j,none⟩=some (.bool (bs.getD j false)):=by
 subst hn;have hc:=World.ownsRow.cellAt h j (by omega);rw[hc,List.getElem?_map,List.getElem?_eq_getElem hj];simp[List.getD_eq_getElem?_getD,hj]
def nxT (k:Nat)(s:ByteArray):ak:=ji k (aZ k s) (aR k s) (aU k s)
def opT (n:Int)(p:ByteArray):ak:=if dF n p=0 then nxT n.toNat p else⟨false,0,0⟩
def opC (n : Int) (p : ByteArray) (v : Value) : List Value := [.int .i64 ((bM n p : Nat) : Int), .bool (dz n p), .bool (opT n p).s, v, .int .i64 (opT n p).e]
def F7 (w:World)(n:Int)(g:Option Nat)(p:ByteArray)(v:Value):Prop:=
 (∃so sc,v= .slice so (Dg.dg 4294967296 (opT n p).n).length sc)∧Rd w .u32 v (Dg.dg 4294967296 (opT n p).n)∧ ∀b,g=some b→wF b v (Dg.dg 4294967296 (opT n p).n)
def sV (w:World)(n:Int)(g:Option Nat):List ByteArray→List Value→Prop
 | [],cs=>cs=[]
 |p::ps,cs=> ∃v rest,cs=opC n p v++rest∧F7 w n g p v∧sV w n g ps rest
theorem sV.mono {w w':World}{n:Int}{g g':Option Nat}(h: ∀p v,F7 w n g p v→F7 w' n g' p v): ∀{ps:List ByteArray} {cs:List Value},sV w n g ps cs→sV w' n g' ps cs
 | [],_,hc=>hc
 |p::_,_,hc=>by
  obtain⟨v,rest,h1,h2,h3⟩:=hc;exact⟨v,rest,h1,h p v h2,sV.mono h h3⟩
structure sF (w:World) (n:Int) (ps:List ByteArray) (g cap:Nat):Prop where
 fit:ps.length≤cap
 most:cap≤maxLen
 each: ∀(i:Nat) p,ps[i]? =some p→ ∃so sc,w.rangeAt g (i*5) (opC n p (.slice so (Dg.dg 4294967296 (opT n p).n).length sc))∧Rd w .u32 (.slice so (Dg.dg 4294967296 (opT n p).n).length sc) (Dg.dg 4294967296 (opT n p).n)
theorem ut.trans {J K:Int}{N1 M1 N2 M2 N3 M3:Nat}{E1 E2 E3:Int}(h:ut J N1 M1 E1 N2 M2 E2)(g:ut K N2 M2 E2 N3 M3 E3):ut (max J K) N1 M1 E1 N3 M3 E3:=fun j hj=>by
 obtain⟨a1,a2⟩:=h j (by omega);obtain⟨b1,b2⟩:=g j (by omega);exact⟨a1.trans b1,a2.trans b2⟩
def rfG (n:Int)(p:ByteArray):Bool:=zR n.toNat (aZ n.toNat p) (aR n.toNat p) (aU n.toNat p)
def rfT (n:Int)(p:ByteArray):ak:=ji n.toNat (aZ n.toNat p) (aR n.toNat p) (aU n.toNat p)
def rfC (n : Int) (p : ByteArray) (v : Value) : List Value := [.int .i64 ((bM n p : Nat) : Int), .bool (rfG n p), .bool (rfT n p).s, v, .int .i64 (rfT n p).e]
def Gw (w:World)(n:Int)(g:Option Nat)(p:ByteArray)(v:Value):Prop:=
 (∃so sc,v= .slice so (Dg.dg 65536 (rfT n p).n).length sc)∧Rd w .i64 v (Dg.dg 65536 (rfT n p).n)∧ ∀b,g=some b→wF b v (Dg.dg 65536 (rfT n p).n)
def tg (w:World)(n:Int)(g:Option Nat):List ByteArray→List Value→Prop
 | [],cs=>cs=[]
 |p::ps,cs=> ∃v rest,cs=rfC n p v++rest∧Gw w n g p v∧tg w n g ps rest
theorem tg.mono {w w':World}{n:Int}{g g':Option Nat}(h: ∀p v,Gw w n g p v→Gw w' n g' p v): ∀{ps:List ByteArray} {cs:List Value},tg w n g ps cs→tg w' n g' ps cs
 | [],_,hc=>hc
 |p::_,_,hc=>by
  obtain⟨v,rest,h1,h2,h3⟩:=hc;exact⟨v,rest,h1,h p v h2,tg.mono h h3⟩
def mL (w:World)(b:Nat)(v0 v1 v2 v3 v4 v5:Value):Prop:=
 b<w.heap.size∧(w.cell? ⟨b,0,none⟩=some v0∧w.cell? ⟨b,1,none⟩=some v1∧w.cell? ⟨b,2,none⟩=some v2∧w.cell? ⟨b,3,none⟩=some v3∧w.cell? ⟨b,4,none⟩=some v4∧w.cell? ⟨b,5,none⟩=some v5)∧
  (w.frozen? ⟨b,0,none⟩=false∧w.frozen? ⟨b,1,none⟩=false∧w.frozen? ⟨b,2,none⟩=false∧w.frozen? ⟨b,3,none⟩=false∧w.frozen? ⟨b,4,none⟩=false∧w.frozen? ⟨b,5,none⟩=false)
end Go.Proofs.YtpgijbdgljkeeaaGreatDoor
