/-
  Texts laid together: Div1, DivBy, DecW, Ref2, Lk, Lk2, Ex, Rl, Dr1, Aw0, Read2, Long, Long1, Over, Roo1, Co6, Co10, Co2, Co3, Co7, Co13, Co14, Co19, Gr2, Gr4, Gr6, Ce10, Tx4, Tx7, Co16, Co18, Gh1, Gh3, Nx2, Ar2, Ar4, Rk1, Oq1, Bl6, Tx6, Tx11.
-/
import Derived.Lib.Strings
import Derived.Shelf.Lay
import Derived.Shelf.Strings.Cut
import Derived.Shelf.Small.Wraps
import Derived.Shelf.Strconv.Atoi
import Derived.Shelf.Strconv.Itoa3
import Derived.Lib.AppendIntMem
import Derived.Lib.SmallJoins
import Derived.Test.YtdhpndnncmagiaaGreatDoorRows
import Derived.Test.YtdhpndnncmagiaaGreatDoorMa02
import Derived.Test.YtdhpndnncmagiaaGreatDoorMa04
set_option maxRecDepth 100000
set_option maxHeartbeats 800000
namespace Go.Proofs.YtdhpndnncmagiaaGreatDoor
open _root_.Go.Proofs.Tryz
open Go.RowKit
theorem Nw {P:Program}{w:World}{base e:Nat}{k:IntKind}{g n m cap:Nat}{ao:Option Addr}{ds zs:List Nat}(dT sT ty:Nat)(hu:P.underlying dT=some (.slice e))(hsz:(P.info? e).map (·.size)=some 1)
  (ho:Own w base e k (.slice (some ⟨g,0,none⟩) n n) ds) (hr:Rd w k (.slice ao m cap) zs) (hle:zs.length≤ds.length):
  ∃w1,(Builtin.copy_ #[dT,sT] ty #[.slice (some ⟨g,0,none⟩) n n,.slice ao m cap]).run P w= .ok (yi m) w1∧Own w1 base e k (.slice (some ⟨g,0,none⟩) n n) (zs++ds.drop zs.length)∧w.grownBy w1 (some g):=by
 have hn:=ho.len;have hm:=wn hr;subst hn hm;have hh:=ho.heap;have hbl:=ho.block;have hml:ds.length≤maxLen:=by
  rcases ho.2 with⟨hv,_⟩| ⟨g',cap',cur,hv,hb,hh,hnc,hcm,hcs,htake⟩
  ·simp at hv
  ·omega
 by_cases h0:zs.length=0
 ·obtain rfl:zs=[]:=List.eq_nil_of_length_eq_zero h0
  refine⟨w,run_copy_none (P:=P) w dT sT ty e _ _ _ _ _ _ hu hsz (by simp),by simpa using ho,⟨rfl,rfl,rfl,Nat.le_refl _,fun _ _ _=>rfl⟩⟩
 ·obtain⟨-,-,hc⟩:=iQ hr
  obtain⟨b,off,rfl,hcell⟩:=hc (by omega);have hrun:=run_copy_row (P:=P) w dT sT ty e g 0 ds.length ds.length ⟨b,off,none⟩ zs.length cap _ e (zs.map (fun n:Nat=>Value.int k n)) hu hsz hh (by rw[List.length_map];exact(Nat.min_eq_left hle).symm)
   (by
    intro j u hj;have hjl:j<zs.length:=by have:=(List.getElem?_eq_some_iff.1 hj).1;simpa using this
    rw[j9 k zs j hjl] at hj;rw[rO,hcell j hjl];exact hj)
   (by simpa using hle) (by intro u hu;simp at hu;obtain⟨a,_,rfl⟩:=hu;rfl)
  refine⟨w.setRow g (zs.map (fun n:Nat=>Value.int k n)++(ds.map (fun n:Nat=>Value.int k n)).drop zs.length).toArray,by rw[hrun];simp[goInt], ?_,⟨rfl,rfl,rfl,by simp[World.setRow],fun j _ hj=>setRow_other w g j _ (fun e=>hj (by rw[e]))⟩⟩
  have hlen:(zs++ds.drop zs.length).length=ds.length:=by simp;omega
  have:=pr (w:=w.setRow g (zs.map (fun n:Nat=>Value.int k n)++(ds.map (fun n:Nat=>Value.int k n)).drop zs.length).toArray) (base:=base) (e:=e) (k:=k) (g:=g) (zs:=zs++ds.drop zs.length)
   (by rw[Nv w g _ _ e hh];simp[List.map_drop]) hbl.1 (by omega)
  rw[hlen] at this
  simpa using this
theorem Bz (v:Value)(zs:List Nat)(w:World)(h:Rd w .u32 v zs)(hl:zs.length≤1000000):
  yC 78 #[v] w fun e w'=>e= .returned (.slice (some ⟨w.heap.size,0,none⟩) zs.length zs.length)∧Own w' w.heap.size 116 .u32 (.slice (some ⟨w.heap.size,0,none⟩) zs.length zs.length) zs∧yB w w':=by
 obtain⟨i0,hi,hz0,hz1,hz2⟩:=info_parts Tryz.infoU32;have hsz:(Tryz.prog.info? 116).map (·.size)=some 1:=by rw[hi];simp[hz1]
 obtain⟨ao,ca,rfl⟩:=h.shape
 go_enter func78,ntmps78
 go_wp2_with (at_make;refine wpList_make_full _ rfl _ _ 64 rfl w.heap.size 116 i0 (.int .u32 0) 1 underlying64 hi hz0 hz1 _ _ _ _ zs.length rfl rfl (by omega) (by omega) ?b2 ?b3 (Nat.le_refl _) ?_)
 case b2=>rw[hz2];omega
 case b3=>unfold maxLen;omega
 intro w0 hown0 hgrow0;have own0:=gL hown0;have bel0:yB w w0:=(Below.refl _ _).grown hgrow0 (Nat.le_refl _) (fun k h=>by cases h)
 obtain⟨w1,hrun,own1,gr1⟩:=Nw 64 64 3 underlying64 hsz own0 (h.l bel0) (by simp);have bel1:=bel0.grown gr1 bel0.size (fun k hk=>by cases hk;exact Nat.le_refl _)
 clear hown0 hgrow0 hsz
 go_wp2
 go_ret
 refine⟨rfl, ?_,bel1⟩;have e:zs++(List.replicate zs.length 0).drop zs.length=zs:=by simp
 rw[e] at own1;exact own1
theorem Ew {w w':World}(g:Option Nat)(h:yB w w'):w.grownBy w' g:=⟨h.os,h.tape,h.output,h.size,fun k hk _=>h.block k hk⟩
theorem wX {B:Nat}{w w1 w2:World}{g:Nat}(h:Below B w w1)(hB:B≤w1.heap.size)(hg:w1.grownBy w2 (some g))(hle:B≤g):Below B w w2:=
 h.grown hg hB (fun k hk=>by cases hk;exact hle)
theorem Own.shapeOf {w:World}{base e:Nat}{k:IntKind}{v:Value}{zs:List Nat}(h:Own w base e k v zs)(hp:zs≠[]): ∃g cap,v= .slice (some ⟨g,0,none⟩) zs.length cap∧base≤g∧g<w.heap.size:=by
 rcases h.2 with⟨hv,hn⟩| ⟨g,cap,cur,hv,hb,hh,_⟩
 ·exact absurd (List.eq_nil_of_length_eq_zero hn) hp
 ·exact⟨g,cap,hv,hb,by rw[Array.getElem?_eq_some_iff] at hh;exact hh.1⟩
theorem iW {w wr w3:World}{e x:Nat}{k:IntKind}{es:List Nat}{lv v':Value}(bel:yB w wr)(ownL:Own wr w.heap.size e k lv es)
  (hown':w3.ownsRow w.heap.size e 1 v' (es.length+1) ((es.map (fun n:Nat=>Value.int k (n:Int)))++[.int k x]))
  (hgrow:(wr.alloc (.cells #[.int k x] e)).grownBy w3 lv.ownBlock):
  Own w3 w.heap.size e k v' (es++[x])∧yB w w3:=by
 have b1:yB wr (wr.alloc (.cells #[.int k x] e)):=(Below.refl _ _).alloc (Nat.le_refl _) _;refine⟨?_, ?_⟩
 ·unfold Own
  simpa using hown'
 ·refine(aa bel b1).grown hgrow (Nat.le_trans bel.size b1.size) (fun k hk=> ?_)
  exact(World.ownsRow.lt ownL k hk).1
theorem au.cs2 {w:World}{b:Nat}{ty:TypeId}{x0 x1:Value}{l:List Value}(h:au w b ty (x0::x1::l)):w.cell? ⟨b,0,none⟩=some x0∧w.cell? ⟨b,1,none⟩=some x1:=⟨h.c 0 rfl,h.c 1 rfl⟩
theorem au.cs3 {w:World}{b:Nat}{ty:TypeId}{x0 x1 x2:Value}{l:List Value}(h:au w b ty (x0::x1::x2::l)):w.cell? ⟨b,0,none⟩=some x0∧w.cell? ⟨b,1,none⟩=some x1∧w.cell? ⟨b,2,none⟩=some x2:=⟨h.c 0 rfl,h.c 1 rfl,h.c 2 rfl⟩
theorem au.cs4 {w:World}{b:Nat}{ty:TypeId}{x0 x1 x2 x3:Value}{l:List Value}(h:au w b ty (x0::x1::x2::x3::l)):w.cell? ⟨b,0,none⟩=some x0∧w.cell? ⟨b,1,none⟩=some x1∧w.cell? ⟨b,2,none⟩=some x2∧w.cell? ⟨b,3,none⟩=some x3:=⟨h.c 0 rfl,h.c 1 rfl,h.c 2 rfl,h.c 3 rfl⟩
theorem au.cs5 {w:World}{b:Nat}{ty:TypeId}{x0 x1 x2 x3 x4:Value}{l:List Value}(h:au w b ty (x0::x1::x2::x3::x4::l)):w.cell? ⟨b,0,none⟩=some x0∧w.cell? ⟨b,1,none⟩=some x1∧w.cell? ⟨b,2,none⟩=some x2∧w.cell? ⟨b,3,none⟩=some x3∧w.cell? ⟨b,4,none⟩=some x4:=⟨h.c 0 rfl,h.c 1 rfl,h.c 2 rfl,h.c 3 rfl,h.c 4 rfl⟩
theorem au.cs6 {w:World}{b:Nat}{ty:TypeId}{x0 x1 x2 x3 x4 x5:Value}{l:List Value}(h:au w b ty (x0::x1::x2::x3::x4::x5::l)):w.cell? ⟨b,0,none⟩=some x0∧w.cell? ⟨b,1,none⟩=some x1∧w.cell? ⟨b,2,none⟩=some x2∧w.cell? ⟨b,3,none⟩=some x3∧w.cell? ⟨b,4,none⟩=some x4∧w.cell? ⟨b,5,none⟩=some x5:=⟨h.c 0 rfl,h.c 1 rfl,h.c 2 rfl,h.c 3 rfl,h.c 4 rfl,h.c 5 rfl⟩
theorem au.cs9 {w:World}{b:Nat}{ty:TypeId}{x0 x1 x2 x3 x4 x5 x6 x7 x8:Value}{l:List Value}(h:au w b ty (x0::x1::x2::x3::x4::x5::x6::x7::x8::l)):w.cell? ⟨b,0,none⟩=some x0∧w.cell? ⟨b,1,none⟩=some x1∧w.cell? ⟨b,2,none⟩=some x2∧w.cell? ⟨b,3,none⟩=some x3∧w.cell? ⟨b,4,none⟩=some x4∧w.cell? ⟨b,5,none⟩=some x5∧w.cell? ⟨b,6,none⟩=some x6∧w.cell? ⟨b,7,none⟩=some x7∧w.cell? ⟨b,8,none⟩=some x8:=⟨h.c 0 rfl,h.c 1 rfl,h.c 2 rfl,h.c 3 rfl,h.c 4 rfl,h.c 5 rfl,h.c 6 rfl,h.c 7 rfl,h.c 8 rfl⟩
theorem au.set {w:World}{b:Nat}{ty:TypeId}{vs:List Value}(h:au w b ty vs)(i:Nat)(x:Value):au (w.setCell ⟨b,i,none⟩ x) b ty (vs.set i x):=by
 have hlt:=h.lt;have h':w.heap[b]= .cells vs.toArray ty (0,0):=by simpa[au,Array.getElem?_eq_getElem hlt] using h
 show(w.heap.modify b _)[b]? =_
 rw[Array.getElem?_eq_getElem (by simpa using hlt),Array.getElem_modify_self,h'];simp
theorem au.off {w:World}{b c:Nat}{ty:TypeId}{vs:List Value}(h:au w b ty vs)(hne:c≠b)(i:Nat)(x:Value):au (w.setCell ⟨c,i,none⟩ x) b ty vs:=by
 unfold au;rw[Below.heap_setCell _ _ _ _ (fun e=>hne e.symm)]
 exact h
def wF (b:Nat)(v:Value)(zs:List Nat):Prop:=0<zs.length→ ∀a n c,v= .slice (some a) n c→a.block≠b
theorem cq {w:World}{k:IntKind}{v:Value}{zs:List Nat}(h:Rd w k v zs)(hn:Dg.Norm zs){b:Nat}{ty:TypeId}{vs:List Value}(hl:au w b ty vs)(hv0: ∀x∈vs,∀n:Int,n≠0→x≠ .int k n):wF b v zs:=fun hp a n c hv=>by
 obtain⟨ao,cap,rfl,_,_,h3⟩:=h;obtain⟨g,off,rfl,hc⟩:=h3 hp
 cases hv
 have h0:=hc (zs.length-1) (by omega)
 show g≠b
 intro e;subst e;have hnn:zs.getD (zs.length-1) 0≠0:=hn (by intro h;rw[h] at hp;simp at hp);unfold World.cell? at h0;simp only at h0;rw[hl] at h0;simp only[Option.isSome_none,Bool.false_eq_true,if_false,List.getElem?_toArray] at h0;exact hv0 _ (List.mem_of_getElem? h0) _ (by omega) rfl
theorem aX {w:World}{k:IntKind}{v:Value}{zs:List Nat}(h:Rd w k v zs){b:Nat}{ty:TypeId}{vs:List Value}(hl:au w b ty vs)(hv0: ∀x∈vs,∀n:Int,x≠ .int k n):wF b v zs:=fun hp a n c hv=>by
 obtain⟨ao,cap,rfl,_,_,h3⟩:=h;obtain⟨g,off,rfl,hc⟩:=h3 hp
 cases hv
 have h0:=hc 0 hp
 show g≠b
 intro e;subst e;unfold World.cell? at h0;simp only at h0;rw[hl] at h0;simp only[Option.isSome_none,Bool.false_eq_true,if_false,List.getElem?_toArray] at h0;exact hv0 _ (List.mem_of_getElem? h0) _ rfl
theorem Rd.set {w:World}{k:IntKind}{v:Value}{zs:List Nat}(h:Rd w k v zs){b:Nat}(ho:wF b v zs)(i:Nat)(x:Value):Rd (w.setCell ⟨b,i,none⟩ x) k v zs:=by
 obtain⟨ao,cap,rfl,h1,h2,h3⟩:=h;refine⟨ao,cap,rfl,h1,h2,fun hp=> ?_⟩
 obtain⟨g,off,rfl,hc⟩:=h3 hp;have hne:=ho hp _ _ _ rfl;refine⟨g,off,rfl,fun j hj=> ?_⟩
 have hne2:g≠b:=hne;unfold World.cell?;simp only;rw[Below.heap_setCell _ _ _ _ hne2];exact hc j hj
theorem Own.setE {w:World}{base e:Nat}{k:IntKind}{v:Value}{zs:List Nat}(h:Own w base e k v zs){b:Nat}{ty:TypeId}{vs:List Value}(hl:au w b ty vs)(hty:ty≠e)(i:Nat)(x:Value):Own (w.setCell ⟨b,i,none⟩ x) base e k v zs:=by
 obtain⟨h0,h2⟩:=h;refine⟨h0, ?_⟩
 rcases h2 with h2| ⟨g',cap',cur,hv,hbg,hh,r⟩
 ·exact .inl h2
 ·refine .inr ⟨g',cap',cur,hv,hbg, ?_,r⟩
  have hne:g'≠b:=by
   intro e;subst e;unfold au at hl;rw[hl] at hh;simp only[Option.some.injEq,Obj.cells.injEq] at hh;exact hty hh.2.1
  rw[Below.heap_setCell _ _ _ _ hne];exact hh
theorem ag (w:World)(b i:Nat)(x:Value):But b w (w.setCell ⟨b,i,none⟩ x):=
 ⟨rfl,rfl,rfl,by simp[World.setCell],fun _ hk=>Below.heap_setCell _ _ _ _ hk⟩
theorem de (b:Nat): ∀(vs:List Value) (o:Nat) (w:World),But b w (w.setCells b o vs)
 | [],_,w=>⟨rfl,rfl,rfl,rfl,fun _ _=>rfl⟩
 |v::r,o,w=>by
  rw[World.setCells];exact(ag w b o v).trans (de b r (o+1) _)
theorem But.below {b B:Nat}{w0 w w':World}(h:But b w w')(k:Below B w0 w)(hb:B≤b):Below B w0 w':=
 ⟨h.os.trans k.os,h.tape.trans k.tape,h.output.trans k.output,by rw[h.size];exact k.size,fun i hi=>(h.block i (by omega)).trans (k.block i hi)⟩
theorem But.loc {b c:Nat}{w w':World}{ty:TypeId}{vs:List Value}(h:But b w w')(k:au w c ty vs)(hne:c≠b):au w' c ty vs:=(h.block c hne).trans k
theorem But.rd {b:Nat}{w w':World}{k:IntKind}{v:Value}{zs:List Nat}(h:But b w w')(r:Rd w k v zs)(ho:wF b v zs):Rd w' k v zs:=by
 obtain⟨ao,cap,rfl,h1,h2,h3⟩:=r;refine⟨ao,cap,rfl,h1,h2,fun hp=> ?_⟩
 obtain⟨g,off,rfl,hc⟩:=h3 hp;have hne:=ho hp _ _ _ rfl;exact⟨g,off,rfl,fun j hj=>(h.c (a:=⟨g,off+j,none⟩) hne).trans (hc j hj)⟩
theorem But.own {b:Nat}{w w':World}{base e:Nat}{k:IntKind}{v:Value}{zs:List Nat}(h:But b w w')(r:Own w base e k v zs){ty:TypeId}{vs:List Value}(hl:au w b ty vs)(hty:ty≠e):Own w' base e k v zs:=by
 obtain⟨h0,h2⟩:=r;refine⟨h0, ?_⟩
 rcases h2 with h2| ⟨g',cap',cur,hv,hbg,hh,r⟩
 ·exact .inl h2
 ·refine .inr ⟨g',cap',cur,hv,hbg, ?_,r⟩
  have hne:g'≠b:=by
   intro e;subst e;unfold au at hl;rw[hl] at hh;simp only[Option.some.injEq,Obj.cells.injEq] at hh;exact hty hh.2.1
  rw[h.block g' hne];exact hh
theorem Cd (b:Nat)(ty:TypeId): ∀(vs us pre:List Value) (w:World),au w b ty (pre++us)→us.length=vs.length→au (w.setCells b pre.length vs) b ty (pre++vs)
 | [],us,pre,w,h,hl=>by
  obtain rfl:us=[]:=List.eq_nil_of_length_eq_zero hl;exact h
 |v::r,us,pre,w,h,hl=>by
  obtain⟨u,us',rfl⟩: ∃u us',us=u::us':=by
   cases us with
   |nil=>simp at hl
   |cons u us'=>exact⟨u,us',rfl⟩
  rw[World.setCells];have h1:=h.set pre.length v;have e1:(pre++u::us').set pre.length v=(pre++[v])++us':=by simp
  rw[e1] at h1;have h2:=Cd b ty r us' (pre++[v]) _ h1 (by simpa using hl);have e2:(pre++[v]).length=pre.length+1:=by simp
  rw[e2] at h2;have e3:pre++[v]++r=pre++v::r:=by simp
  rw[e3] at h2;exact h2
theorem au.range {w:World}{b:Nat}{tb:TypeId}{vs:List Value}(h:au w b tb vs):w.rangeAt b 0 vs:=fun j _ hv=>by rw[Nat.zero_add];exact h.c j hv
theorem au.there {w:World}{b:Nat}{tb:TypeId}{us:List Value}(h:au w b tb us)(n:Nat)(hn:n=us.length):w.there b 0 n:=fun j hj=>by
 have hj':j<us.length:=by omega
 rw[Nat.zero_add];exact⟨by rw[h.c j (List.getElem?_eq_getElem hj')];rfl,h.f j⟩
theorem au.sets {w:World}{b:Nat}{tb:TypeId}{us:List Value}(h:au w b tb us)(vs:List Value)(hl:us.length=vs.length):au (w.setCells b 0 vs) b tb vs:=by
 have:=Cd b tb vs us [] w h hl
 simpa using this
theorem dD {w:World}{b:Nat}{ty:TypeId}{vs:List Value}(h:au w b ty vs):w.there b 0 vs.length:=fun j hj=>by
 have:=h.c j (List.getElem?_eq_getElem hj);have hf:=h.f j;simp[this,hf]
theorem aC {w w':World}{g o:Nat}{cs:List Value}(h:w.rangeAt g o cs)(hb:yB w w'):w'.rangeAt g o cs:=fun j v hv=>by
 have:=h j v hv;rw[←this];exact World.cell?_of_block (hb.block g (World.block_lt_of_cell? w _ this))
theorem ZB.rd {w:World}{b:Nat}{v:Value}{zs:List Nat}(h:ZB w b)(hr:Rd w .i64 v zs)(hn:Dg.Norm zs)(x0 x1 x2:Value):
  Rd (((w.setCell ⟨b,0,none⟩ x0).setCell ⟨b,1,none⟩ x1).setCell ⟨b,2,none⟩ x2) .i64 v zs:=by
 obtain⟨hl,ty,hh⟩:=h;obtain⟨ao,cap,rfl,h1,h2,h3⟩:=hr;refine⟨ao,cap,rfl,h1,h2,fun hp=> ?_⟩
 obtain⟨c,off,rfl,hc⟩:=h3 hp;refine⟨c,off,rfl,fun i hi=> ?_⟩
 have hne:c≠b:=by
  intro e;subst e;have k1:=hc (zs.length-1) (by omega);have hz:=hn (List.length_pos_iff.1 hp);unfold World.cell? at k1;simp only[hh] at k1;obtain⟨o,ho⟩: ∃o,off+(zs.length-1)=o:=⟨_,rfl⟩;rw[ho] at k1;generalize zs.getD (zs.length-1) 0=d at*
  match o,k1 with
  |0,k1=>simp at k1
  |1,k1=>simp at k1
  |2,k1=>simp at k1;omega
  |o+3,k1=>simp at k1
 rw[World.cell?_setCell_other (h:=by simp),World.cell?_setCell_other (h:=by simp),World.cell?_setCell_other (h:=by simp)];exact hc i hi
theorem afz {P:Program}{w0 w:World}{n b:Nat}{ty:TypeId}{z0 z1 z2 z3:Value}{d:TypeDesc}(h:au w b ty [z0,z1,z2,z3])(hb:Below n w0 w)(hn:n≤b)(hu:P.underlying ty=some d)(hd:d.isRow=true)(hi:(P.info? ty).map (·.size)=some 4)(v0 v1 v2 v3:Value):
  (loadVar ty ⟨b,0,none⟩).run P ((((w.setCell ⟨b,0,none⟩ v0).setCell ⟨b,1,none⟩ v1).setCell ⟨b,2,none⟩ v2).setCell ⟨b,3,none⟩ v3)= .ok (.agg #[v0,v1,v2,v3]) ((((w.setCell ⟨b,0,none⟩ v0).setCell ⟨b,1,none⟩ v1).setCell ⟨b,2,none⟩ v2).setCell ⟨b,3,none⟩ v3)∧Below n w0 ((((w.setCell ⟨b,0,none⟩ v0).setCell ⟨b,1,none⟩ v1).setCell ⟨b,2,none⟩ v2).setCell ⟨b,3,none⟩ v3)∧But b w ((((w.setCell ⟨b,0,none⟩ v0).setCell ⟨b,1,none⟩ v1).setCell ⟨b,2,none⟩ v2).setCell ⟨b,3,none⟩ v3):=by
 have cR:au ((((w.setCell ⟨b,0,none⟩ v0).setCell ⟨b,1,none⟩ v1).setCell ⟨b,2,none⟩ v2).setCell ⟨b,3,none⟩ v3) b ty [v0,v1,v2,v3]:=((((h.set 0 v0).set 1 v1).set 2 v2).set 3 v3);have bu:=(((ag w b 0 v0).trans (ag _ b 1 v1)).trans (ag _ b 2 v2)).trans (ag _ b 3 v3);exact⟨run_loadVar_mid (P:=P) _ b 0 ty [v0,v1,v2,v3] _ cR.range hu hd hi,bu.below hb hn,bu⟩
theorem Ts {w0 wr w3:World}{e x:Nat}{k:IntKind}{es:List Nat}{lv v':Value}(bel:yB w0 wr)(ownL:Own wr w0.heap.size e k lv es)
  (hown':w3.ownsRow w0.heap.size e 1 v' (es.length+1) ((es.map (fun n:Nat=>Value.int k (n:Int)))++[.int k x]))
  (hgrow:(wr.alloc (.cells #[.int k x] e)).grownBy w3 lv.ownBlock):
  Own w3 w0.heap.size e k v' (es++[x])∧yB w0 w3:=iW bel ownL hown' hgrow
theorem Own.other {w w':World}{base e:Nat}{k:IntKind}{b g n cap:Nat}{zs:List Nat}(h:Own w base e k (.slice (some ⟨b,0,none⟩) n cap) zs)(hg:w.grownBy w' (some g))(hne:b≠g):Own w' base e k (.slice (some ⟨b,0,none⟩) n cap) zs:=by
 have hb:=h.block;obtain⟨hl,h2⟩:=h;refine⟨hl, ?_⟩
 rcases h2 with h2| ⟨g',cap',cur,hv,hbg,hh,r⟩
 ·exact .inl h2
 ·refine .inr ⟨g',cap',cur,hv,hbg, ?_,r⟩
  simp at hv;rw[hg.block g' (by omega) (by intro e;cases e;omega)]
  exact hh
theorem Own.form {w:World}{base e:Nat}{k:IntKind}{v:Value}{zs:List Nat}(h:Own w base e k v zs)(hp:0<zs.length): ∃g cap,v= .slice (some ⟨g,0,none⟩) zs.length cap∧base≤g∧g<w.heap.size∧zs.length≤cap:=by
 have h0:=h;obtain⟨hl,h2⟩:=h
 rcases h2 with⟨_,h2⟩| ⟨g',cap',cur,rfl,hbg,hh,r⟩
 ·omega
 ·exact⟨g',cap',rfl,hbg,h0.block.2,r.1⟩
def ae2 (w:World)(A D M N gr go gb cb:Nat)(bs:List Nat)(iv:Value)(wr:World):Prop:=
 ∃(k:Nat) (R os:List Nat),k≤M∧iv=yi ((k:Int)-1)∧Jm A D M R os N k∧Own wr w.heap.size 116 .u32 (.slice (some ⟨gr,0,none⟩) N N) R∧Own wr w.heap.size 116 .u32 (.slice (some ⟨go,0,none⟩) M M) os∧
  Own wr w.heap.size 116 .u32 (.slice (some ⟨gb,0,none⟩) bs.length cb) bs∧yB w wr
def Two (w:World)(q r:Nat)(e:Ending)(w':World):Prop:=
 ∃v1 v2,e= .returned (.tuple #[v1,v2])∧Own w' w.heap.size 116 .u32 v1 (Dg.dg 4294967296 q)∧Own w' w.heap.size 116 .u32 v2 (Dg.dg 4294967296 r)∧yB w w'
theorem Xs {X Y s M N:Nat}{R os:List Nat}(hY:0<Y)(h:Jm (X*2^s) (Y*2^s) M R os N 0):Dg.vl 4294967296 os=X/Y∧Dg.vl 4294967296 R/2^s=X % Y:=by
 obtain⟨-,-,-,-,-,h6,h7⟩:=h;rw[Nat.pow_zero,Nat.mul_one] at h7;have hp:0<2^s:=Nat.pow_pos (by omega);have hD:0<Y*2^s:=Nat.mul_pos hY hp;have e1:X*2^s/(Y*2^s)=Dg.vl 4294967296 os:=by
  rw[←h6,Nat.mul_add_div hD,Nat.div_eq_of_lt h7,Nat.add_zero]
 have e2:X*2^s % (Y*2^s)=Dg.vl 4294967296 R:=by
  rw[←h6,Nat.mul_add_mod,Nat.mod_eq_of_lt h7]
 rw[Nat.mul_div_mul_right _ _ hp] at e1;rw[Nat.mul_mod_mul_right] at e2;refine⟨e1.symm, ?_⟩;rw[←e2,Nat.mul_div_cancel _ hp]
theorem zf (w:World)(base e d:Nat)(hb:base≤w.heap.size):Own (w.alloc (.cells #[.int .u32 d] e)) base e .u32 (.slice (some ⟨w.heap.size,0,none⟩) 1 1) [d]:=
 World.ownsRow_lit (e:=e) (size:=1) (base:=base) w #[.int .u32 d] 1 hb (by unfold maxLen;omega) rfl
def aex (w:World)(n k bl:Nat)(pv iv:Value)(wr:World):Prop:=
 ∃j:Nat,j≤bl∧iv=yi ((j:Int)-1)∧Own wr w.heap.size 116 .u32 pv (Dg.dg 4294967296 (n^ (k/2^j)))∧yB w wr
theorem ik.store {w:World}{g:Nat}{zs:List Nat}(h:ik w g zs)(j x:Nat):ik (w.setCell ⟨g,j,none⟩ (.int .u8 x)) g (zs.set j x):=by
 refine⟨fun i hi=> ?_,fun i hi=> ?_,by simpa[World.setCell] using h.lt⟩
 ·rw[List.length_set] at hi
  by_cases e:j=i
  ·subst e
   rw[World.cell?_setCell_same (h:=h.c j hi)];simp[List.getD_eq_getElem?_getD,hi]
  ·rw[World.cell?_setCell_other (h:=by intro k;cases k;exact e rfl),h.c i hi]
   simp[List.getD_eq_getElem?_getD,e]
 ·rw[List.length_set] at hi
  rw[O7];exact h.f i hi
theorem Ev {w:World}{base e:Nat}{g n cap:Nat}{zs:List Nat}(h:Own w base e .u8 (.slice (some ⟨g,0,none⟩) n cap) zs):ik w g zs:=
 ⟨fun i hi=>h.c i hi,fun i _=>h.f i,h.block.2⟩
def iS (f:Nat):Nat→Nat→List Nat→List Nat
 |0,_,zs=>zs
 |c+1,x,zs=>iS f c (x/2) (zs.set ((f+c)/8) (zs.getD ((f+c)/8) 0|||x % 2*2^ (7-(f+c) % 8)))
theorem Io {B:Nat}{zs:List Nat}(h:Dg.Small B zs)(i x:Nat)(hx:x<B):Dg.Small B (zs.set i x):=by
 intro k
 by_cases hk:i<zs.length
 ·rw[Dg.getD_set _ _ _ _ hk]
  by_cases e:i=k
  ·rw[if_pos e];exact hx
  ·rw[if_neg e];exact h k
 ·rw[List.set_eq_of_length_le (by omega)]
  exact h k
theorem br {P:Program}{fn:Func}{a:Nat}{ty:TypeId}{tmps:Array Value}{w:World}{b:Nat}{v:Value}(hres:fn.results= #[.cell a ty])(hp:tmps.getD a undef= .pointer (some ⟨b,0,none⟩))(hl:(loadVar ty ⟨b,0,none⟩).run P w= .ok v w):(results fn tmps).run P w= .ok v w:=by
 rw[Array.getD_eq_getD_getElem?] at hp;unfold results;simp[hres,hp,asAddr,hl]
theorem aj {P:Program}{fn:Func}{a t:Nat}{ty:TypeId}{tmps:Array Value}{w:World}{b:Nat}{v u:Value}(hres:fn.results= #[.cell a ty,.tmp t])(hp:tmps.getD a undef= .pointer (some ⟨b,0,none⟩))(hu:tmps.getD t undef=u)(hl:(loadVar ty ⟨b,0,none⟩).run P w= .ok v w):(results fn tmps).run P w= .ok (.tuple #[v,u]) w:=by
 rw[Array.getD_eq_getD_getElem?] at hp hu;unfold results;simp[hres,hp,hu,asAddr,hl]
def Bg (zs:List Nat):List Nat:=(List.range zs.length).map fun i=>zs.getD (i+1-2*(i % 2)) 0
def jT (k:Nat)(zs:List Nat):List Nat:=if k=3 then zs.reverse else if 6≤k then Bg zs else zs
theorem au.grown {w w':World}{b g:Nat}{ty:TypeId}{vs:List Value}(h:au w b ty vs)(hg:w.grownBy w' (some g))(hne:b≠g):au w' b ty vs:=
 (hg.block b h.lt (fun e=>hne (Option.some.inj e))).trans h
def wG (k:Nat)(s:ByteArray):List Nat:=jT k (jr s)
def aZ (k:Nat)(s:ByteArray):Bool:=decide (eH (wG k s) 0 1=1)
def aR (k:Nat)(s:ByteArray):Nat:=eH (wG k s) 1 (exN k)
def aU (k:Nat)(s:ByteArray):Nat:=eH (wG k s) (1+exN k) (frN k)
theorem il (f:Nat): ∀(c x:Nat) (zs:List Nat),(iS f c x zs).length=zs.length
 |0,_,_=>rfl
 |c+1,x,zs=>by rw[iS,il f c];exact List.length_set
theorem mj (f:Nat): ∀(c x:Nat) (zs:List Nat),Dg.Small 256 zs→Dg.Small 256 (iS f c x zs)
 |0,_,_,h=>h
 |c+1,x,zs,h=>by
  rw[iS];exact mj f c _ _ (Io h _ _ (Nat.or_lt_two_pow (n:=8) (h _) (Cf _ _)))
def WH (w:World)(q r d:Nat)(e:Ending)(w':World):Prop:=
 ∃v1 v2 v3,e= .returned (.tuple #[v1,v2,v3])∧Own w' w.heap.size 116 .u32 v1 (Dg.dg 4294967296 q)∧Own w' w.heap.size 116 .u32 v2 (Dg.dg 4294967296 r)∧Rd w' .u32 v3 (Dg.dg 4294967296 d)∧yB w w'
def Fk (w:World)(t:fz)(e:Ending)(w':World):Prop:=
 ∃v,e= .returned (ypV t.s v t.p t.ex t.ov t.un)∧Own w' w.heap.size 116 .u32 v (Dg.dg 4294967296 t.d)∧yB w w'
def sq (w:World)(c:Int)(t:fz)(e:Ending)(w':World):Prop:=
 ∃v,e= .returned (.tuple #[ypV t.s v t.p t.ex t.ov t.un,yi c])∧Own w' w.heap.size 116 .u32 v (Dg.dg 4294967296 t.d)∧yB w w'
theorem xD {w:World}{q:Nat}(h:w.cell? ⟨q,0,none⟩=some (.int .u32 1)):Rd w .u32 (.slice (some ⟨q,0,none⟩) 1 1) [1]:=
 ⟨_,1,rfl,Nat.le_refl _,by unfold maxLen;omega,fun _=>⟨q,0,rfl,fun i hi=>by
  obtain rfl:i=0:=by simpa using hi
  exact h⟩⟩
theorem rd_one1 {w:World}{q:Nat}(h:w.cell? ⟨q,0,none⟩=some (.int .u32 1)):Rd w .u32 (.slice (some ⟨q,0,none⟩) 1 1) (Dg.dg 4294967296 1):=xD h
def RtR (w:World)(ng:Bool)(a b:Nat)(e:Int)(z:Ending)(w':World):Prop:=
 ∃v u,z= .returned (yrV ng v u e)∧Rd w' .u32 v (Dg.dg 4294967296 a)∧Rd w' .u32 u (Dg.dg 4294967296 b)∧yB w w'
def NbR (w:World)(n:Nat)(l:Bool)(z:Ending)(w':World):Prop:= ∃v,z= .returned (.tuple #[v,.bool l])∧Rd w' .u32 v (Dg.dg 4294967296 n)∧yB w w'
def iT (w:World)(c:Int)(ng:Bool)(m:Nat)(p:Int)(z:Ending)(w':World):Prop:=
 ∃v,z= .returned (yvV c ng v p)∧Rd w' .u32 v (Dg.dg 4294967296 m)∧yB w w'
def bM (n:Int)(s:ByteArray):Nat:=if dF n s=0 then dh n.toNat (aZ n.toNat s) (aR n.toNat s) (aU n.toNat s) else 0
def dz (n:Int)(s:ByteArray):Bool:=if dF n s=0 then kt n.toNat (aZ n.toNat s) (aR n.toNat s) (aU n.toNat s) else false
def D7 (w:World)(h:Bool)(d:Nat)(k:Int)(e:Ending)(w':World):Prop:=
 ∃u,e= .returned (.tuple #[.agg #[u,yi k],.bool h])∧Own w' w.heap.size 116 .u32 u (Dg.dg 4294967296 d)∧yB w w'
def DM (w:World)(h:Bool)(d:Nat)(k c:Int)(e:Ending)(w':World):Prop:=
 ∃u,e= .returned (.tuple #[.agg #[u,yi k],.bool h,yi c])∧Own w' w.heap.size 116 .u32 u (Dg.dg 4294967296 d)∧yB w w'
def Xn (w:World)(s9 s10:Value)(hd:Bool)(rd:Nat)(rk:Int)(wx:World):Prop:=
 ∃pb so sc,s9= .pointer (some ⟨pb,0,none⟩)∧s10= .bool hd∧w.heap.size+1+1≠pb∧w.heap.size≤pb∧au wx pb 212 [yT so rd sc,yi rk]∧Own wx w.heap.size 116 .u32 (yT so rd sc) (Dg.dg 4294967296 rd)∧au wx (w.heap.size+1+1) 212 [yN,yi 0]∧yB w wx
theorem Is {w wb:World}{hd:Bool}{rd:Nat}{rk:Int}{so:Option Addr}{sc nb:Nat}(hc:au wb (w.heap.size+1+1) 212 [yN,yi 0])(hn:au wb nb 212 [yN,yi 0])(ho:Own wb w.heap.size 116 .u32 (yT so rd sc) (Dg.dg 4294967296 rd))(hb:yB w wb)(h1:w.heap.size+1+1≠nb)(h2:w.heap.size≤nb):
  Xn w (.pointer (some ⟨nb,0,none⟩)) (.bool hd) hd rd rk ((wb.setCell ⟨nb,0,none⟩ (yT so rd sc)).setCell ⟨nb,1,none⟩ (yi rk)):=by
 have bu:=(ag wb nb 0 (yT so rd sc)).trans (ag _ nb 1 (yi rk));exact⟨nb,so,sc,rfl,rfl,h1,h2,(hn.set 0 _).set 1 _,bu.own ho hn (by decide),bu.loc hc h1,bu.below hb h2⟩
def nxT (k:Nat)(s:ByteArray):ak:=ji k (aZ k s) (aR k s) (aU k s)
def opT (n:Int)(p:ByteArray):ak:=if dF n p=0 then nxT n.toNat p else⟨false,0,0⟩
def opC (n : Int) (p : ByteArray) (v : Value) : List Value := [.int .i64 ((bM n p : Nat) : Int), .bool (dz n p), .bool (opT n p).s, v, .int .i64 (opT n p).e]
def F7 (w:World)(n:Int)(g:Option Nat)(p:ByteArray)(v:Value):Prop:=
 (∃so sc,v= .slice so (Dg.dg 4294967296 (opT n p).n).length sc)∧Rd w .u32 v (Dg.dg 4294967296 (opT n p).n)∧ ∀b,g=some b→wF b v (Dg.dg 4294967296 (opT n p).n)
def sV (w:World)(n:Int)(g:Option Nat):List ByteArray→List Value→Prop
 | [],cs=>cs=[]
 |p::ps,cs=> ∃v rest,cs=opC n p v++rest∧F7 w n g p v∧sV w n g ps rest
theorem sV.mono {w w':World}{n:Int}{g g':Option Nat}(h: ∀p v,F7 w n g p v→F7 w' n g' p v): ∀{ps:List ByteArray} {cs:List Value},sV w n g ps cs→sV w' n g' ps cs
 | [],_,hc=>hc
 |p::_,_,hc=>by
  obtain⟨v,rest,h1,h2,h3⟩:=hc;exact⟨v,rest,h1,h p v h2,sV.mono h h3⟩
def Vc (w:World)(n:Int)(ps:List ByteArray)(i:Nat)(lv:Value)(wr:World):Prop:=
 ∃cs,wr.ownsRow (w.heap.size+1) 88 5 lv i cs∧sV wr n lv.ownBlock (ps.take i) cs∧fT n ps=fT n (ps.drop i)
structure sF (w:World) (n:Int) (ps:List ByteArray) (g cap:Nat):Prop where
 fit:ps.length≤cap
 most:cap≤maxLen
 each: ∀(i:Nat) p,ps[i]? =some p→ ∃so sc,w.rangeAt g (i*5) (opC n p (.slice so (Dg.dg 4294967296 (opT n p).n).length sc))∧Rd w .u32 (.slice so (Dg.dg 4294967296 (opT n p).n).length sc) (Dg.dg 4294967296 (opT n p).n)
theorem ut.trans {J K:Int}{N1 M1 N2 M2 N3 M3:Nat}{E1 E2 E3:Int}(h:ut J N1 M1 E1 N2 M2 E2)(g:ut K N2 M2 E2 N3 M3 E3):ut (max J K) N1 M1 E1 N3 M3 E3:=fun j hj=>by
 obtain⟨a1,a2⟩:=h j (by omega);obtain⟨b1,b2⟩:=g j (by omega);exact⟨a1.trans b1,a2.trans b2⟩
theorem ut.mono {J K:Int}{N1 M1 N2 M2:Nat}{E1 E2:Int}(h:ut J N1 M1 E1 N2 M2 E2)(hk:J≤K):ut K N1 M1 E1 N2 M2 E2:=fun j hj=>h j (by omega)
def rfT (n:Int)(p:ByteArray):ak:=ji n.toNat (aZ n.toNat p) (aR n.toNat p) (aU n.toNat p)
def Gw (w:World)(n:Int)(g:Option Nat)(p:ByteArray)(v:Value):Prop:=
 (∃so sc,v= .slice so (Dg.dg 65536 (rfT n p).n).length sc)∧Rd w .i64 v (Dg.dg 65536 (rfT n p).n)∧ ∀b,g=some b→wF b v (Dg.dg 65536 (rfT n p).n)
def ZB6 (w:World)(b:Nat):Prop:=b<w.heap.size∧ ∃ty,w.heap[b]? =some (.cells #[.bool false,yN,yi 0,.bool false,yN,yi 0] ty (0,0))
theorem ZB6.rd {w:World}{b:Nat}{v:Value}{zs:List Nat}(h:ZB6 w b)(hr:Rd w .i64 v zs)(hn:Dg.Norm zs)(x0 x1 x2 x3 x4 x5:Value):
  Rd ((((((w.setCell ⟨b,0,none⟩ x0).setCell ⟨b,1,none⟩ x1).setCell ⟨b,2,none⟩ x2).setCell ⟨b,3,none⟩ x3).setCell ⟨b,4,none⟩ x4).setCell ⟨b,5,none⟩ x5) .i64 v zs:=by
 obtain⟨hl,ty,hh⟩:=h;obtain⟨ao,cap,rfl,h1,h2,h3⟩:=hr;refine⟨ao,cap,rfl,h1,h2,fun hp=> ?_⟩
 obtain⟨c,off,rfl,hc⟩:=h3 hp;refine⟨c,off,rfl,fun i hi=> ?_⟩
 have hne:c≠b:=by
  intro e;subst e;have k1:=hc (zs.length-1) (by omega);have hz:=hn (List.length_pos_iff.1 hp);unfold World.cell? at k1;simp only[hh] at k1;obtain⟨o,ho⟩: ∃o,off+(zs.length-1)=o:=⟨_,rfl⟩;rw[ho] at k1;generalize zs.getD (zs.length-1) 0=d at*
  match o,k1 with
  |0,k1=>simp at k1
  |1,k1=>simp at k1
  |2,k1=>simp at k1;omega
  |3,k1=>simp at k1
  |4,k1=>simp at k1
  |5,k1=>simp at k1;omega
  |o+6,k1=>simp at k1
 rw[World.cell?_setCell_other (h:=by simp),World.cell?_setCell_other (h:=by simp),World.cell?_setCell_other (h:=by simp),World.cell?_setCell_other (h:=by simp),World.cell?_setCell_other (h:=by simp),World.cell?_setCell_other (h:=by simp)];exact hc i hi
theorem num_nmR {w:World}{n:Nat}{z:Ending}{w':World}(h:Num w n z w'):NmR w n z w':=by
 obtain⟨v,h1,h2,h3⟩:=h;exact⟨v,h1,h2.rd,h3⟩
theorem two_tw {w:World}{a b:Nat}{z:Ending}{w':World}(h:Two w a b z w'):TwR w a b z w':=by
 obtain⟨v,u,h1,h2,h3,h4⟩:=h;exact⟨v,u,h1,h2.rd,h3.rd,h4⟩
end Go.Proofs.YtdhpndnncmagiaaGreatDoor
