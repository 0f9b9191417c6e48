/-
  Texts laid together: Mem, Lk, Lk2, Ex, Dr1, Aw0, Co6, Co2, Cr2, Cr4, Dp1c.
-/
import Derived.Deep.Cut
import Derived.Test.YtlgkfdcmokchgaaGreatDoorUt01
set_option maxRecDepth 100000
set_option maxHeartbeats 3200000
namespace Go.Proofs.YtlgkfdcmokchgaaGreatDoor
open _root_.Go.Proofs.Tryz
open Go.RowKit
theorem Rd.shape {w:World}{k:IntKind}{v:Value}{zs:List Nat}(h:Rd w k v zs): ∃ao cap,v= .slice ao zs.length cap:=by
 obtain⟨ao,cap,hv,_⟩:=h;exact⟨ao,cap,hv⟩
theorem au.drew {w:World}{b:Nat}{ty:TypeId}{vs:List Value}(h:au w b ty vs):au w.drew b ty vs:=h.l (Below.refl _ _).drew
theorem ag (w:World)(b i:Nat)(x:Value):But b w (w.setCell ⟨b,i,none⟩ x):=
 ⟨rfl,rfl,rfl,by simp[World.setCell],fun _ hk=>Below.heap_setCell _ _ _ _ hk⟩
theorem de (b:Nat): ∀(vs:List Value) (o:Nat) (w:World),But b w (w.setCells b o vs)
 | [],_,w=>⟨rfl,rfl,rfl,rfl,fun _ _=>rfl⟩
 |v::r,o,w=>by
  rw[World.setCells];exact(ag w b o v).trans (de b r (o+1) _)
theorem But.below {b B:Nat}{w0 w w':World}(h:But b w w')(k:Below B w0 w)(hb:B≤b):Below B w0 w':=
 ⟨h.os.trans k.os,h.tape.trans k.tape,h.output.trans k.output,by rw[h.size];exact k.size,fun i hi=>(h.block i (by omega)).trans (k.block i hi)⟩
theorem But.loc {b c:Nat}{w w':World}{ty:TypeId}{vs:List Value}(h:But b w w')(k:au w c ty vs)(hne:c≠b):au w' c ty vs:=(h.block c hne).trans k
theorem But.rd {b:Nat}{w w':World}{k:IntKind}{v:Value}{zs:List Nat}(h:But b w w')(r:Rd w k v zs)(ho:wF b v zs):Rd w' k v zs:=by
 obtain⟨ao,cap,rfl,h1,h2,h3⟩:=r;refine⟨ao,cap,rfl,h1,h2,fun hp=> ?_⟩
 obtain⟨g,off,rfl,hc⟩:=h3 hp;have hne:=ho hp _ _ _ rfl;exact⟨g,off,rfl,fun j hj=>(h.c (a:=⟨g,off+j,none⟩) hne).trans (hc j hj)⟩
theorem Cd (b:Nat)(ty:TypeId): ∀(vs us pre:List Value) (w:World),au w b ty (pre++us)→us.length=vs.length→au (w.setCells b pre.length vs) b ty (pre++vs)
 | [],us,pre,w,h,hl=>by
  obtain rfl:us=[]:=List.eq_nil_of_length_eq_zero hl;exact h
 |v::r,us,pre,w,h,hl=>by
  obtain⟨u,us',rfl⟩: ∃u us',us=u::us':=by
   cases us with
   |nil=>simp at hl
   |cons u us'=>exact⟨u,us',rfl⟩
  rw[World.setCells];have h1:=h.set pre.length v;have e1:(pre++u::us').set pre.length v=(pre++[v])++us':=by simp
  rw[e1] at h1;have h2:=Cd b ty r us' (pre++[v]) _ h1 (by simpa using hl);have e2:(pre++[v]).length=pre.length+1:=by simp
  rw[e2] at h2;have e3:pre++[v]++r=pre++v::r:=by simp
  rw[e3] at h2;exact h2
theorem au.range {w:World}{b:Nat}{tb:TypeId}{vs:List Value}(h:au w b tb vs):w.rangeAt b 0 vs:=fun j _ hv=>by rw[Nat.zero_add];exact h.c j hv
theorem au.sets {w:World}{b:Nat}{tb:TypeId}{us:List Value}(h:au w b tb us)(vs:List Value)(hl:us.length=vs.length):au (w.setCells b 0 vs) b tb vs:=by
 have:=Cd b tb vs us [] w h hl
 simpa using this
theorem gU {P:Program}{o:Oper}{a:Act}{w:World}(t:TypeId)(x:Operand)(ho:o.op= .load t x)(b i:Nat)(hx:a.eval x= .pointer (some ⟨b,i,none⟩))(v:Value)(d:TypeDesc)(hu:P.underlying t=some d)(hd:d.isRow=false)(hc:w.cell? ⟨b,i,none⟩=some v):(execOp a.eval o).run P w= .ok (.value v) w:=by
 have hagg:(isAgg t).run P w= .ok false w:=by
  unfold isAgg;rw[Sem.run_bind,run_underlying hu w]
  cases d<;>simp_all
 have hl:(loadVar t ⟨b,i,none⟩).run P w= .ok v w:=by
  simp[loadVar,Sem.run_bind,hagg,hc]
 unfold execOp;simp[ho,hx,Instr.loadAt,Instr.sureAddr,hl]
theorem dD {w:World}{b:Nat}{ty:TypeId}{vs:List Value}(h:au w b ty vs):w.there b 0 vs.length:=fun j hj=>by
 have:=h.c j (List.getElem?_eq_getElem hj);have hf:=h.f j;simp[this,hf]
def di (w:World)(t:ak)(e:Ending)(w':World):Prop:= ∃s,e= .returned (ydV t.s s t.e)∧Rd w' .i64 s (Dg.dg 65536 t.n)∧Far w.heap.size s∧yB w w'
theorem iG (w:World)(c0:List Value)(t0:TypeId)(c1:List Value)(t1:TypeId): ∃W,(w.alloc (.cells c0.toArray t0)).alloc (.cells c1.toArray t1)=W∧au W w.heap.size t0 c0∧au W (w.heap.size+1) t1 c1∧yB w W:=by
 obtain⟨W,rfl,h0,b0⟩:=cA w c0 t0;have h1:=ah (w.alloc (.cells c0.toArray t0)) c1 t1;have b1:=af (w.alloc (.cells c0.toArray t0)) (.cells c1.toArray t1);rw[World.size_alloc] at h1;exact⟨_,rfl,h0.l b1,h1,aa b0 b1⟩
theorem lG (w:World)(c0:List Value)(t0:TypeId)(c1:List Value)(t1:TypeId)(c2:List Value)(t2:TypeId): ∃W,((w.alloc (.cells c0.toArray t0)).alloc (.cells c1.toArray t1)).alloc (.cells c2.toArray t2)=W∧au W w.heap.size t0 c0∧au W (w.heap.size+1) t1 c1∧au W (w.heap.size+1+1) t2 c2∧yB w W:=by
 obtain⟨W,rfl,h0,h1,b0⟩:=iG w c0 t0 c1 t1;have h2:=ah ((w.alloc (.cells c0.toArray t0)).alloc (.cells c1.toArray t1)) c2 t2;have b2:=af ((w.alloc (.cells c0.toArray t0)).alloc (.cells c1.toArray t1)) (.cells c2.toArray t2);rw[World.size_alloc,World.size_alloc] at h2;exact⟨_,rfl,h0.l b2,h1.l b2,h2,aa b0 b2⟩
theorem tk {P:Program}{md:Region.Mode}{ops:Array Oper}{Q:Exit→Act→World→Prop}{S:World→Prop}{oi:Oper}{fuel:Nat}{listed:Array Bool}{a:Act}{w:World}(i:Nat)(v:Value)(hi:ops[i]? =some oi)
  (hb:(Region.noSelect ops&&(Region.free md ops listed i&&((Region.ready md ops listed).contains i&&Region.wanted oi (yielded ops a.tmps))))=true)
  (hQ: ∀c a w,Q (.panic c) (a.put oi.dst v) w→Q (.panic c) a w) (hv: ∀w0,S w0→(execOp a.eval oi).run P w0= .ok (.value v) w0) (hS:S w)
  (h:wpAnyH P md ops Q S fuel (listed.setIfInBounds i true) (a.put oi.dst v) w):wpAnyH P md ops Q S (fuel+1) listed a w:=by
 simp only[Bool.and_eq_true] at hb;exact wpAnyH_take hi hb.1 hb.2.1 hb.2.2.1 hQ (Or.inl ⟨hb.2.2.2,hv⟩) hS h
theorem ik.drew {w:World}{g:Nat}{zs:List Nat}(h:ik w g zs):ik w.drew g zs:=h.l (Below.refl _ _).drew
theorem br {P:Program}{fn:Func}{a:Nat}{ty:TypeId}{tmps:Array Value}{w:World}{b:Nat}{v:Value}(hres:fn.results= #[.cell a ty])(hp:tmps.getD a undef= .pointer (some ⟨b,0,none⟩))(hl:(loadVar ty ⟨b,0,none⟩).run P w= .ok v w):(results fn tmps).run P w= .ok v w:=by
 rw[Array.getD_eq_getD_getElem?] at hp;unfold results;simp[hres,hp,asAddr,hl]
def jp (w:World)(base:Nat)(v:Value)(bs:List Bool):Prop:=w.ownsRow base 4 1 v bs.length (bs.map Value.bool)
theorem Tryz.infoB:(Tryz.prog.info? 4).map (fun i=>(i.zero,i.size,i.bytes))=some (some (.bool false),1,1):=by kernel_rfl
theorem jp.l {w w':World}{base:Nat}{v:Value}{bs:List Bool}(h:jp w base v bs)(hb:yB w w'):jp w' base v bs:=by
 obtain⟨hl,h2⟩:=h;refine⟨hl, ?_⟩
 rcases h2 with h2| ⟨g,cap,cur,hv,hbg,hh,r⟩
 ·exact .inl h2
 ·refine .inr ⟨g,cap,cur,hv,hbg, ?_,r⟩
  rw[hb.block g ?_]
  ·exact hh
  ·rw[Array.getElem?_eq_some_iff] at hh
   exact hh.1
def Xi (B:Nat)(w:World)(t:ak)(z:Ending)(w':World):Prop:=
 ∃s,z= .returned (ydV t.s s t.e)∧Rd w' .i64 s (Dg.dg 65536 t.n)∧yB w w'∧Hid (Far B s)
theorem refDP_less (ea eb E da db ma mb:Int)(sa sb:Bool)(ao bo:Option Addr)(la lb ac bc:Nat)(X Y Z:Nat)(t:ak)(w:World)(cm:Int)(hs:(sa==sb)=false)(hc: ¬cm≥0)(hc:((la:Int)==0)=false∧((lb:Int)==0)=false∧min ea eb=E∨((la:Int)==0)=true∧((lb:Int)==0)=false∧eb=E∨((la:Int)==0)=false∧((lb:Int)==0)=true∧ea=E∨((la:Int)==0)=true∧((lb:Int)==0)=true∧ea=E)(hda:IntKind.i64.wrap (ea-E)=da)(hdb:IntKind.i64.wrap (eb-E)=db)(hma:max 0 da=ma)(hmb:max 0 db=mb)
  (HU: ∀w1,yB w w1→yC 26 #[.slice ao la ac,yi ma] w1 (cG w1 X))
  (HV: ∀w1,yB w w1→yC 26 #[.slice bo lb bc,yi mb] w1 (cG w1 Y))
  (HC: ∀xo xc yo yc w1,yB w w1→Rd w1 .i64 (yS xo X xc) (Dg.dg 65536 X)→Rd w1 .i64 (yS yo Y yc) (Dg.dg 65536 Y)→yC 63 #[yS xo X xc,yS yo Y yc] w1 (yR w1 (yi cm)))
  (HP: ∀xo xc yo yc w1,yB w w1→Rd w1 .i64 (yS xo X xc) (Dg.dg 65536 X)→Rd w1 .i64 (yS yo Y yc) (Dg.dg 65536 Y)→yC 65 #[yS yo Y yc,yS xo X xc] w1 (cG w1 Z))
  (HB: ∀zo zc w1,yB w w1→Rd w1 .i64 (yS zo Z zc) (Dg.dg 65536 Z)→yC 30 #[ydV sb (yS zo Z zc) E] w1 (Xi w.heap.size w1 t)):
  yC 29 #[ydV sa (.slice ao la ac) ea,ydV sb (.slice bo lb bc) eb] w (di w t):=by
 replace HU:Hid _:=HU;replace HV:Hid _:=HV;replace HC:Hid _:=HC;replace HP:Hid _:=HP;replace HB:Hid _:=HB;obtain⟨W5,hW6,q1,q2,q3,b4⟩:=lG w (ydL sa (.slice ao la ac) ea) 30 (ydL sb (.slice bo lb bc) eb) 30 (ydL false yN 0) 30;replace hW6:Hid _:=hW6
 go_enter func29,ntmps29
 go_upto_region 1 with fail
 rw[hW6.out];clear hW6;have c7:=q1.c 1 rfl;have c8:=q1.c 2 rfl;have c9:=q2.c 1 rfl;have c10:=q2.c 2 rfl
 rcases hc with⟨hla,hlb,hE⟩| ⟨hla,hlb,hE⟩| ⟨hla,hlb,hE⟩| ⟨hla,hlb,hE⟩
 all_goals try rw[hE] at c8
 all_goals try rw[hE] at c10
 all_goals
  go_upto_region 6 with fail
  clear hE;clear c7 c8 c9 c10;have bW11:yB W5 W5.drew:=(Below.refl _ _).drew;have q12:=q1.l bW11;have q13:=q2.l bW11;have q14:=q3.l bW11;have b15:=aa b4 bW11;clear q1 q2 q3 b4 bW11;refine wp_region_held_drew (S:=fun wq=>au wq w.heap.size 30 (ydL sa (.slice ao la ac) ea)∧au wq (w.heap.size+1) 30 (ydL sb (.slice bo lb bc) eb)) (by kernel_rfl) ⟨q12,q13⟩ (fun hS0=> ?_)
  generalize W5.drew=WD16 at q12 q13 q14 b15 hS0⊢;refine tq 0 (.pointer (some ⟨w.heap.size,1,none⟩)) rfl (fun _ _=>by kernel_rfl) hS0 ?_
  refine tq 1 (.slice ao la ac) rfl (fun _ hw0=>gU 27 (.tmp 25) rfl w.heap.size 1 (by kernel_rfl) _ _ underlying27 rfl (hw0.1.c 1 rfl)) hS0 ?_
  refine tq 2 (.pointer (some ⟨w.heap.size,2,none⟩)) rfl (fun _ _=>by kernel_rfl) hS0 ?_
  refine tq 3 (yi ea) rfl (fun _ hw0=>gU 3 (.tmp 27) rfl w.heap.size 2 (by kernel_rfl) _ _ underlying3 rfl (hw0.1.c 2 rfl)) hS0 ?_
  refine tq 4 (yi E) rfl (fun _ _=>by kernel_rfl) hS0 ?_
  refine tq 5 (yi da) rfl (fun _ _=>by go_simp) hS0 ?_
  refine tq 6 (yi ma) rfl (fun _ _=>by go_simp) hS0 ?_
  refine tq 8 (.pointer (some ⟨w.heap.size+1,1,none⟩)) rfl (fun _ _=>by kernel_rfl) hS0 ?_
  refine tq 9 (.slice bo lb bc) rfl (fun _ hw0=>gU 27 (.tmp 33) rfl (w.heap.size+1) 1 (by kernel_rfl) _ _ underlying27 rfl (hw0.2.c 1 rfl)) hS0 ?_
  refine tq 10 (.pointer (some ⟨w.heap.size+1,2,none⟩)) rfl (fun _ _=>by kernel_rfl) hS0 ?_
  refine tq 11 (yi eb) rfl (fun _ hw0=>gU 3 (.tmp 35) rfl (w.heap.size+1) 2 (by kernel_rfl) _ _ underlying3 rfl (hw0.2.c 2 rfl)) hS0 ?_
  refine tq 12 (yi E) rfl (fun _ _=>by kernel_rfl) hS0 ?_
  refine tq 13 (yi db) rfl (fun _ _=>by go_simp) hS0 ?_
  refine tq 14 (yi mb) rfl (fun _ _=>by go_simp) hS0 ?_
  refine wpAnyH_ready (rs:=[7]) (by kernel_rfl) (by simp) ?_;refine AllReadyH.cons rfl (fun K hK=> ?_) AllReadyH.nil
  go_simp
  refine(HU.out _ b15).mono ?_;rintro zz w17 ⟨v119,rfl,r120,bb18⟩;have q21:=q12.l bb18;have q22:=q13.l bb18;have q23:=q14.l bb18;have b24:=aa b15 bb18;obtain⟨xo,xc,hv⟩:=r120.shape;subst hv;clear q12 q13 q14 b15 bb18 HU;refine hK.out _ _ ⟨q21,q22⟩ (fun hS25=> ?_)
  clear hK K;refine wpAnyH_ready (rs:=[15]) (by kernel_rfl) (by simp) ?_;refine AllReadyH.cons rfl (fun K hK=> ?_) AllReadyH.nil
  go_simp
  refine(HV.out _ b24).mono ?_;rintro zz w26 ⟨v128,rfl,r129,bb27⟩;have q30:=q21.l bb27;have q31:=q22.l bb27;have q32:=q23.l bb27;have r33:=r120.l bb27;have b34:=aa b24 bb27;obtain⟨yo,yc,hv⟩:=r129.shape;subst hv;clear q21 q22 q23 r120 b24 bb27 HV;refine hK.out _ _ ⟨q30,q31⟩ (fun hS35=> ?_)
  clear hK K;refine tq 16 (yS xo X xc) rfl (fun _ _=>by kernel_rfl) hS35 ?_
  refine tq 17 (yS yo Y yc) rfl (fun _ _=>by kernel_rfl) hS35 ?_
  refine wpAnyH_done (by kernel_rfl) ?_ _;clear hS0 hS25 hS35;simp only[Act.put,List.getElem_toArray,List.getElem_cons_succ,List.getElem_cons_zero,List.setIfInBounds_toArray,List.set_cons_zero,List.set_cons_succ];have c36:=q30.c 0 rfl;have c37:=q31.c 0 rfl
  go_wp2_with fail
  refine(HC.out _ _ _ _ _ b34 r33 r129).mono ?_;rintro zz w38 ⟨rfl,bb39⟩;have q40:=q31.l bb39;have q41:=q32.l bb39;have r42:=r33.l bb39;have r43:=r129.l bb39;have b44:=aa b34 bb39;clear q30 q31 q32 r33 r129 b34 bb39 HC c36 c37
  go_upto_region 11 with fail
  have bW45:yB w38 w38.drew:=(Below.refl _ _).drew;have q46:=q40.l bW45;have q47:=q41.l bW45;have r48:=r42.l bW45;have r49:=r43.l bW45;have b50:=aa b44 bW45;clear q40 q41 r42 r43 b44 bW45;refine wp_region_held_drew (S:=fun wq=>au wq (w.heap.size+1) 30 (ydL sb (.slice bo lb bc) eb)) (by kernel_rfl) q46 (fun hS0=> ?_)
  generalize w38.drew=WD51 at q46 q47 r48 r49 b50 hS0⊢;refine tq 0 (.pointer (some ⟨w.heap.size+1,0,none⟩)) rfl (fun _ _=>by kernel_rfl) hS0 ?_
  refine tq 1 (.bool sb) rfl (fun _ hw0=>gU 4 (.tmp 66) rfl (w.heap.size+1) 0 (by kernel_rfl) _ _ underlying4 rfl (hw0.c 0 rfl)) hS0 ?_
  refine tq 2 (yS yo Y yc) rfl (fun _ _=>by kernel_rfl) hS0 ?_
  refine tq 3 (yS xo X xc) rfl (fun _ _=>by kernel_rfl) hS0 ?_
  refine tq 5 (yi E) rfl (fun _ _=>by kernel_rfl) hS0 ?_
  refine wpAnyH_ready (rs:=[4]) (by kernel_rfl) (by simp) ?_;refine AllReadyH.cons rfl (fun K hK=> ?_) AllReadyH.nil
  go_simp
  refine(HP.out _ _ _ _ _ b50 r48 r49).mono ?_;rintro zz w52 ⟨v154,rfl,r155,bb53⟩;have q56:=q46.l bb53;have q57:=q47.l bb53;have r58:=r48.l bb53;have r59:=r49.l bb53;have b60:=aa b50 bb53;obtain⟨zo,zc,hv⟩:=r155.shape;subst hv;clear q46 q47 r48 r49 b50 bb53 HP;refine hK.out _ _ q56 (fun hS61=> ?_)
  clear hK K;refine tq 6 (ydV sb (yS zo Z zc) E) rfl (fun _ _=>by kernel_rfl) hS61 ?_
  refine wpAnyH_ready (rs:=[7]) (by kernel_rfl) (by simp) ?_;refine AllReadyH.cons rfl (fun K hK=> ?_) AllReadyH.nil
  go_simp
  refine(HB.out _ _ _ b60 r155).mono ?_;rintro zz w62 ⟨v164,rfl,r165,bb63,hF⟩;have q66:=q56.l bb63;have q67:=q57.l bb63;have r68:=r58.l bb63;have r69:=r59.l bb63;have r70:=r155.l bb63;have b71:=aa b60 bb63;obtain⟨uo,uc,hv⟩:=r165.shape;subst hv;clear q56 q57 r58 r59 r155 b60 bb63 HB;refine hK.out _ _ q66 (fun hS72=> ?_)
  clear hK K;refine wpAnyH_ready (rs:=[8]) (by kernel_rfl) (by simp) ?_;refine AllReadyH.cons rfl (fun K hK=> ?_) AllReadyH.nil
  have bu:But (w.heap.size+1+1) w62 (w62.setCells (w.heap.size+1+1) 0 (ydL t.s (yS uo t.n uc) t.e)):=de _ _ _ _;have hth:w62.there (w.heap.size+1+1) 0 3:=dD q67;have q73:au (w62.setCells (w.heap.size+1+1) 0 (ydL t.s (yS uo t.n uc) t.e)) (w.heap.size+1+1) 30 (ydL t.s (yS uo t.n uc) t.e):=q67.sets _ rfl;have r74:=bu.rd r68 (cq r68 (Dg.norm_dg _ _ (by omega)) q67 (fun x hx n hn=>by simp at hx;rcases hx with rfl|rfl|rfl<;>simp;all_goals omega))
  have r75:=bu.rd r69 (cq r69 (Dg.norm_dg _ _ (by omega)) q67 (fun x hx n hn=>by simp at hx;rcases hx with rfl|rfl|rfl<;>simp;all_goals omega))
  have r76:=bu.rd r70 (cq r70 (Dg.norm_dg _ _ (by omega)) q67 (fun x hx n hn=>by simp at hx;rcases hx with rfl|rfl|rfl<;>simp;all_goals omega))
  have r77:=bu.rd r165 (cq r165 (Dg.norm_dg _ _ (by omega)) q67 (fun x hx n hn=>by simp at hx;rcases hx with rfl|rfl|rfl<;>simp;all_goals omega))
  have q78:=bu.loc q66 (by omega);have b79:=bu.below b71 (by omega);rw[if_pos (by kernel_rfl)];refine wp_store_mid 30 (.tmp 4) (.tmp 73) rfl (w.heap.size+1+1) 0 (ydA t.s (yS uo t.n uc) t.e) (by kernel_rfl) (by kernel_rfl) hth (by kernel_rfl) (by simp[Value.oneCell']) ?_;refine hK.out _ _ q78 (fun hS80=> ?_)
  clear hK K;clear q67 r68 r69 r70 r165 q66 b71 bu hth;refine wpAnyH_done (by kernel_rfl) ?_ _;clear hS0 hS61 hS72 hS80;change Exit.then _ _ _ _ (World.setCells w62 (w.heap.size+1+1) 0 (ydL t.s (yS uo t.n uc) t.e));generalize World.setCells w62 (w.heap.size+1+1) 0 (ydL t.s (yS uo t.n uc) t.e)=W81 at q78 q73 r74 r75 r76 r77 b79⊢;simp only[Act.put,List.getElem_toArray,List.getElem_cons_succ,List.getElem_cons_zero];have hl:=run_loadVar_mid (P:=Tryz.prog) _ (w.heap.size+1+1) 0 30 (ydL t.s (yS uo t.n uc) t.e) _ q73.range underlying30 rfl (by kernel_rfl)
  go_wp2
  exact bodyPost_ret (br results29 rfl hl) rfl ⟨_,rfl,r77,hF.out,b79⟩
end Go.Proofs.YtlgkfdcmokchgaaGreatDoor
