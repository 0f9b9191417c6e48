/-
  Texts laid together: Mc14, Mc15, Mc16, GrT.
-/
import Derived.Test.YtdhpndnncmagiaaGreatDoorRows
import Derived.SliceStrings
import Derived.Test.YtdhpndnncmagiaaGreatDoorMz04
import Derived.Test.YtdhpndnncmagiaaGreatDoorMz03
set_option maxRecDepth 100000
set_option maxHeartbeats 3200000
namespace Go.Proofs.YtdhpndnncmagiaaGreatDoor
open _root_.Go.Proofs.Tryz
open Go.RowKit
def RunS (w:World)(ad:Nat)(F W fl tr:Int)(l:List ByteArray)(wr:World):Prop:=
 ∃vo vc,yB w wr∧w.heap.size≤ad∧ad≠w.heap.size+1∧au wr ad 24 [yi F,yi W,yi fl,yi tr,.slice vo l.length vc]∧au wr (w.heap.size+1) 24 [yi 0,yi 0,yi 0,yi 0,yN]∧OwnS wr w.heap.size (.slice vo l.length vc) l
def RunR (F W fl tr:Int)(l:List ByteArray)(n e:Int)(w:World)(z:Ending)(w':World):Prop:=
 ∃vo vc,z= .returned (.tuple #[.agg #[yi F,yi W,yi fl,yi tr,.slice vo l.length vc],yi n,yi e])∧OwnS w' w.heap.size (.slice vo l.length vc) l∧yB w w'
def StepB (base:Nat)(F W fl tr:Int)(l:List ByteArray)(w:World)(z:Ending)(w':World):Prop:=
 ∃vo vc,z= .returned (.tuple #[.agg #[yi F,yi W,yi fl,yi tr,.slice vo l.length vc],yi 0])∧OwnS w' base (.slice vo l.length vc) l∧yB w w'
def StepE (base:Nat)(F W fl tr:Int)(l:List ByteArray)(e:Int)(w:World)(z:Ending)(w':World):Prop:=
 ∃vo vc,z= .returned (.tuple #[.agg #[yi F,yi W,yi fl,yi tr,.slice vo l.length vc],yi e])∧OwnS w' base (.slice vo l.length vc) l∧yB w w'
theorem results_cq {P:Program}{fn:Func}{a t s:Nat}{ty:TypeId}{tmps:Array Value}{w:World}{b:Nat}{v u x:Value}(hres:fn.results= #[.cell a ty,.tmp t,.tmp s])(hp:tmps.getD a undef= .pointer (some ⟨b,0,none⟩))(hu:tmps.getD t undef=u)(hx:tmps.getD s undef=x)(hl:(loadVar ty ⟨b,0,none⟩).run P w= .ok v w):(results fn tmps).run P w= .ok (.tuple #[v,u,x]) w:=by
 rw[Array.getD_eq_getD_getElem?] at hp hu hx;unfold results;simp[hres,hp,hu,hx,asAddr,hl]
theorem run_ok (F W tr:Int)(fl0 fl1 fl2 fl3:Int)(ob:Nat)(so:Option Addr)(sc:Nat)(l0 l1 l2 l3:List ByteArray)(d0 k0:Int)(d1 k1:Int)(d2 k2:Int)(t0:ByteArray)(t1:ByteArray)(t2:ByteArray)(w:World)
  (hob:au w ob 37 [yi d0,yi k0,.string t0,yi d1,yi k1,.string t1,yi d2,yi k2,.string t2])
  (HC:yH w 7 #[.agg #[yi F,yi W,yi fl0,yi tr,.slice so l0.length sc]] (yi 0))
  (HP: ∀w1,yB w w1→yC 28 #[.agg #[yi F,yi W,yi fl0,yi tr,.slice so l0.length sc]] w1 (CopB w.heap.size F W fl0 tr l0 w1))
  (HS0: ∀vo vc w1,yB w w1→OwnS w1 w.heap.size (.slice vo l0.length vc) l0→yC 29 #[.agg #[yi F,yi W,yi fl0,yi tr,.slice vo l0.length vc],.agg #[yi d0,yi k0,.string t0]] w1 (StepB w.heap.size F W fl1 tr l1 w1))
  (HS1: ∀vo vc w1,yB w w1→OwnS w1 w.heap.size (.slice vo l1.length vc) l1→yC 29 #[.agg #[yi F,yi W,yi fl1,yi tr,.slice vo l1.length vc],.agg #[yi d1,yi k1,.string t1]] w1 (StepB w.heap.size F W fl2 tr l2 w1))
  (HS2: ∀vo vc w1,yB w w1→OwnS w1 w.heap.size (.slice vo l2.length vc) l2→yC 29 #[.agg #[yi F,yi W,yi fl2,yi tr,.slice vo l2.length vc],.agg #[yi d2,yi k2,.string t2]] w1 (StepB w.heap.size F W fl3 tr l3 w1)):
  yC 13 #[.agg #[yi F,yi W,yi fl0,yi tr,.slice so l0.length sc],.slice (some ⟨ob,0,none⟩) 3 3] w (RunR F W fl3 tr l3 3 0 w):=by
 replace HC:Hid _:=HC;replace HP:Hid _:=HP;replace HS0:Hid _:=HS0;replace HS1:Hid _:=HS1;replace HS2:Hid _:=HS2;have HOB:Hid (au w ob 37 [yi d0,yi k0,.string t0,yi d1,yi k1,.string t1,yi d2,yi k2,.string t2]):=hob;obtain⟨W4,hW5,q1,q2,b3⟩:=iG w [yi F,yi W,yi fl0,yi tr,.slice so l0.length sc] 24 [yi 0,yi 0,yi 0,yi 0,yN] 24;replace hW5:Hid _:=hW5;have q6:=hob.l b3;clear hob
 go_enter func13,ntmps13
 go_upto_region 1 with fail
 rw[hW5.out];clear hW5;obtain⟨c7,c8,c9,c10,c11⟩:=q1.cs5
 go_wp2_with fail
 refine(HC.out _ b3).mono ?_;rintro zz w12 ⟨rfl,bb13⟩;have q14:=q6.l bb13;have q15:=q1.l bb13;have q16:=q2.l bb13;have b17:=aa b3 bb13;clear q6 q1 q2 b3 bb13 HC c7 c8 c9 c10 c11;obtain⟨c18,c19,c20,c21,c22⟩:=q15.cs5
 go_wp2_with fail
 refine(HP.out _ b17).mono ?_;rintro zz w23 ⟨vo,vc,rfl,r1x25,bb24⟩;have q26:=q14.l bb24;have q27:=q16.l bb24;have b28:=aa b17 bb24;clear q14 q15 q16 b17 bb24 HP c18 c19 c20 c21 c22;obtain⟨W31,hW30,q32,al29⟩:=cA w23 [yi F,yi W,yi fl0,yi tr,.slice vo l0.length vc] 24;replace hW30:Hid _:=hW30;have hl33:w.heap.size≤w23.heap.size:=b28.size;have hl34:=q26.lt;have hl35:=q27.lt;have q36:=q26.l al29;have q37:=q27.l al29;have r38:=r1x25.l al29;have b39:=aa b28 al29;clear q26 q27 r1x25 b28 al29
 go_upto_region 7 with fail
 rw[hW30.out];clear hW30;have hob2:au W31 ob 37 [yi d0,yi k0,.string t0,yi d1,yi k1,.string t1,yi d2,yi k2,.string t2]:=q36;have hol:=HOB.out.lt;have hS:RunS w (w23.heap.size) F W fl0 tr l0 W31:=⟨_,_,b39,by omega,by omega,q32,q37,r38⟩;have hAD:ob<w.heap.size:=hol;clear q36 q37 q32 r38 b39 hob2;generalize w23.heap.size=ad at hS⊢;generalize W31=ws at hS⊢
 go_wp2
 obtain⟨flS,hfl⟩: ∃g:Nat→Int,g=(fun i:Nat=>if i=0 then fl0 else if i=1 then fl1 else if i=2 then fl2 else fl3):=⟨_,rfl⟩
 obtain⟨lS,hls⟩: ∃g:Nat→List ByteArray,g=(fun i:Nat=>if i=0 then l0 else if i=1 then l1 else if i=2 then l2 else l3):=⟨_,rfl⟩
 have hf0:flS 0=fl0:=by subst hfl;rfl
 have hl0:lS 0=l0:=by subst hls;rfl
 have hf1:flS 1=fl1:=by subst hfl;rfl
 have hl1:lS 1=l1:=by subst hls;rfl
 have hf2:flS 2=fl2:=by subst hfl;rfl
 have hl2:lS 2=l2:=by subst hls;rfl
 have hf3:flS 3=fl3:=by subst hfl;rfl
 have hl3:lS 3=l3:=by subst hls;rfl
 have HI:Hid (_∧_∧_∧_∧_∧_∧_∧_):=⟨hf0,hl0,hf1,hl1,hf2,hl2,hf3,hl3⟩;rw[←hf0,←hl0] at hS;clear hfl hls hf0 hl0 hf1 hl1 hf2 hl2 hf3 hl3
 go_loopw [27] (fun iv wr=> ∃i:Nat,i≤3∧iv=yi (i:Int)∧RunS w ad F W (flS i) tr (lS i) wr) (fun iv _=>4-(intOf iv).toNat)
 case atStart=>exact⟨0,by omega,rfl,hS⟩
 case round=>
  clear hS;obtain⟨i,hi,rfl,hS⟩:=hrel;obtain⟨hf0,hl0,hf1,hl1,hf2,hl2,hf3,hl3⟩:=HI.out
  rcases(by omega:i=0∨i=1∨i=2∨i=3) with rfl|rfl|rfl|rfl
  ·rw[hf0,hl0] at hS
   clear hf2 hl2 hf3 hl3;obtain⟨vo,vc,bz,ha1,ha2,qn,qr,ro⟩:=hS;have qo:=HOB.out.l bz;obtain⟨W203,hW202,q204,al201⟩:=cA wr [yi d0,yi k0,.string t0] 37;replace hW202:Hid _:=hW202;have hl205:w.heap.size≤wr.heap.size:=bz.size;have hl206:=qn.lt;have hl207:=qr.lt;have c208:=qo.c 0 rfl;have c209:=qo.c 1 rfl;have c210:=qo.c 2 rfl;have q211:=qn.l al201;have q212:=qr.l al201;have r213:=ro.l al201;have b214:=aa bz al201;clear qn qr qo ro bz al201
   go_upto_region 10 with fail
   rw[hW202.out];clear c208 c209 c210 hW202;obtain⟨c215,c216,c217,c218,c219⟩:=q211.cs5;obtain⟨c220,c221,c222⟩:=q204.cs3
   go_wp2_with fail
   refine(HS0.out _ _ _ b214 r213).mono ?_;rintro zz w223 ⟨uo,uc,rfl,r1x225,bb224⟩;have q226:=q211.l bb224;have q227:=q212.l bb224;have b228:=aa b214 bb224;clear q211 q212 q204 r213 b214 bb224 HS0 c215 c216 c217 c218 c219 c220 c221 c222;obtain⟨W231,hW230,q232,al229⟩:=cA w223 [yi F,yi W,yi fl1,yi tr,.slice uo l1.length uc] 24;replace hW230:Hid _:=hW230;have hl233:w.heap.size≤w223.heap.size:=b228.size;have hl234:=q226.lt;have hl235:=q227.lt;have q236:=q226.l al229;have q237:=q227.l al229;have r238:=r1x225.l al229;have b239:=aa b228 al229;clear q226 q227 r1x225 b228 al229
   go_upto_region 11 with fail
   rw[hW230.out];clear hW230;obtain⟨c241,c242,c243,c244,c245⟩:=q232.cs5;have bu:=((((ag W231 ad 0 (yi F)).trans (ag _ ad 1 (yi W))).trans (ag _ ad 2 (yi fl1))).trans (ag _ ad 3 (yi tr))).trans (ag _ ad 4 (.slice uo l1.length uc));have q240:au (((((W231.setCell ⟨ad,0,none⟩ (yi F)).setCell ⟨ad,1,none⟩ (yi W)).setCell ⟨ad,2,none⟩ (yi fl1)).setCell ⟨ad,3,none⟩ (yi tr)).setCell ⟨ad,4,none⟩ (.slice uo l1.length uc)) ad 24 [yi F,yi W,yi fl1,yi tr,.slice uo l1.length uc]:=(((((q236.set 0 (yi F)).set 1 (yi W)).set 2 (yi fl1)).set 3 (yi tr)).set 4 (.slice uo l1.length uc));have c246:=q236.c 0 rfl;have y247:=q236.f 0;have c248:=q236.c 1 rfl;have y249:=q236.f 1;have c250:=q236.c 2 rfl;have y251:=q236.f 2;have c252:=q236.c 3 rfl;have y253:=q236.f 3;have c254:=q236.c 4 rfl;have y255:=q236.f 4;have q256:=bu.loc q237 (by omega);have r257:=r238.off bu q236 (by simp) (by omega);have b258:=bu.below b239 (by omega);clear bu
   go_upto_region 14 with fail
   generalize((((W231.setCell ⟨ad,0,none⟩ (yi F)).setCell ⟨ad,1,none⟩ (yi W)).setCell ⟨ad,2,none⟩ (yi fl1)).setCell ⟨ad,3,none⟩ (yi tr)).setCell ⟨ad,4,none⟩ (.slice uo l1.length uc)=W259 at q240 q256 r257 b258⊢;clear q236 q237 q232 r238 b239 c241 c242 c243 c244 c245 c246 y247 c248 y249 c250 y251 c252 y253 c254 y255
   go_wp2
   go_roundw
   case rel=>exact⟨1,by omega,by go_num,by rw[hf1,hl1];exact⟨_,_,b258,ha1,ha2,q240,q256,r257⟩⟩
   case measure=>simp[intOf]
  ·rw[hf1,hl1] at hS
   clear hf0 hl0 hf3 hl3;obtain⟨vo,vc,bz,ha1,ha2,qn,qr,ro⟩:=hS;have qo:=HOB.out.l bz;obtain⟨W303,hW302,q304,al301⟩:=cA wr [yi d1,yi k1,.string t1] 37;replace hW302:Hid _:=hW302;have hl305:w.heap.size≤wr.heap.size:=bz.size;have hl306:=qn.lt;have hl307:=qr.lt;have c308:=qo.c 3 rfl;have c309:=qo.c 4 rfl;have c310:=qo.c 5 rfl;have q311:=qn.l al301;have q312:=qr.l al301;have r313:=ro.l al301;have b314:=aa bz al301;clear qn qr qo ro bz al301
   go_upto_region 10 with fail
   rw[hW302.out];clear c308 c309 c310 hW302;obtain⟨c315,c316,c317,c318,c319⟩:=q311.cs5;obtain⟨c320,c321,c322⟩:=q304.cs3
   go_wp2_with fail
   refine(HS1.out _ _ _ b314 r313).mono ?_;rintro zz w323 ⟨uo,uc,rfl,r1x325,bb324⟩;have q326:=q311.l bb324;have q327:=q312.l bb324;have b328:=aa b314 bb324;clear q311 q312 q304 r313 b314 bb324 HS1 c315 c316 c317 c318 c319 c320 c321 c322;obtain⟨W331,hW330,q332,al329⟩:=cA w323 [yi F,yi W,yi fl2,yi tr,.slice uo l2.length uc] 24;replace hW330:Hid _:=hW330;have hl333:w.heap.size≤w323.heap.size:=b328.size;have hl334:=q326.lt;have hl335:=q327.lt;have q336:=q326.l al329;have q337:=q327.l al329;have r338:=r1x325.l al329;have b339:=aa b328 al329;clear q326 q327 r1x325 b328 al329
   go_upto_region 11 with fail
   rw[hW330.out];clear hW330;obtain⟨c341,c342,c343,c344,c345⟩:=q332.cs5;have bu:=((((ag W331 ad 0 (yi F)).trans (ag _ ad 1 (yi W))).trans (ag _ ad 2 (yi fl2))).trans (ag _ ad 3 (yi tr))).trans (ag _ ad 4 (.slice uo l2.length uc));have q340:au (((((W331.setCell ⟨ad,0,none⟩ (yi F)).setCell ⟨ad,1,none⟩ (yi W)).setCell ⟨ad,2,none⟩ (yi fl2)).setCell ⟨ad,3,none⟩ (yi tr)).setCell ⟨ad,4,none⟩ (.slice uo l2.length uc)) ad 24 [yi F,yi W,yi fl2,yi tr,.slice uo l2.length uc]:=(((((q336.set 0 (yi F)).set 1 (yi W)).set 2 (yi fl2)).set 3 (yi tr)).set 4 (.slice uo l2.length uc));have c346:=q336.c 0 rfl;have y347:=q336.f 0;have c348:=q336.c 1 rfl;have y349:=q336.f 1;have c350:=q336.c 2 rfl;have y351:=q336.f 2;have c352:=q336.c 3 rfl;have y353:=q336.f 3;have c354:=q336.c 4 rfl;have y355:=q336.f 4;have q356:=bu.loc q337 (by omega);have r357:=r338.off bu q336 (by simp) (by omega);have b358:=bu.below b339 (by omega);clear bu
   go_upto_region 14 with fail
   generalize((((W331.setCell ⟨ad,0,none⟩ (yi F)).setCell ⟨ad,1,none⟩ (yi W)).setCell ⟨ad,2,none⟩ (yi fl2)).setCell ⟨ad,3,none⟩ (yi tr)).setCell ⟨ad,4,none⟩ (.slice uo l2.length uc)=W359 at q340 q356 r357 b358⊢;clear q336 q337 q332 r338 b339 c341 c342 c343 c344 c345 c346 y347 c348 y349 c350 y351 c352 y353 c354 y355
   go_wp2
   go_roundw
   case rel=>exact⟨2,by omega,by go_num,by rw[hf2,hl2];exact⟨_,_,b358,ha1,ha2,q340,q356,r357⟩⟩
   case measure=>simp[intOf]
  ·rw[hf2,hl2] at hS
   clear hf0 hl0 hf1 hl1;obtain⟨vo,vc,bz,ha1,ha2,qn,qr,ro⟩:=hS;have qo:=HOB.out.l bz;obtain⟨W403,hW402,q404,al401⟩:=cA wr [yi d2,yi k2,.string t2] 37;replace hW402:Hid _:=hW402;have hl405:w.heap.size≤wr.heap.size:=bz.size;have hl406:=qn.lt;have hl407:=qr.lt;have c408:=qo.c 6 rfl;have c409:=qo.c 7 rfl;have c410:=qo.c 8 rfl;have q411:=qn.l al401;have q412:=qr.l al401;have r413:=ro.l al401;have b414:=aa bz al401;clear qn qr qo ro bz al401
   go_upto_region 10 with fail
   rw[hW402.out];clear c408 c409 c410 hW402;obtain⟨c415,c416,c417,c418,c419⟩:=q411.cs5;obtain⟨c420,c421,c422⟩:=q404.cs3
   go_wp2_with fail
   refine(HS2.out _ _ _ b414 r413).mono ?_;rintro zz w423 ⟨uo,uc,rfl,r1x425,bb424⟩;have q426:=q411.l bb424;have q427:=q412.l bb424;have b428:=aa b414 bb424;clear q411 q412 q404 r413 b414 bb424 HS2 c415 c416 c417 c418 c419 c420 c421 c422;obtain⟨W431,hW430,q432,al429⟩:=cA w423 [yi F,yi W,yi fl3,yi tr,.slice uo l3.length uc] 24;replace hW430:Hid _:=hW430;have hl433:w.heap.size≤w423.heap.size:=b428.size;have hl434:=q426.lt;have hl435:=q427.lt;have q436:=q426.l al429;have q437:=q427.l al429;have r438:=r1x425.l al429;have b439:=aa b428 al429;clear q426 q427 r1x425 b428 al429
   go_upto_region 11 with fail
   rw[hW430.out];clear hW430;obtain⟨c441,c442,c443,c444,c445⟩:=q432.cs5;have bu:=((((ag W431 ad 0 (yi F)).trans (ag _ ad 1 (yi W))).trans (ag _ ad 2 (yi fl3))).trans (ag _ ad 3 (yi tr))).trans (ag _ ad 4 (.slice uo l3.length uc));have q440:au (((((W431.setCell ⟨ad,0,none⟩ (yi F)).setCell ⟨ad,1,none⟩ (yi W)).setCell ⟨ad,2,none⟩ (yi fl3)).setCell ⟨ad,3,none⟩ (yi tr)).setCell ⟨ad,4,none⟩ (.slice uo l3.length uc)) ad 24 [yi F,yi W,yi fl3,yi tr,.slice uo l3.length uc]:=(((((q436.set 0 (yi F)).set 1 (yi W)).set 2 (yi fl3)).set 3 (yi tr)).set 4 (.slice uo l3.length uc));have c446:=q436.c 0 rfl;have y447:=q436.f 0;have c448:=q436.c 1 rfl;have y449:=q436.f 1;have c450:=q436.c 2 rfl;have y451:=q436.f 2;have c452:=q436.c 3 rfl;have y453:=q436.f 3;have c454:=q436.c 4 rfl;have y455:=q436.f 4;have q456:=bu.loc q437 (by omega);have r457:=r438.off bu q436 (by simp) (by omega);have b458:=bu.below b439 (by omega);clear bu
   go_upto_region 14 with fail
   generalize((((W431.setCell ⟨ad,0,none⟩ (yi F)).setCell ⟨ad,1,none⟩ (yi W)).setCell ⟨ad,2,none⟩ (yi fl3)).setCell ⟨ad,3,none⟩ (yi tr)).setCell ⟨ad,4,none⟩ (.slice uo l3.length uc)=W459 at q440 q456 r457 b458⊢;clear q436 q437 q432 r438 b439 c441 c442 c443 c444 c445 c446 y447 c448 y449 c450 y451 c452 y453 c454 y455
   go_wp2
   go_roundw
   case rel=>exact⟨3,by omega,by go_num,by rw[hf3,hl3];exact⟨_,_,b458,ha1,ha2,q440,q456,r457⟩⟩
   case measure=>simp[intOf]
  ·rw[hf3,hl3] at hS
   clear hf0 hl0 hf1 hl1 hf2 hl2;obtain⟨vo,vc,bz,ha1,ha2,qn,qr,ro⟩:=hS;have qo:=HOB.out.l bz;obtain⟨c501,c502,c503,c504,c505⟩:=qn.cs5;have hf:=dL (P:=Tryz.prog) qr bz (by omega) underlying24 rfl (by kernel_rfl) (yi F) (yi W) (yi fl3) (yi tr) (.slice vo l3.length vc);have HH:Hid (_∧_∧_):=⟨hf.1,ro.off hf.2.2 qr (by simp) (by omega),hf.2.1⟩;obtain⟨⟨z0,z1,z2,z3,z4⟩,y0,y1,y2,y3,y4⟩:=dN qr;clear hf qn qr qo ro bz
   go_wp2
   obtain⟨hl,rRv,bR⟩:=HH.out;exact bodyPost_ret (results_cq results13 rfl rfl rfl hl) rfl ⟨vo,vc,rfl,rRv,bR⟩
theorem run_e0 (F W tr e:Int)(fl0:Int)(ob:Nat)(so:Option Addr)(sc:Nat)(l0:List ByteArray)(d0 k0:Int)(d1 k1:Int)(d2 k2:Int)(t0:ByteArray)(t1:ByteArray)(t2:ByteArray)(w:World)(he:(e==0)=false)
  (hob:au w ob 37 [yi d0,yi k0,.string t0,yi d1,yi k1,.string t1,yi d2,yi k2,.string t2])
  (HC:yH w 7 #[.agg #[yi F,yi W,yi fl0,yi tr,.slice so l0.length sc]] (yi 0))
  (HP: ∀w1,yB w w1→yC 28 #[.agg #[yi F,yi W,yi fl0,yi tr,.slice so l0.length sc]] w1 (CopB w.heap.size F W fl0 tr l0 w1))
  (HS0: ∀vo vc w1,yB w w1→OwnS w1 w.heap.size (.slice vo l0.length vc) l0→yC 29 #[.agg #[yi F,yi W,yi fl0,yi tr,.slice vo l0.length vc],.agg #[yi d0,yi k0,.string t0]] w1 (StepE w.heap.size F W fl0 tr l0 e w1)):
  yC 13 #[.agg #[yi F,yi W,yi fl0,yi tr,.slice so l0.length sc],.slice (some ⟨ob,0,none⟩) 3 3] w (RunR F W fl0 tr l0 0 e w):=by
 replace HC:Hid _:=HC;replace HP:Hid _:=HP;replace HS0:Hid _:=HS0;have HOB:Hid (au w ob 37 [yi d0,yi k0,.string t0,yi d1,yi k1,.string t1,yi d2,yi k2,.string t2]):=hob;obtain⟨W4,hW5,q1,q2,b3⟩:=iG w [yi F,yi W,yi fl0,yi tr,.slice so l0.length sc] 24 [yi 0,yi 0,yi 0,yi 0,yN] 24;replace hW5:Hid _:=hW5;have q6:=hob.l b3;clear hob
 go_enter func13,ntmps13
 go_upto_region 1 with fail
 rw[hW5.out];clear hW5;obtain⟨c7,c8,c9,c10,c11⟩:=q1.cs5
 go_wp2_with fail
 refine(HC.out _ b3).mono ?_;rintro zz w12 ⟨rfl,bb13⟩;have q14:=q6.l bb13;have q15:=q1.l bb13;have q16:=q2.l bb13;have b17:=aa b3 bb13;clear q6 q1 q2 b3 bb13 HC c7 c8 c9 c10 c11;obtain⟨c18,c19,c20,c21,c22⟩:=q15.cs5
 go_wp2_with fail
 refine(HP.out _ b17).mono ?_;rintro zz w23 ⟨vo,vc,rfl,r1x25,bb24⟩;have q26:=q14.l bb24;have q27:=q16.l bb24;have b28:=aa b17 bb24;clear q14 q15 q16 b17 bb24 HP c18 c19 c20 c21 c22;obtain⟨W31,hW30,q32,al29⟩:=cA w23 [yi F,yi W,yi fl0,yi tr,.slice vo l0.length vc] 24;replace hW30:Hid _:=hW30;have hl33:w.heap.size≤w23.heap.size:=b28.size;have hl34:=q26.lt;have hl35:=q27.lt;have q36:=q26.l al29;have q37:=q27.l al29;have r38:=r1x25.l al29;have b39:=aa b28 al29;clear q26 q27 r1x25 b28 al29
 go_upto_region 7 with fail
 rw[hW30.out];clear hW30;have hob2:au W31 ob 37 [yi d0,yi k0,.string t0,yi d1,yi k1,.string t1,yi d2,yi k2,.string t2]:=q36;have hol:=HOB.out.lt;have hS:RunS w (w23.heap.size) F W fl0 tr l0 W31:=⟨_,_,b39,by omega,by omega,q32,q37,r38⟩;have hAD:ob<w.heap.size:=hol;clear q36 q37 q32 r38 b39 hob2;generalize w23.heap.size=ad at hS⊢;generalize W31=ws at hS⊢
 go_wp2
 obtain⟨flS,hfl⟩: ∃g:Nat→Int,g=(fun i:Nat=>fl0):=⟨_,rfl⟩
 obtain⟨lS,hls⟩: ∃g:Nat→List ByteArray,g=(fun i:Nat=>l0):=⟨_,rfl⟩
 have hf0:flS 0=fl0:=by subst hfl;rfl
 have hl0:lS 0=l0:=by subst hls;rfl
 have HI:Hid (_∧_):=⟨hf0,hl0⟩;rw[←hf0,←hl0] at hS;clear hfl hls hf0 hl0
 go_loopw [27] (fun iv wr=> ∃i:Nat,i≤0∧iv=yi (i:Int)∧RunS w ad F W (flS i) tr (lS i) wr) (fun iv _=>1-(intOf iv).toNat)
 case atStart=>exact⟨0,by omega,rfl,hS⟩
 case round=>
  clear hS;obtain⟨i,hi,rfl,hS⟩:=hrel;obtain⟨hf0,hl0⟩:=HI.out
  rcases(by omega:i=0) with rfl
  ·rw[hf0,hl0] at hS
   obtain⟨vo,vc,bz,ha1,ha2,qn,qr,ro⟩:=hS;have qo:=HOB.out.l bz;obtain⟨W203,hW202,q204,al201⟩:=cA wr [yi d0,yi k0,.string t0] 37;replace hW202:Hid _:=hW202;have hl205:w.heap.size≤wr.heap.size:=bz.size;have hl206:=qn.lt;have hl207:=qr.lt;have c208:=qo.c 0 rfl;have c209:=qo.c 1 rfl;have c210:=qo.c 2 rfl;have q211:=qn.l al201;have q212:=qr.l al201;have r213:=ro.l al201;have b214:=aa bz al201;clear qn qr qo ro bz al201
   go_upto_region 10 with fail
   rw[hW202.out];clear c208 c209 c210 hW202;obtain⟨c215,c216,c217,c218,c219⟩:=q211.cs5;obtain⟨c220,c221,c222⟩:=q204.cs3
   go_wp2_with fail
   refine(HS0.out _ _ _ b214 r213).mono ?_;rintro zz w223 ⟨uo,uc,rfl,r1x225,bb224⟩;have q226:=q212.l bb224;have r227:=r213.l bb224;have b228:=aa b214 bb224;clear q211 q212 q204 r213 b214 bb224 HS0 c215 c216 c217 c218 c219 c220 c221 c222;obtain⟨W231,hW230,q232,al229⟩:=cA w223 [yi F,yi W,yi fl0,yi tr,.slice uo l0.length uc] 24;replace hW230:Hid _:=hW230;have hl233:w.heap.size≤w223.heap.size:=b228.size;have hl234:=q226.lt;have q235:=q226.l al229;have r236:=r227.l al229;have r237:=r1x225.l al229;have b238:=aa b228 al229;clear q226 r227 r1x225 b228 al229
   go_upto_region 11 with fail
   rw[hW230.out];clear hW230;obtain⟨c239,c240,c241,c242,c243⟩:=q232.cs5;have hf:=dL (P:=Tryz.prog) q235 b238 (by omega) underlying24 rfl (by kernel_rfl) (yi F) (yi W) (yi fl0) (yi tr) (.slice uo l0.length uc);have HH:Hid (_∧_∧_):=⟨hf.1,r237.off hf.2.2 q235 (by simp) (by omega),hf.2.1⟩;obtain⟨⟨z0,z1,z2,z3,z4⟩,y0,y1,y2,y3,y4⟩:=dN q235;clear hf q235 q232 r236 r237 b238
   go_wp2
   obtain⟨hl,rRu,bR⟩:=HH.out;exact bodyPost_ret (results_cq results13 rfl rfl rfl hl) rfl ⟨uo,uc,rfl,rRu,bR⟩
theorem run_e1 (F W tr e:Int)(fl0 fl1:Int)(ob:Nat)(so:Option Addr)(sc:Nat)(l0 l1:List ByteArray)(d0 k0:Int)(d1 k1:Int)(d2 k2:Int)(t0:ByteArray)(t1:ByteArray)(t2:ByteArray)(w:World)(he:(e==0)=false)
  (hob:au w ob 37 [yi d0,yi k0,.string t0,yi d1,yi k1,.string t1,yi d2,yi k2,.string t2])
  (HC:yH w 7 #[.agg #[yi F,yi W,yi fl0,yi tr,.slice so l0.length sc]] (yi 0))
  (HP: ∀w1,yB w w1→yC 28 #[.agg #[yi F,yi W,yi fl0,yi tr,.slice so l0.length sc]] w1 (CopB w.heap.size F W fl0 tr l0 w1))
  (HS0: ∀vo vc w1,yB w w1→OwnS w1 w.heap.size (.slice vo l0.length vc) l0→yC 29 #[.agg #[yi F,yi W,yi fl0,yi tr,.slice vo l0.length vc],.agg #[yi d0,yi k0,.string t0]] w1 (StepB w.heap.size F W fl1 tr l1 w1))
  (HS1: ∀vo vc w1,yB w w1→OwnS w1 w.heap.size (.slice vo l1.length vc) l1→yC 29 #[.agg #[yi F,yi W,yi fl1,yi tr,.slice vo l1.length vc],.agg #[yi d1,yi k1,.string t1]] w1 (StepE w.heap.size F W fl1 tr l1 e w1)):
  yC 13 #[.agg #[yi F,yi W,yi fl0,yi tr,.slice so l0.length sc],.slice (some ⟨ob,0,none⟩) 3 3] w (RunR F W fl1 tr l1 1 e w):=by
 replace HC:Hid _:=HC;replace HP:Hid _:=HP;replace HS0:Hid _:=HS0;replace HS1:Hid _:=HS1;have HOB:Hid (au w ob 37 [yi d0,yi k0,.string t0,yi d1,yi k1,.string t1,yi d2,yi k2,.string t2]):=hob;obtain⟨W4,hW5,q1,q2,b3⟩:=iG w [yi F,yi W,yi fl0,yi tr,.slice so l0.length sc] 24 [yi 0,yi 0,yi 0,yi 0,yN] 24;replace hW5:Hid _:=hW5;have q6:=hob.l b3;clear hob
 go_enter func13,ntmps13
 go_upto_region 1 with fail
 rw[hW5.out];clear hW5;obtain⟨c7,c8,c9,c10,c11⟩:=q1.cs5
 go_wp2_with fail
 refine(HC.out _ b3).mono ?_;rintro zz w12 ⟨rfl,bb13⟩;have q14:=q6.l bb13;have q15:=q1.l bb13;have q16:=q2.l bb13;have b17:=aa b3 bb13;clear q6 q1 q2 b3 bb13 HC c7 c8 c9 c10 c11;obtain⟨c18,c19,c20,c21,c22⟩:=q15.cs5
 go_wp2_with fail
 refine(HP.out _ b17).mono ?_;rintro zz w23 ⟨vo,vc,rfl,r1x25,bb24⟩;have q26:=q14.l bb24;have q27:=q16.l bb24;have b28:=aa b17 bb24;clear q14 q15 q16 b17 bb24 HP c18 c19 c20 c21 c22;obtain⟨W31,hW30,q32,al29⟩:=cA w23 [yi F,yi W,yi fl0,yi tr,.slice vo l0.length vc] 24;replace hW30:Hid _:=hW30;have hl33:w.heap.size≤w23.heap.size:=b28.size;have hl34:=q26.lt;have hl35:=q27.lt;have q36:=q26.l al29;have q37:=q27.l al29;have r38:=r1x25.l al29;have b39:=aa b28 al29;clear q26 q27 r1x25 b28 al29
 go_upto_region 7 with fail
 rw[hW30.out];clear hW30;have hob2:au W31 ob 37 [yi d0,yi k0,.string t0,yi d1,yi k1,.string t1,yi d2,yi k2,.string t2]:=q36;have hol:=HOB.out.lt;have hS:RunS w (w23.heap.size) F W fl0 tr l0 W31:=⟨_,_,b39,by omega,by omega,q32,q37,r38⟩;have hAD:ob<w.heap.size:=hol;clear q36 q37 q32 r38 b39 hob2;generalize w23.heap.size=ad at hS⊢;generalize W31=ws at hS⊢
 go_wp2
 obtain⟨flS,hfl⟩: ∃g:Nat→Int,g=(fun i:Nat=>if i=0 then fl0 else fl1):=⟨_,rfl⟩
 obtain⟨lS,hls⟩: ∃g:Nat→List ByteArray,g=(fun i:Nat=>if i=0 then l0 else l1):=⟨_,rfl⟩
 have hf0:flS 0=fl0:=by subst hfl;rfl
 have hl0:lS 0=l0:=by subst hls;rfl
 have hf1:flS 1=fl1:=by subst hfl;rfl
 have hl1:lS 1=l1:=by subst hls;rfl
 have HI:Hid (_∧_∧_∧_):=⟨hf0,hl0,hf1,hl1⟩;rw[←hf0,←hl0] at hS;clear hfl hls hf0 hl0 hf1 hl1
 go_loopw [27] (fun iv wr=> ∃i:Nat,i≤1∧iv=yi (i:Int)∧RunS w ad F W (flS i) tr (lS i) wr) (fun iv _=>2-(intOf iv).toNat)
 case atStart=>exact⟨0,by omega,rfl,hS⟩
 case round=>
  clear hS;obtain⟨i,hi,rfl,hS⟩:=hrel;obtain⟨hf0,hl0,hf1,hl1⟩:=HI.out
  rcases(by omega:i=0∨i=1) with rfl|rfl
  ·rw[hf0,hl0] at hS
   obtain⟨vo,vc,bz,ha1,ha2,qn,qr,ro⟩:=hS;have qo:=HOB.out.l bz;obtain⟨W203,hW202,q204,al201⟩:=cA wr [yi d0,yi k0,.string t0] 37;replace hW202:Hid _:=hW202;have hl205:w.heap.size≤wr.heap.size:=bz.size;have hl206:=qn.lt;have hl207:=qr.lt;have c208:=qo.c 0 rfl;have c209:=qo.c 1 rfl;have c210:=qo.c 2 rfl;have q211:=qn.l al201;have q212:=qr.l al201;have r213:=ro.l al201;have b214:=aa bz al201;clear qn qr qo ro bz al201
   go_upto_region 10 with fail
   rw[hW202.out];clear c208 c209 c210 hW202;obtain⟨c215,c216,c217,c218,c219⟩:=q211.cs5;obtain⟨c220,c221,c222⟩:=q204.cs3
   go_wp2_with fail
   refine(HS0.out _ _ _ b214 r213).mono ?_;rintro zz w223 ⟨uo,uc,rfl,r1x225,bb224⟩;have q226:=q211.l bb224;have q227:=q212.l bb224;have b228:=aa b214 bb224;clear q211 q212 q204 r213 b214 bb224 HS0 c215 c216 c217 c218 c219 c220 c221 c222;obtain⟨W231,hW230,q232,al229⟩:=cA w223 [yi F,yi W,yi fl1,yi tr,.slice uo l1.length uc] 24;replace hW230:Hid _:=hW230;have hl233:w.heap.size≤w223.heap.size:=b228.size;have hl234:=q226.lt;have hl235:=q227.lt;have q236:=q226.l al229;have q237:=q227.l al229;have r238:=r1x225.l al229;have b239:=aa b228 al229;clear q226 q227 r1x225 b228 al229
   go_upto_region 11 with fail
   rw[hW230.out];clear hW230;obtain⟨c241,c242,c243,c244,c245⟩:=q232.cs5;have bu:=((((ag W231 ad 0 (yi F)).trans (ag _ ad 1 (yi W))).trans (ag _ ad 2 (yi fl1))).trans (ag _ ad 3 (yi tr))).trans (ag _ ad 4 (.slice uo l1.length uc));have q240:au (((((W231.setCell ⟨ad,0,none⟩ (yi F)).setCell ⟨ad,1,none⟩ (yi W)).setCell ⟨ad,2,none⟩ (yi fl1)).setCell ⟨ad,3,none⟩ (yi tr)).setCell ⟨ad,4,none⟩ (.slice uo l1.length uc)) ad 24 [yi F,yi W,yi fl1,yi tr,.slice uo l1.length uc]:=(((((q236.set 0 (yi F)).set 1 (yi W)).set 2 (yi fl1)).set 3 (yi tr)).set 4 (.slice uo l1.length uc));have c246:=q236.c 0 rfl;have y247:=q236.f 0;have c248:=q236.c 1 rfl;have y249:=q236.f 1;have c250:=q236.c 2 rfl;have y251:=q236.f 2;have c252:=q236.c 3 rfl;have y253:=q236.f 3;have c254:=q236.c 4 rfl;have y255:=q236.f 4;have q256:=bu.loc q237 (by omega);have r257:=r238.off bu q236 (by simp) (by omega);have b258:=bu.below b239 (by omega);clear bu
   go_upto_region 14 with fail
   generalize((((W231.setCell ⟨ad,0,none⟩ (yi F)).setCell ⟨ad,1,none⟩ (yi W)).setCell ⟨ad,2,none⟩ (yi fl1)).setCell ⟨ad,3,none⟩ (yi tr)).setCell ⟨ad,4,none⟩ (.slice uo l1.length uc)=W259 at q240 q256 r257 b258⊢;clear q236 q237 q232 r238 b239 c241 c242 c243 c244 c245 c246 y247 c248 y249 c250 y251 c252 y253 c254 y255
   go_wp2
   go_roundw
   case rel=>exact⟨1,by omega,by go_num,by rw[hf1,hl1];exact⟨_,_,b258,ha1,ha2,q240,q256,r257⟩⟩
   case measure=>simp[intOf]
  ·rw[hf1,hl1] at hS
   clear hf0 hl0;obtain⟨vo,vc,bz,ha1,ha2,qn,qr,ro⟩:=hS;have qo:=HOB.out.l bz;obtain⟨W303,hW302,q304,al301⟩:=cA wr [yi d1,yi k1,.string t1] 37;replace hW302:Hid _:=hW302;have hl305:w.heap.size≤wr.heap.size:=bz.size;have hl306:=qn.lt;have hl307:=qr.lt;have c308:=qo.c 3 rfl;have c309:=qo.c 4 rfl;have c310:=qo.c 5 rfl;have q311:=qn.l al301;have q312:=qr.l al301;have r313:=ro.l al301;have b314:=aa bz al301;clear qn qr qo ro bz al301
   go_upto_region 10 with fail
   rw[hW302.out];clear c308 c309 c310 hW302;obtain⟨c315,c316,c317,c318,c319⟩:=q311.cs5;obtain⟨c320,c321,c322⟩:=q304.cs3
   go_wp2_with fail
   refine(HS1.out _ _ _ b314 r313).mono ?_;rintro zz w323 ⟨uo,uc,rfl,r1x325,bb324⟩;have q326:=q312.l bb324;have r327:=r313.l bb324;have b328:=aa b314 bb324;clear q311 q312 q304 r313 b314 bb324 HS1 c315 c316 c317 c318 c319 c320 c321 c322;obtain⟨W331,hW330,q332,al329⟩:=cA w323 [yi F,yi W,yi fl1,yi tr,.slice uo l1.length uc] 24;replace hW330:Hid _:=hW330;have hl333:w.heap.size≤w323.heap.size:=b328.size;have hl334:=q326.lt;have q335:=q326.l al329;have r336:=r327.l al329;have r337:=r1x325.l al329;have b338:=aa b328 al329;clear q326 r327 r1x325 b328 al329
   go_upto_region 11 with fail
   rw[hW330.out];clear hW330;obtain⟨c339,c340,c341,c342,c343⟩:=q332.cs5;have hf:=dL (P:=Tryz.prog) q335 b338 (by omega) underlying24 rfl (by kernel_rfl) (yi F) (yi W) (yi fl1) (yi tr) (.slice uo l1.length uc);have HH:Hid (_∧_∧_):=⟨hf.1,r337.off hf.2.2 q335 (by simp) (by omega),hf.2.1⟩;obtain⟨⟨z0,z1,z2,z3,z4⟩,y0,y1,y2,y3,y4⟩:=dN q335;clear hf q335 q332 r336 r337 b338
   go_wp2
   obtain⟨hl,rRu,bR⟩:=HH.out;exact bodyPost_ret (results_cq results13 rfl rfl rfl hl) rfl ⟨uo,uc,rfl,rRu,bR⟩
def BegR (w:World)(z:Ending)(w':World):Prop:=
 ∃fl vo vc,z= .returned (.tuple #[.agg #[yi 2,yi 1,yi fl,yi 0,.slice vo 1 vc],yi 3,yi 0])∧yB w w'
theorem mbegun_W (w:World)
  (HR: ∀ob w1,yB w w1→au w1 ob 37 [yi 1,yi 0,.string ⟨#[50]⟩,yi 11,yi 0,.string ⟨#[]⟩,yi 5,yi 0,.string ⟨#[]⟩]→yC 13 #[.agg #[yi 2,yi 1,yi 0,yi 0,yN],.slice (some ⟨ob,0,none⟩) 3 3] w1 (BegR w1)):
  yC 6 #[] w (yR w (.bool true)):=by
 replace HR:Hid _:=HR
 go_enter func6,ntmps6
 have b0:=Below.refl w.heap.size w;have al1:=af w (.cells #[yi 1,yi 0,.string ⟨#[50]⟩,yi 11,yi 0,.string ⟨#[]⟩,yi 5,yi 0,.string ⟨#[]⟩] 37);have q2:=ah w [yi 1,yi 0,.string ⟨#[50]⟩,yi 11,yi 0,.string ⟨#[]⟩,yi 5,yi 0,.string ⟨#[]⟩] 37;have b3:=aa b0 al1
 go_wp2_with fail
 refine(HR.out _ _ b3 q2).mono ?_;rintro zz w4 ⟨fl,vo,vc,rfl,bb5⟩;have b6:=aa b3 bb5;clear q2 b3 bb5 HR b0 al1;obtain⟨W9,hW8,q10,al7⟩:=cA w4 [yi 2,yi 1,yi fl,yi 0,.slice vo 1 vc] 24;replace hW8:Hid _:=hW8;have hl11:w.heap.size≤w4.heap.size:=b6.size;have b12:=aa b6 al7;clear b6 al7
 go_upto_region 2 with fail
 rw[hW8.out];clear hW8;have c13:=q10.c 4 rfl
 go_wp2
 go_ret
 exact⟨by first|rfl|simp,b12⟩
theorem mchecks_W (F W fl tr c:Int)(so:Option Addr)(L sc:Nat)(w:World)
  (HB:yH w 6 #[] (.bool true))
  (HC:yH w 7 #[.agg #[yi F,yi W,yi fl,yi tr,.slice so L sc]] (yi c))
  (HK:yH w 8 #[.agg #[yi F,yi W,yi fl,yi tr,.slice so L sc]] (yi c)):
  yC 3 #[.agg #[yi F,yi W,yi fl,yi tr,.slice so L sc]] w (yR w (.bool true)):=by
 replace HB:Hid _:=HB;replace HC:Hid _:=HC;replace HK:Hid _:=HK;obtain⟨W3,hW4,q1,b2⟩:=cA w [yi F,yi W,yi fl,yi tr,.slice so L sc] 24;replace hW4:Hid _:=hW4
 go_enter func3,ntmps3
 go_upto_region 1 with fail
 rw[hW4.out];clear hW4
 go_upto_region 1 with fail
 have bW5:yB W3 W3.drew:=(Below.refl _ _).drew;have q6:=q1.l bW5;have b7:=aa b2 bW5;clear q1 b2 bW5;refine wp_region_held_drew (S:=fun wq=>au wq w.heap.size 24 [yi F,yi W,yi fl,yi tr,.slice so L sc]) (by kernel_rfl) q6 (fun hS0=> ?_)
 generalize W3.drew=WD8 at q6 b7 hS0⊢;refine wpAnyH_ready (rs:=[0]) (by kernel_rfl) (by simp) ?_;refine AllReadyH.cons rfl (fun K hK=> ?_) AllReadyH.nil
 go_simp
 refine(HB.out _ b7).mono ?_;rintro zz w9 ⟨rfl,bb10⟩;have q11:=q6.l bb10;have b12:=aa b7 bb10;clear q6 b7 bb10 HB;refine hK.out _ _ q11 (fun hS13=> ?_)
 clear hK K;refine tq 1 (.bool true) rfl (fun _ _=>by kernel_rfl) hS13 ?_
 refine tq 2 (.agg #[yi F,yi W,yi fl,yi tr,.slice so L sc]) rfl (fun _ hw0=>fy 24 (.tmp 1) rfl w.heap.size 0 (by kernel_rfl) _ _ hw0.range underlying24 rfl (by kernel_rfl)) hS13 ?_
 refine tq 4 (.agg #[yi F,yi W,yi fl,yi tr,.slice so L sc]) rfl (fun _ hw0=>fy 24 (.tmp 1) rfl w.heap.size 0 (by kernel_rfl) _ _ hw0.range underlying24 rfl (by kernel_rfl)) hS13 ?_
 refine wpAnyH_ready (rs:=[3]) (by kernel_rfl) (by simp) ?_;refine AllReadyH.cons rfl (fun K hK=> ?_) AllReadyH.nil
 go_simp
 refine(HC.out _ b12).mono ?_;rintro zz w14 ⟨rfl,bb15⟩;have q16:=q11.l bb15;have b17:=aa b12 bb15;clear q11 b12 bb15 HC;refine hK.out _ _ q16 (fun hS18=> ?_)
 clear hK K;refine wpAnyH_ready (rs:=[5]) (by kernel_rfl) (by simp) ?_;refine AllReadyH.cons rfl (fun K hK=> ?_) AllReadyH.nil
 go_simp
 refine(HK.out _ b17).mono ?_;rintro zz w19 ⟨rfl,bb20⟩;have q21:=q16.l bb20;have b22:=aa b17 bb20;clear q16 b17 bb20 HK;refine hK.out _ _ q21 (fun hS23=> ?_)
 clear hK K;refine tq 6 (.bool true) rfl (fun _ _=>by go_simp) hS23 ?_
 refine tq 7 (.bool true) rfl (fun _ _=>by kernel_rfl) hS23 ?_
 refine tq 8 (.bool true) rfl (fun _ _=>by kernel_rfl) hS23 ?_
 refine wpAnyH_done (by kernel_rfl) ?_ _;clear hS0 hS13 hS18 hS23;simp only[Act.put,List.getElem_toArray,List.getElem_cons_succ,List.getElem_cons_zero,List.setIfInBounds_toArray,List.set_cons_zero,List.set_cons_succ]
 go_wp2
 go_ret
 exact⟨by first|rfl|simp,b22⟩
theorem opsR_any (w:World):yC 57 #[] w (OpsR w):=
 (operations_any w).mono fun _ _ ⟨a,b,c,d,h1,h2,h3⟩=>⟨_,a,b,c,d,h1,h2,h3⟩
theorem copB_any (base:Nat)(F W fl tr:Int)(va:Value)(l:List ByteArray)(w:World)(ha:RdS w va l)(hl:l.length≤4096)(hb:base≤w.heap.size):
  yC 28 #[.agg #[yi F,yi W,yi fl,yi tr,va]] w (CopB base F W fl tr l w):=
 (mcopied_any F W fl tr va l w ha hl).mono fun _ _ ⟨vo,vc,h1,h2,h3⟩=>⟨vo,vc,h1,h2.lower hb,h3⟩
theorem StepR.b {F W fl tr:Int}{l:List ByteArray}{w:World}{z:Ending}{w':World}{base:Nat}(hb:base≤w.heap.size)(h:StepR F W fl tr l w z w'):StepB base F W fl tr l w z w':=by
 obtain⟨vo,vc,h1,h2,h3⟩:=h;exact⟨vo,vc,h1,h2.lower hb,h3⟩
theorem step_load_any (F W fl tr kk f fl2:Int)(tx st:ByteArray)(va:Value)(l:List ByteArray)(w:World)(hT:TxW w)(ha:RdS w va l)(hl:l.length<16)(hP:psV F tx W=(st,f,0))(h0:bits .or .i64 0 f=f)(ht:bits .and .i64 f tr=0)(hf:bits .or .i64 fl f=fl2):
  yC 29 #[.agg #[yi F,yi W,yi fl,yi tr,va],.agg #[yi 1,yi kk,.string tx]] w (StepR F W fl2 tr (l++[st]) w):=by
 obtain⟨so,sc,rfl⟩:=ha.shape;refine step_load F W fl tr f kk fl2 tx so sc l (l++[st]) w (decide_eq_false (by omega)) ht hf (fun w1=>opsR_any w1) (fun w1 b=>copB_any _ _ _ _ _ _ l w1 (ha.l b) (by omega) b.size) (fun q vo vc w1 b hbq hq ho=> ?_)
 refine load_ok q w.heap.size F W fl tr f 1 kk tx st vo l vc w1 hq ho hl hbq b.size h0 (fun w2 b2=> ?_)
 have:=tParse_any F tx W w2 (hT.l (aa b b2));rw[hP] at this;exact this
theorem step_copy_any (F W fl tr kk fl2:Int)(tx a:ByteArray)(va:Value)(l:List ByteArray)(w:World)(ha:RdS w va (l++[a]))(hl:(l++[a]).length<16)(ht:bits .and .i64 0 tr=0)(hf:bits .or .i64 fl 0=fl2):
  yC 29 #[.agg #[yi F,yi W,yi fl,yi tr,va],.agg #[yi 11,yi kk,.string tx]] w (StepR F W fl2 tr (l++[a]++[a]) w):=by
 obtain⟨so,sc,rfl⟩:=ha.shape;refine step_copy F W fl tr 0 kk fl2 tx so sc (l++[a]) (l++[a]++[a]) w (decide_eq_false (by simp;omega)) ht hf (fun w1=>opsR_any w1) (fun w1 b=>copB_any _ _ _ _ _ _ _ w1 (ha.l b) (by omega) b.size) (fun q vo vc w1 b hbq hq ho=> ?_)
 exact opcopy_ok q w.heap.size F W fl tr _ _ _ a vo l vc w1 hq ho hl hbq b.size
theorem step_mul_any (F W fl tr kk f fl2:Int)(tx a b st:ByteArray)(va:Value)(l:List ByteArray)(w:World)(hT:Tab w)(ha:RdS w va (l++[a,b]))(hl:l.length<15)(hM:jV F W [a,b] (qL F a b)=(st,f,0))(h0:bits .or .i64 0 f=f)(ht:bits .and .i64 f tr=0)(hf:bits .or .i64 fl f=fl2):
  yC 29 #[.agg #[yi F,yi W,yi fl,yi tr,va],.agg #[yi 5,yi kk,.string tx]] w (StepR F W fl2 tr (l++[st]) w):=by
 obtain⟨so,sc,rfl⟩:=ha.shape;refine step_mul F W fl tr f kk fl2 tx so sc (l++[a,b]) (l++[st]) w (decide_eq_false (by simp;omega)) ht hf (fun w1=>opsR_any w1) (fun w1 bb=>copB_any _ _ _ _ _ _ _ w1 (ha.l bb) (by simp;omega) bb.size) (fun q vo vc ca cb cc cd mr w1 bb hbq hq ho hO=> ?_)
 refine oftwo_mul_ok q w.heap.size cc F W fl tr f _ _ _ a b st vo l vc w1 hO.2.2.2.1 hq ho (by omega) hbq bb.size h0 (fun w2 b2=> ?_)
 have:=AN F W a b w2 (hT.l (aa bb b2));rw[hM] at this;exact this
theorem step_add_any (F W fl tr kk f fl2:Int)(tx a b st:ByteArray)(va:Value)(l:List ByteArray)(w:World)(hT:Tab w)(ha:RdS w va (l++[a,b]))(hl:l.length<15)(hM:jV F W [a,b] (OX F W a b)=(st,f,0))(h0:bits .or .i64 0 f=f)(ht:bits .and .i64 f tr=0)(hf:bits .or .i64 fl f=fl2):
  yC 29 #[.agg #[yi F,yi W,yi fl,yi tr,va],.agg #[yi 3,yi kk,.string tx]] w (StepR F W fl2 tr (l++[st]) w):=by
 obtain⟨so,sc,rfl⟩:=ha.shape;refine step_add F W fl tr f kk fl2 tx so sc (l++[a,b]) (l++[st]) w (decide_eq_false (by simp;omega)) ht hf (fun w1=>opsR_any w1) (fun w1 bb=>copB_any _ _ _ _ _ _ _ w1 (ha.l bb) (by simp;omega) bb.size) (fun q vo vc ca cb cc cd mr w1 bb hbq hq ho hO=> ?_)
 refine oftwo_add_ok q w.heap.size ca F W fl tr f _ _ _ a b st vo l vc w1 hO.2.1 hq ho (by omega) hbq bb.size h0 (fun w2 b2=> ?_)
 have:=DI F W a b w2 (hT.l (aa bb b2));rw[hM] at this;exact this
def twoS:ByteArray:=⟨#[64,0,0,0,0,0,0,0]⟩
def fourS:ByteArray:=⟨#[64,16,0,0,0,0,0,0]⟩
theorem two_ps:psV 2 ⟨#[50]⟩ 1=(twoS,0,0):=by kernel_rfl
theorem two_mul:jV 2 1 [twoS,twoS] (qL 2 twoS twoS)=(fourS,0,0):=by kernel_rfl
theorem chk_beg:chkM 2 1 0 0 []=0:=by kernel_rfl
theorem rdS_nil (w:World):RdS w yN []:=⟨none,0,rfl,by simp,by unfold maxLen;omega,fun h=>by simp at h⟩
theorem machineBegun_any (w:World)(hT:TxW w):yC 6 #[] w (yR w (.bool true)):=by
 refine mbegun_W w (fun ob w1 b1 ho=> ?_)
 have hR:=run_ok 2 1 0 0 0 0 0 ob none 0 [] [twoS] [twoS,twoS] [fourS] 1 0 11 0 5 0 ⟨#[50]⟩ ⟨#[]⟩ ⟨#[]⟩ w1 ho
  (fun w2 b2=>by
   have:=mcheck_any 2 1 0 0 yN [] w2 (rdS_nil w2);rw[chk_beg] at this;exact this)
  (fun w2 b2=>copB_any _ _ _ _ _ _ [] w2 (rdS_nil w2) (by simp) b2.size)
  (fun vo vc w2 b2 h2=>(step_load_any 2 1 0 0 0 0 0 ⟨#[50]⟩ twoS _ [] w2 (hT.l (aa b1 b2)) h2.rd (by simp) two_ps rfl rfl rfl).mono fun _ _ h=>h.b b2.size)
  (fun vo vc w2 b2 h2=>(step_copy_any 2 1 0 0 0 0 ⟨#[]⟩ twoS _ [] w2 h2.rd (by simp) rfl rfl).mono fun _ _ h=>h.b b2.size)
  (fun vo vc w2 b2 h2=>(step_mul_any 2 1 0 0 0 0 0 ⟨#[]⟩ twoS twoS fourS _ [] w2 (hT.l (aa b1 b2)).1 h2.rd (by simp) two_mul rfl rfl rfl).mono fun _ _ h=>h.b b2.size)
 exact hR.mono fun _ _ ⟨vo,vc,h1,h2,h3⟩=>⟨0,vo,vc,h1,h3⟩
theorem machineChecks_walk (F W fl tr:Int)(va:Value)(l:List ByteArray)(w:World)(hT:TxW w)(ha:RdS w va l):
  yC 3 #[.agg #[yi F,yi W,yi fl,yi tr,va]] w (yR w (.bool true)):=by
 obtain⟨so,sc,rfl⟩:=ha.shape;exact mchecks_W F W fl tr (chkM F W fl tr l) so _ sc w (fun w1 b=>machineBegun_any w1 (hT.l b)) (fun w1 b=>mcheck_any F W fl tr _ l w1 (ha.l b)) (fun w1 b=>state_any F W fl tr _ l w1 (ha.l b))
open Go.ChangeShapes Go.WideShapes Go.ChangeAt Go.RowKit
theorem cellsI1:Tryz.prog.cellsOf 3=1:=by kernel_rfl
theorem cellsS1:Tryz.prog.cellsOf 22=1:=by kernel_rfl
theorem cellsState:Tryz.prog.cellsOf 24=5:=by kernel_rfl
theorem adC {α:Type}{cs:Array α}(h:cs.size=5): ∃a b c d e,cs= #[a,b,c,d,e]:=by
 obtain⟨l⟩:=cs
 match l,h with
 | [a,b,c,d,e],_=>exact⟨a,b,c,d,e,rfl⟩
theorem open_strs {H:Type}{enc:TypeId×Value→H}{W:World}{n:Nat}{c:Value}{y:DataW H×List MemPlace}(h:DataW.trod enc Tryz.prog W 0 (fun _=>true) true n 22 [c]=some y):
  ∃(l:List ByteArray),RdS W c l:=by
 rcases open_strings underlying22 underlying9 (by kernel_rfl) h with⟨hcs,_⟩| ⟨x,len,cap,ss,hcs,_,hl,hm,hz,_,hcell,_⟩
 ·simp at hcs
  exact⟨[],none,0,hcs,by simp,by unfold maxLen;omega,fun h=>by simp at h⟩
 ·simp at hcs hz
  have hlen:(ss.take len).length=len:=by simp;omega
  obtain⟨b,off,spot⟩:=x;refine⟨ss.take len,_,cap,by rw[hlen];exact hcs,by rw[hlen];exact hl,hm,fun hp=> ?_⟩
  rw[hlen] at hp;have h0:=hcell 0 (by omega);have hspot:spot=none:=by simpa[Addr.add] using World.cell?_spot h0
  subst hspot;refine⟨b,off,rfl,fun i hi=> ?_⟩
  rw[hlen] at hi;have h1:=hcell i (by omega);rw[rO] at h1;rw[h1];have h2:i<ss.length:=by omega
  simp[List.getD_eq_getElem?_getD,hi,h2]
theorem open_state {H:Type}{enc:TypeId×Value→H}{W:World}{base:Nat}{v:Value}{d:DataW H}{p:List MemPlace}(hv:Value.okWide Tryz.prog W .any base 24 v)(h:DataW.Trod enc Tryz.prog W 0 (fun _=>true) true 24 v d p):
  ∃(F Wy fl tr:Int) (va:Value) (l:List ByteArray),v= .agg #[yi F,yi Wy,yi fl,yi tr,va]∧RdS W va l:=by
 obtain⟨cs,rfl,hsz⟩:=okWide_struct underlying24 hv;obtain⟨c0,c1,c2,c3,c4,rfl⟩:=adC (hsz.trans cellsState);obtain⟨fuel,hf⟩:=h;obtain⟨xs,n,_,_,hl,hlen,hff⟩:=DataW.trod_struct underlying24 hf;have h0:=hff 0 _ rfl;have h1:=hff 1 _ rfl;have h2:=hff 2 _ rfl;have h3:=hff 3 _ rfl;have h4:=hff 4 _ rfl
 match xs,hlen with
 | [y0,y1,y2,y3,y4],_=>
  simp[Value.cells,cellsI1,cellsS1] at h0 h1 h2 h3 h4;obtain⟨F,e0,-,-⟩:=DataW.trod_int underlying3 h0;obtain⟨Wy,e1,-,-⟩:=DataW.trod_int underlying3 h1;obtain⟨fl,e2,-,-⟩:=DataW.trod_int underlying3 h2;obtain⟨tr,e3,-,-⟩:=DataW.trod_int underlying3 h3;obtain⟨l,hl4⟩:=open_strs h4;simp at e0 e1 e2 e3;subst e0 e1 e2 e3;exact⟨F,Wy,fl,tr,c4,l,rfl,hl4⟩
end Go.Proofs.YtdhpndnncmagiaaGreatDoor
