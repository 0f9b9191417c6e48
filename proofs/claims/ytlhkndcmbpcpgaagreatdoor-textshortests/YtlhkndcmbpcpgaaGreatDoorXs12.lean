/- Texts laid together. -/
import Derived.Test.YtlhkndcmbpcpgaaGreatDoorXs06
import Derived.Test.YtlhkndcmbpcpgaaGreatDoorXs09
set_option maxRecDepth 100000
set_option maxHeartbeats 6400000
namespace Go.Proofs.YtlhkndcmbpcpgaaGreatDoor
open _root_.Go.Proofs.Tryz
open Go.RowKit
theorem Bz (v:Value)(zs:List Nat)(w:World)(h:Rd w .u32 v zs)(x:zs.length≤1000000):
  yC 80 #[v] w fun e w'=>e= .returned (.slice (some ⟨w.heap.size,0,none⟩) zs.length zs.length)∧Own w' w.heap.size 105 .u32 (.slice (some ⟨w.heap.size,0,none⟩) zs.length zs.length) zs∧yB w w':=by
 obtain⟨q,c,o,g,p⟩:=info_parts Tryz.infoU32;have f:(Tryz.prog.info? 105).map (·.size)=some 1:=by rw[c];simp[g]
 obtain⟨t,u,rfl⟩:=h.shape
 go_enter func80,ntmps80
 go_wp2_with (at_make;refine wpList_make_full _ rfl _ _ 47 rfl w.heap.size 105 q (.int .u32 0) 1 underlying47 c o g _ _ _ _ zs.length rfl rfl (by omega) (by omega) ?b2 ?b3 (Nat.le_refl _) ?_)
 case b2=>rw[p];omega
 case b3=>unfold maxLen;omega
 intro s d b;have r:=gL d;have a:yB w s:=(Below.refl _ _).grown b (Nat.le_refl _) (fun k h=>by cases h)
 obtain⟨z,y,i,m⟩:=Nw 47 47 3 underlying47 f r (h.l a) (by simp);have j:=a.grown m a.size (fun k n=>by cases n;exact Nat.le_refl _)
 clear d b f
 go_wp2
 go_ret
 refine⟨rfl, ?_,j⟩;have e:zs++(List.replicate zs.length 0).drop zs.length=zs:=by simp
 rw[e] at i;exact i
theorem uG (g n cap base:Nat)(zs:List Nat)(d:Nat)(w:World)(v:Own w base 105 .u32 (.slice (some ⟨g,0,none⟩) n cap) zs)(y:Dg.Small 4294967296 zs)(j:0<d)(H:d<4294967296)(Q:zs.length≤1000000):
  yC 82 #[.slice (some ⟨g,0,none⟩) n cap,.int .u32 d] w fun e w'=>
   ∃qs,e= .returned (.int .u32 ((Dg.vl 4294967296 zs % d:Nat):Int))∧Own w' base 105 .u32 (.slice (some ⟨g,0,none⟩) n cap) qs∧qs.length=zs.length∧Dg.Small 4294967296 qs∧Dg.vl 4294967296 qs=Dg.vl 4294967296 zs/d∧w.grownBy w' (some g):=by
 have J:=v.len;subst J
 go_enter func82,ntmps82
 go_wp2
 go_loopw [5,6] (fun L p wr=> ∃(k r:Nat) (a:List Nat),k≤zs.length∧p=yi ((k:Int)-1)∧L= .int .u32 r∧Own wr base 105 .u32 (.slice (some ⟨g,0,none⟩) zs.length cap) a∧acQ zs a d k r∧w.grownBy wr (some g))
  (fun _ p _=>(intOf p+1).toNat)
 case atStart=>exact⟨zs.length,0,zs,Nat.le_refl _,rfl,rfl,v,⟨rfl,y,j,fun _ _=>rfl,by simp[Dg.vl]⟩,ib _ _⟩
 case round=>
  obtain⟨k,r,a,P,rfl,rfl,own,b,gr⟩:=hrel
  by_cases I:k=0
  ·subst I
   go_wp2
   go_ret
   obtain⟨F,G,u,M,i⟩:=b;simp only[List.drop_zero] at i;have C:Dg.vl 4294967296 zs/d=Dg.vl 4294967296 a:=by
    rw[i,Nat.mul_comm,Nat.mul_add_div j,Nat.div_eq_of_lt u];omega
   have D:Dg.vl 4294967296 zs % d=r:=by
    rw[i,Nat.mul_comm,Nat.mul_add_mod,Nat.mod_eq_of_lt u]
   exact⟨a,by rw[D];rfl,own,F,G,C.symm,gr⟩
  ·obtain⟨m,rfl⟩: ∃m,k=m+1:=⟨k-1,by omega⟩
   have R:=b.1;have A:=own.c m (by omega);have N:=own.f m;have x:=b.2.2.1;have o:=y m;rw[b.2.2.2.1 m (by omega)] at A;obtain⟨z,h⟩: ∃z,zs.getD m 0=z:=⟨_,rfl⟩;rw[h] at A o;have B:Hid _:=h;clear h;have K:=I6 (t:=r*4294967296+z) x o rfl
   go_wp2_with fail
   refine(Vb r z d wr x o H).mono ?_;rintro e T ⟨rfl,s⟩;have q:=own.l s;have S:=q.c m (by omega);have O:=q.f m;have E:=eF gr (Ew (some g) s)
   go_wp2
   go_roundw
   case rel=>exact⟨m,_,_,by omega,by go_num,rfl,q.store m _,Tx b (by omega) (by rw[B.out]) j K,eF E (bI _ _ _ _)⟩
   case measure=>simp[intOf]
theorem kE (m:Value)(xs:List Nat)(w:World)(n:Rd w .u32 m xs)(k:Dg.Small 4294967296 xs)(q:Dg.Norm xs)(u:xs.length≤1000000):
  yC 40 #[m] w fun e w'=>e= .returned (yi (bitLen (Dg.vl 4294967296 xs):Nat))∧w'=w:=by
 obtain⟨r,s,rfl,-,-,f⟩:=n
 by_cases a:xs.length=0
 ·obtain rfl:xs=[]:=List.eq_nil_of_length_eq_zero a
  go_enter func40,ntmps40
  go_wp2
  go_ret
  exact⟨rfl,rfl⟩
 ·have i:xs≠[]:=by intro e;subst e;simp at a
  obtain⟨b,v,rfl,g⟩:=f (by omega);have p:=g (xs.length-1) (by omega);have j:=k (xs.length-1);rw[IL 4294967296 32 (by decide) (by omega) xs k q i];obtain⟨x,c⟩: ∃x,xs.getD (xs.length-1) 0=x:=⟨_,rfl⟩;rw[c] at p j⊢;have o:=bF x 32 (by omega);have d:=IK x w j;obtain⟨l,h⟩: ∃l,bitLen x=l:=⟨_,rfl⟩;rw[h] at d o⊢;have t:((xs.length:Int)==0)=false:=by simp;intro e;subst e;simp at a
  clear c g f i h
  go_enter func40,ntmps40
  go_wp2_with fail
  refine d.mono ?_;rintro e w' ⟨rfl,rfl⟩
  go_wp2
  go_ret
  exact⟨by go_num,rfl⟩
theorem Gl (v:Value)(n:Nat)(w:World)(f:Rd w .u32 v (Dg.dg 4294967296 n))(G:(Dg.dg 4294967296 n).length≤1000000)(H:Tab w):
  yC 145 #[v] w fun e w'=>e= .returned (yi ((if n=0 then 0 else tz n:Nat):Int))∧w'=w:=by
 have o:=Dg.small_dg 4294967296 n (by omega);have g:=Dg.vl_dg 4294967296 n (by omega);have p:(∀j,(Dg.dg 4294967296 n).getD j 0=0)→n=0:=fun h=>by rw[←g];exact Dg.vl_zeros _ _ h
 obtain⟨xs,a⟩: ∃xs,Dg.dg 4294967296 n=xs:=⟨_,rfl⟩;rw[a] at f o g p G;obtain⟨L,M,rfl⟩:=f.shape;obtain⟨O,P,y⟩:=iQ f;have F:Hid (∀k,xs.length≤k→(∀j,j<k→xs.getD j 0=0)→n=0):=fun k J h=>p (fun j=>by
  by_cases d:j<k
  ·exact h j d
  ·simp[List.getD_eq_getElem?_getD,show xs.length≤j from by omega])
 have s:Hid _:=g;clear a p g f
 go_enter func145,ntmps145
 go_wp2
 go_loop [7] (fun r=> ∃k:Nat,k≤xs.length∧r=yi k∧Hid (∀j,j<k→xs.getD j 0=0)) (fun r=>xs.length-(intOf r).toNat)
 case atStart=>exact⟨0,Nat.zero_le _,rfl,fun j d=>absurd d (Nat.not_lt_zero j)⟩
 case round=>
  obtain⟨k,J,rfl,q⟩:=hrel
  by_cases B:k<xs.length
  ·obtain⟨b,Q,rfl,z⟩:=y (by omega)
   have I:=z k B;have A:=o k;obtain⟨x,a⟩: ∃x,xs.getD k 0=x:=⟨_,rfl⟩;rw[a] at I A;have l:Hid _:=a;clear a z y
   by_cases i:x=0
   ·subst i
    go_wp2
    go_round
    case rel=>exact⟨k+1,by omega,by go_num,fun j d=>by
     by_cases e:j=k
     ·rw[e];exact l.out
     ·exact q.out j (by omega)⟩
    case measure=>simp[intOf];omega
   ·have D:=Zw x w A i H
    have N:((x:Int)==0)=false:=by simp;exact i
    go_wp2_with fail
    refine D.mono ?_;rintro e w' ⟨t,m,rfl,E,K,rfl⟩;have c:=Zx xs k t m B q.out (by rw[l.out];exact E) K;rw[s.out] at c;have C:n≠0:=by
     intro e;have u:=adl 4294967296 xs k (by omega) o (by rw[s.out];exact e);rw[l.out] at u;exact i u
    clear D E
    go_wp2
    go_ret
    refine⟨?_,rfl⟩
    first|rfl| (rw[c];rfl)| (simp only[c];rfl)| (show Ending.returned (Value.int IntKind.i64 (32*(k:Int)+(t:Int)))=_;rw[c];rfl)
  ·have C:=F.out k (by omega) q.out
   go_wp2
   go_ret
   subst C;exact⟨rfl,rfl⟩
theorem Mt (R D L G:Int)(gr:Bool)(qs:Bool)(no:Option Addr)(K J:Nat)(I:Option Addr)(H F:Nat)(E:Int)(fn:FuncId)(T pw y wd:Int)(q r dn:Nat)(e6:Int)(eg Y h a bb:Bool)(d m:Nat)(b:Int)(PT:fz)(w:World)
  (ed:h=decide (pw<L)) (e9:a=decide (r=0)) (e8:(h&&gr)=bb) (ao:bb=true→y=L) (aq:bb=false→y=pw)
  (W1:IntKind.i64.wrap (wd*y)=wd*y) (W2:IntKind.i64.wrap (E-wd*y)=E-wd*y)
  (bc:a=false→Y=true→d=q+1) (bd:a=true∨Y=false→d=q)
  (HZ:d=0→PT=⟨qs,0,0,a,false,h⟩) (be: ¬d=0→PT=⟨qs,m,b,a,decide (G<b),h⟩)
  (HE: ∀d9 W,Sem.run Tryz.prog (callFunc fn d9) W= .ok (.enter fn d9) W)
  (HT:yH w 176 #[yrV qs (.slice no K J) (.slice I H F) E] (yi T))
  (bh:yJ 175 #[ygV R D L G gr,yi T] (yi pw))
  (av:yJ 154 #[ygV R D L G gr] (yi wd))
  (ar: ∀i,yB w i→yC 177 #[yrV qs (.slice no K J) (.slice I H F) E,yi (E-wd*y)] i (WH i q r dn))
  (bi: ∀v i,Rd i .u32 v (Dg.dg 4294967296 r)→yC 43 #[v,yi 1] i (Num i (r*2)))
  (ba: ∀v u i,Rd i .u32 v (Dg.dg 4294967296 (r*2))→Rd i .u32 u (Dg.dg 4294967296 dn)→yC 47 #[v,u] i (yR i (yi e6)))
  (bf: ∀v i,Rd i .u32 v (Dg.dg 4294967296 q)→yC 48 #[v] i fun z w'=>z= .returned (.bool eg)∧w'=i)
  (b8:yJ fn #[.agg #[yi e6,.bool eg,.bool qs]] (.bool Y))
  (bg: ∀v u i,Rd i .u32 v (Dg.dg 4294967296 q)→Rd i .u32 u [1]→yC 44 #[v,u] i (Num i (q+1)))
  (b9: ∀v base i,Own i base 105 .u32 v (Dg.dg 4294967296 d)→base≤i.heap.size→yC 178 #[ygV R D L G gr,.agg #[v,yi y]] i fun z w'=> ∃u,z= .returned (.agg #[u,yi b])∧Own w' base 105 .u32 u (Dg.dg 4294967296 m)∧yB i w'):
  yC 148 #[ygV R D L G gr,yrV qs (.slice no K J) (.slice I H F) E,.func (.func fn) #[] #[]] w (Fk w PT):=by
 replace ao:Hid _:=ao;replace aq:Hid _:=aq;replace bc:Hid _:=bc;replace bd:Hid _:=bd;replace HZ:Hid _:=HZ;replace be:Hid _:=be;replace HT:Hid _:=HT;replace bh:Hid _:=bh;replace av:Hid _:=av;replace ar:Hid _:=ar;replace bi:Hid _:=bi;replace ba:Hid _:=ba;replace bf:Hid _:=bf;replace b8:Hid _:=b8;replace bg:Hid _:=bg;replace b9:Hid _:=b9;have f5:Hid _:=ed;have f0:Hid _:=e9;have d7:Hid _:=e8;clear e8;have b1:=aa (aa (af w (.cells (ygA R D L G gr) 193)) (af _ (.cells (yrA qs (.slice no K J) (.slice I H F) E) 128))) (af _ (.cells (ypA false yN 0 false false false) 141));have g1:=((ah w (ygL R D L G gr) 193).l (af _ (.cells (yrA qs (.slice no K J) (.slice I H F) E) 128))).l (af _ (.cells (ypA false yN 0 false false false) 141));have q1:=(ah (w.alloc (.cells (ygA R D L G gr) 193)) (yrL qs (.slice no K J) (.slice I H F) E) 128).l (af _ (.cells (ypA false yN 0 false false false) 141));have c1:=ah ((w.alloc (.cells (ygA R D L G gr) 193)).alloc (.cells (yrA qs (.slice no K J) (.slice I H F) E) 128)) (ypL false yN 0 false false false) 141;simp only[World.size_alloc] at q1 c1;have c2:=g1.l ((Below.refl _ _).drew);have ce:=q1.l ((Below.refl _ _).drew);have dl:=c1.l ((Below.refl _ _).drew);have ay:=aa b1 ((Below.refl _ _).drew);clear g1 q1 c1 b1;obtain⟨x0,x1,N,P,O⟩:=c2.cs5;obtain⟨Q,y1,y2,y3⟩:=ce.cs4
 go_enter func148,ntmps148
 go_wp2_with fail
 go_region_held3 (fun j=>(j.cell? ⟨w.heap.size,0,none⟩=some (yi R)∧j.cell? ⟨w.heap.size,1,none⟩=some (yi D)∧j.cell? ⟨w.heap.size,2,none⟩=some (yi L)∧j.cell? ⟨w.heap.size,3,none⟩=some (yi G)∧j.cell? ⟨w.heap.size,4,none⟩=some (.bool gr))∧j.cell? ⟨w.heap.size+1,0,none⟩=some (.bool qs)∧j.cell? ⟨w.heap.size+1,1,none⟩=some (.slice no K J)∧j.cell? ⟨w.heap.size+1,2,none⟩=some (.slice I H F)∧j.cell? ⟨w.heap.size+1,3,none⟩=some (yi E)) (go_keep) (first
  | (go_at_call 176;have t:=ay;clear t;refine(HT.out _ ay).mono ?_;rintro z wa ⟨rfl,a9⟩;have bo:=aa ay a9;have c4:=c2.l a9;have ch:=ce.l a9;have ds:=dl.l a9;obtain⟨cm,cn,co,cr,cs⟩:=c4.cs5;obtain⟨cz,d0,d1,d2⟩:=ch.cs4;clear ay)
  | (go_at_call 175;have t:=bo;clear t;refine(bh.out _).mono ?_;rintro z wb ⟨rfl,ab⟩;have db:=aa bo ab;have c5:=c4.l ab;have ci:=ch.l ab;have bw:=ds.l ab;obtain⟨ct,cv,cw,cx,cy⟩:=c5.cs5;obtain⟨d3,d4,d5,d6⟩:=ci.cs4;clear bo))
 clear x0 x1 N P O cm cn co cr cs ct cv cw cx cy Q y1 y2 y3 cz d0 d1 d2 d3 d4 d5 d6;have ap:=af wb (.cells (ypA qs yN 0 false false h) 141);have p3:=ah wb (ypL qs yN 0 false false h) 141;have fb:w.heap.size+1+1<wb.heap.size:=bw.lt;have ae:=c5.l ap;have b6:=ci.l ap;have bv:=bw.l ap;have bl:=aa db ap;clear c5 ci bw db ap
 skip
 skip
 have N:=ae.c 2 rfl;have O:=ae.c 4 rfl;have Q:=b6.c 0 rfl;have fi:decide (pw<L)=h:=f5.out.symm;clear ed e9
 go_goals
 go_upto_region 3 with fail
 generalize fd:wb.alloc (.cells (ypA qs yN 0 false false h) 141)=W4 at ae b6 bv p3 bl N O Q⊢;generalize wb.heap.size=g at p3 fb⊢;clear fd;have z5:=p3.c 5 rfl
 go_cut [31] (fun fp M=>fp= .bool bb∧M=W4)
 case first=>
  cases h
  ·go_wp2_with fail
   go_meet
   exact⟨by rw[←d7.out];rfl,rfl⟩
  ·go_wp2_with fail
   go_meet
   exact⟨by rw[←d7.out];rfl,rfl⟩
 case rest=>
  obtain⟨rfl,rfl⟩:=hcut
  go_upto_if 31 with fail
  go_cut [7] (fun s7 M=>s7=yi y∧M=wc)
  case first=>
   cases bb
   ·have e:Hid (y=pw):=aq.out rfl
    go_wp2_with fail
    go_meet
    exact⟨by rw[e.out],rfl⟩
   ·have e:Hid (y=L):=ao.out rfl
    go_wp2_with fail
    go_meet
    exact⟨by rw[e.out],rfl⟩
  case rest=>
   obtain⟨rfl,rfl⟩:=hcut;clear N O Q z5 fi ao aq;have a5:yB wc wc.drew:=(Below.refl _ _).drew;have c3:=ae.l a5;have cg:=b6.l a5;have dp:=bv.l a5;have ei:=p3.l a5;have bm:=aa bl a5;clear ae b6 bv p3 bl a5;obtain⟨x0,x1,N,P,O⟩:=c3.cs5;obtain⟨Q,y1,y2,y3⟩:=cg.cs4
   go_wp2_with fail
   go_region_held3 (fun j=>(j.cell? ⟨w.heap.size,0,none⟩=some (yi R)∧j.cell? ⟨w.heap.size,1,none⟩=some (yi D)∧j.cell? ⟨w.heap.size,2,none⟩=some (yi L)∧j.cell? ⟨w.heap.size,3,none⟩=some (yi G)∧j.cell? ⟨w.heap.size,4,none⟩=some (.bool gr))∧j.cell? ⟨w.heap.size+1,0,none⟩=some (.bool qs)∧j.cell? ⟨w.heap.size+1,1,none⟩=some (.slice no K J)∧j.cell? ⟨w.heap.size+1,2,none⟩=some (.slice I H F)∧j.cell? ⟨w.heap.size+1,3,none⟩=some (yi E)) (go_keep) (first
    | (go_at_call 154;have t:=bm;clear t;refine(av.out _).mono ?_;rintro z g9 ⟨rfl,a0⟩;have Z:=aa bm a0;have c6:=c3.l a0;have cj:=cg.l a0;have dt:=dp.l a0;have ek:=ei.l a0;obtain⟨cm,cn,co,cr,cs⟩:=c6.cs5;obtain⟨cz,d0,d1,d2⟩:=cj.cs4;clear bm)
    | (go_at_call 177;have t:=Z;clear t;refine(ar.out _ Z).mono ?_;rintro z we ⟨v9,g6,g8,rfl,o9,ee,cl,a2⟩;have dc:=aa Z a2;have c8:=c6.l a2;have ck:=cj.l a2;have dv:=dt.l a2;have X:=ek.l a2;obtain⟨ct,cv,cw,cx,cy⟩:=c8.cs5;obtain⟨d3,d4,d5,d6⟩:=ck.cs4;have b4:=o9.lower Z.size;have b3:=ee.lower Z.size;clear Z))
   clear x0 x1 N P O cm cn co cr cs ct cv cw cx cy Q y1 y2 y3 cz d0 d1 d2 d3 d4 d5 d6 o9 ee W1 W2 av ar;obtain⟨ro,rk,f9⟩:=b3.rd.shape;subst f9;obtain⟨qo,qk,h9⟩:=b4.rd.shape;subst h9;obtain⟨lr,c9⟩: ∃l,(Dg.dg 4294967296 r).length=l:=⟨_,rfl⟩;have ea:((lr:Int)==0)=a:=by rw[f0.out,←c9];exact wV r
   obtain⟨lq,eb⟩: ∃l,(Dg.dg 4294967296 q).length=l:=⟨_,rfl⟩;rw[c9] at b3⊢;rw[eb] at b4⊢;have y3:=X.c 3 rfl;have f3:=X.f 3
   go_goals
   go_upto_region 7 with fail
   have e5: ∀x∈((ypL qs yN 0 false false h):List Value),∀n:Int,x≠ .int .u32 n:=by simp
   have p7:au (we.setCell ⟨g,3,none⟩ (.bool a)) g 141 (ypL qs yN 0 a false h):=X.set 3 (.bool a);have e2:g≠w.heap.size:=by omega
   have fa:g≠w.heap.size+1:=by omega
   have e3:g≠w.heap.size+1+1:=by omega
   have e4:w.heap.size≤g:=by omega
   have g7:=c8.off (c:=g) e2 3 (.bool a);have q7:=ck.off (c:=g) fa 3 (.bool a);have c7:=dv.off (c:=g) e3 3 (.bool a);have o7:=b4.setE X (by decide) 3 (.bool a);have r7:=b3.setE X (by decide) 3 (.bool a);have e7:=cl.set (aX cl X e5) 3 (.bool a);have b7:=dc.setCell (p:=⟨g,3,none⟩) e4 (.bool a);clear c8 ck dv X b4 b3 cl dc y3 f3 e5 c2 ce dl c4 ch ds a9 ab c3 cg dp ei c6 cj dt ek a0 a2;replace ea:Hid _:=ea;clear c9 eb;generalize(we.setCell ⟨g,3,none⟩ (.bool a))=W7 at p7 g7 q7 c7 o7 r7 e7 b7⊢;have z3:=p7.c 3 rfl;have z0:=q7.c 0 rfl;have ft:=p7.drew.c 3 rfl;have fs:=q7.drew.c 0 rfl
   go_cut [67] (fun fr M=>fr= .bool (!a&&Y)∧yB W7 M)
   case first=>
    cases a
    ·have A:yB W7 W7.drew:=(Below.refl _ _).drew
     go_wp2_with fail
     go_region_held3 (fun j=>j.cell? ⟨g,3,none⟩=some (.bool false)∧j.cell? ⟨w.heap.size+1,0,none⟩=some (.bool qs)) (go_keep) (first
      | (go_at_call 43;have t:=A;clear t;refine(bi.out _ _ (r7.l A).rd).mono ?_;rintro z x1 ⟨v1,rfl,o1,a3⟩;have bp:=aa A a3;have eu:=(q7.l A).l a3;have em:=(p7.l A).l a3;have fk:=(o7.l A).l a3;have fo:=(r7.l A).l a3;have dy:=(e7.l A).l a3;have i1:=em.c 3 rfl;have i2:=eu.c 0 rfl;clear A)
      | (go_at_call 47;have t:=bp;clear t;refine(ba.out _ _ _ o1.rd dy).mono ?_;rintro z N ⟨rfl,a4⟩;have bq:=aa bp a4;have ev:=eu.l a4;have en:=em.l a4;have fl:=fk.l a4;have g5:=fo.l a4;have fx:=dy.l a4;have i3:=en.c 3 rfl;have i4:=ev.c 0 rfl;clear bp)
      | (go_at_call 48;have t:=bq;clear t;refine(bf.out _ _ fl.rd).mono ?_;rintro z P ⟨rfl,rfl⟩;have f7:=bq;clear bq)
      | ((with_reducible (refine(b8.out _).mono ?_));rintro z O ⟨rfl,bs⟩;have f8:=aa f7 bs;have i5:=(en.l bs).c 3 rfl;have i6:=(ev.l bs).c 0 rfl))
     go_goals
     go_wp2_with fail
     go_meet
     exact⟨rfl,f8⟩
    ·have A:yB W7 W7.drew:=(Below.refl _ _).drew
     go_wp2_with fail
     go_quiet (fail)
     go_goals
     go_wp2_with fail
     go_meet
     exact⟨rfl,aL (Below.refl _ _) nq⟩
   case rest=>
    obtain⟨rfl,C⟩:=hcut;clear z3 z0 ft fs;have e1:=g7.l C;have et:=q7.l C;have dq:=c7.l C;have ej:=p7.l C;have ef:=o7.l C;have g4:=r7.l C;have fv:=e7.l C;have bn:=aa b7 C;clear g7 q7 c7 p7 o7 r7 e7 b7 C
    go_upto_if 67 with fail
    skip
    go_cut [9] (fun s9 M=>Own M w.heap.size 105 .u32 s9 (Dg.dg 4294967296 d)∧yB wc M)
    case first=>
     have a1:=af wc (.cells #[.int .u32 ((1:Nat):Int)] 105);have r1:=cE (w:=wc) (k:= .u32) (e:=105) [1] #[.int .u32 ((1:Nat):Int)] rfl (by unfold maxLen;simp)
     by_cases hb:a=false∧Y=true
     ·obtain⟨rfl,rfl⟩:=hb
      have fe:=bc.out rfl rfl
      go_wp2_with fail
      refine(bg.out _ _ _ (ef.rd.l a1) r1).mono ?_;rintro z M ⟨vx,rfl,ox,bx⟩
      go_wp2_with fail
      go_meet
      exact⟨by rw[fe];exact ox.lower (Nat.le_trans bn.size a1.size),aa a1 bx⟩
     ·have ff:=bd.out (Bf hb).1
      have hf:(!a&&Y)=false:=(Bf hb).2;rw[hf]
      go_wp2_with fail
      go_meet
      exact⟨by rw[ff];exact ef,Below.refl _ _⟩
    case rest=>
     obtain⟨od,a7⟩:=hcut;have bz:=e1.l a7;have ep:=et.l a7;have ad:=dq.l a7;have b5:=ej.l a7;have ax:=aa bn a7;clear e1 et dq ej bn a7;obtain⟨so,sk,ca⟩:=od.rd.shape;subst ca;have b0:=wV d;obtain⟨ld,b2⟩: ∃l,(Dg.dg 4294967296 d).length=l:=⟨_,rfl⟩;rw[b2] at b0 od⊢
     by_cases a8:d=0
     ·have fg:ld=0:=by rw[←b2,a8];rfl
      have ey:Hid (d=0):=a8;clear a8 b0 b2 od;subst fg;have al:=b5.range;have an:=ad.there 6 rfl;have cR:=ad.sets (ypL qs yN 0 a false h) rfl;have a6:=de (w.heap.size+1+1) (ypL qs yN 0 a false h) 0 wc;have bR:=a6.below ax (show w.heap.size≤w.heap.size+1+1 by omega)
      go_upto_region 10 with fail
      refine wp_region_lit ?_;refine wpList_load_mid rfl 141 (.tmp 8) rfl g 0 rfl (ypL qs yN 0 a false h) _ al underlying141 rfl (by kernel_rfl) ?_;refine wpList_store_mid rfl 141 (.tmp 6) (.tmp 74) rfl (w.heap.size+1+1) 0 (ypA qs yN 0 a false h) rfl rfl an (by kernel_rfl) (by simp[Value.oneCell']) ?_;refine wpList_nil ?_;clear al an a6 b5 ad;change Exit.then _ _ _ _ (World.setCells wc (w.heap.size+1+1) 0 (ypL qs yN 0 a false h));generalize World.setCells wc (w.heap.size+1+1) 0 (ypL qs yN 0 a false h)=WR at cR bR⊢
      go_goals
      rename_i KK hKK
      refine hKK _ _ (wp_ret ?_);clear hKK;obtain⟨s0,s1,s2,s3,s4,s5⟩:=cR.cs6;refine bodyPost_ret (v:=(ypV qs yN 0 a false h)) (by simp[results,results148,go_sem,s0,s1,s2,s3,s4,s5]) rfl ?_;rw[HZ.out ey.out];exact⟨_,rfl,aQ _ _ _ _,bR⟩
     ·have hz:((ld:Int)==0)=false:=by rw[b0];simp[a8]
      have ez:Hid (¬d=0):=a8;clear a8 b0;obtain⟨x0,x1,N,P,O⟩:=bz.cs5
      go_wp2_with fail
      refine(b9.out _ _ _ (b2▸od) (ax.size)).mono ?_;rintro z wg ⟨u,rfl,ou,U⟩;have e0:=bz.l U;have er:=ep.l U;have dd:=ad.l U;have cc:=b5.l U;have g3:=od.l U;have da:=aa ax U;clear bz ep ad b5 od ax U;clear x0 x1 N P O;obtain⟨s,o,ca⟩:=ou.rd.shape;subst ca;have S:=af wg (.cells #[yT s m o,yi b] 196);have s9:=ah wg [yT s m o,yi b] 196;have fc:g<wg.heap.size:=cc.lt;have c0:=e0.l S;have es:=er.l S;have bt:=dd.l S;have B:=cc.l S;have cb:=ou.l S;have bj:=aa da S;clear e0 er dd cc ou da S
      go_upto_region 12 with fail
      generalize wg.alloc (.cells #[yT s m o,yi b] 196)=W9 at c0 es bt B cb s9 bj⊢;generalize wg.heap.size=SB at s9 fc⊢;have P:=c0.c 3 rfl;obtain⟨Q,y1⟩:=s9.cs2;have v1:=B.c 1 rfl;have f1:=B.f 1;have v2:=B.c 2 rfl;have f2:=B.f 2;have v4:=B.c 4 rfl;have f4:=B.f 4;have g0:g≠w.heap.size:=e2;have g2:g≠SB:=by omega
      go_wp2_with fail
      have bu:But g W9 (((W9.setCell ⟨g,1,none⟩ (yT s m o)).setCell ⟨g,2,none⟩ (yi b)).setCell ⟨g,4,none⟩ (.bool (decide (G<b)))):=((ag W9 g 1 (yT s m o)).trans (ag _ g 2 (yi b))).trans (ag _ g 4 (.bool (decide (G<b))));have pX:au (((W9.setCell ⟨g,1,none⟩ (yT s m o)).setCell ⟨g,2,none⟩ (yi b)).setCell ⟨g,4,none⟩ (.bool (decide (G<b)))) g 141 (ypL qs (yT s m o) b a (decide (G<b)) h):=((B.set 1 (yT s m o)).set 2 (yi b)).set 4 (.bool (decide (G<b)));have cX:=bu.loc bt e3.symm;have oX:=bu.own cb B (by decide);have bX:=bu.below bj e4
      go_region
      clear c0 es bt B cb s9 bj P Q y1 v1 v2 v4 f1 f2 f4 bu;generalize(((W9.setCell ⟨g,1,none⟩ (yT s m o)).setCell ⟨g,2,none⟩ (yi b)).setCell ⟨g,4,none⟩ (.bool (decide (G<b))))=WX at pX cX oX bX⊢;have ac:yB WX WX.drew:=(Below.refl _ _).drew;have eh:=pX.l ac;have az:=cX.l ac;have fj:=oX.l ac;have f6:=aa bX ac;clear pX cX oX bX ac
      go_goals
      have al:=eh.range;have an:=az.there 6 rfl;have cR:=az.sets (ypL qs (yT s m o) b a (decide (G<b)) h) rfl;have a6:=de (w.heap.size+1+1) (ypL qs (yT s m o) b a (decide (G<b)) h) 0 WX.drew;have bR:=a6.below f6 (show w.heap.size≤w.heap.size+1+1 by omega)
      have oR:=a6.own fj az (by decide)
      go_upto_region 13 with fail
      refine wp_region_lit ?_;refine wpList_load_mid rfl 141 (.tmp 8) rfl g 0 rfl (ypL qs (yT s m o) b a (decide (G<b)) h) _ al underlying141 rfl (by kernel_rfl) ?_;refine wpList_store_mid rfl 141 (.tmp 6) (.tmp 93) rfl (w.heap.size+1+1) 0 (ypA qs (yT s m o) b a (decide (G<b)) h) rfl rfl an (by kernel_rfl) (by simp[Value.oneCell']) ?_;refine wpList_nil ?_;clear al an a6 eh az;change Exit.then _ _ _ _ (World.setCells WX.drew (w.heap.size+1+1) 0 (ypL qs (yT s m o) b a (decide (G<b)) h));generalize World.setCells WX.drew (w.heap.size+1+1) 0 (ypL qs (yT s m o) b a (decide (G<b)) h)=WR at cR bR oR⊢
      go_goals
      rename_i KK hKK
      refine hKK _ _ (wp_ret ?_);clear hKK;obtain⟨s0,s1,s2,s3,s4,s5⟩:=cR.cs6;refine bodyPost_ret (v:=(ypV qs (yT s m o) b a (decide (G<b)) h)) (by simp[results,results148,go_sem,s0,s1,s2,s3,s4,s5]) rfl ?_;rw[be.out ez.out];exact⟨_,rfl,oR,bR⟩
theorem IU (Y:Value)(xs:List Nat)(Z:Value)(d:Nat)(w:World)(ha:Rd w .i64 Y xs)(hb:Rd w .i64 Z [d])(sa:Dg.Small 65536 xs)(al:xs.length≤1000000)(o:0<d)(hd:d<65536):
  yC 59 #[Y,Z] w fun e w'=> ∃vq vr,e= .returned (.tuple #[vq,vr])∧Rd w' .i64 vq (Dg.dg 65536 (Dg.vl 65536 xs/d))∧Rd w' .i64 vr (Dg.dg 65536 (Dg.vl 65536 xs % d))∧yB w w':=by
 obtain⟨i0,hi,a6,a7,a8⟩:=info_parts Tryz.infoI64;obtain⟨ao,ca,rfl,-,-,I⟩:=ha;obtain⟨bo,cb,rfl,-,-,J⟩:=hb;obtain⟨bb,ab,rfl,M⟩:=J (by simp);have K:=M 0 (by simp);simp only[List.getD_cons_zero,Nat.add_zero] at K;have P:([d]:List Nat).length=1:=rfl;rw[P];clear M J P
 go_enter func59,ntmps59
 go_wp2_with (at_make;refine wpList_make_full _ rfl _ _ 26 rfl w.heap.size 3 i0 (yi 0) 1 underlying26 hi a6 a7 _ _ _ _ xs.length rfl rfl (by omega) (by omega) ?b2 ?b3 (Nat.le_refl _) ?_)
 case b2=>rw[a8];omega
 case b3=>unfold maxLen;omega
 intro w0 R N;have W:=gL R;have F:yB w w0:=(Below.refl _ _).grown N (Nat.le_refl _) (fun k h=>by cases h)
 clear R N
 go_wp2
 go_loopw [7,8] (fun rv C wr=> ∃(k r:Nat) (a:List Nat),k≤xs.length∧C=yi ((k:Int)-1)∧rv=yi r∧Own wr w.heap.size 3 .i64 (.slice (some ⟨w.heap.size,0,none⟩) xs.length xs.length) a∧X9 xs a d k r∧yB w wr)
  (fun _ C _=>(intOf C+1).toNat)
 case atStart=>exact⟨xs.length,0,_,Nat.le_refl _,rfl,rfl,W,⟨by simp,Dg.small_replicate _ _ (by omega),o,by simp[Dg.vl]⟩,F⟩
 case round=>
  clear W F;obtain⟨k,r,a,hk,rfl,rfl,own,i,j⟩:=hrel;have O:=i.1;have hr:=i.2.2.1
  by_cases a4:k=0
  ·subst a4
   obtain⟨h1,h2,H,n⟩:=i;simp only[List.drop_zero] at n;have v:Dg.vl 65536 xs/d=Dg.vl 65536 a:=by
    rw[n,Nat.mul_comm,Nat.mul_add_div o,Nat.div_eq_of_lt H];omega
   have y:Dg.vl 65536 xs % d=r:=by
    rw[n,Nat.mul_comm,Nat.mul_add_mod,Nat.mod_eq_of_lt H]
   have a0:Hid (Dg.vl 65536 xs/d=Dg.vl 65536 a):=v;have a2:Hid (Dg.vl 65536 xs % d=r):=y;have ad:a.length≤1000000:=by omega
   clear n v y O h1
   go_wp2_with fail
   refine(i9 _ _ _ a _ own.rd).mono ?_;rintro e w' ⟨m,rfl,Q,rfl⟩;have rq:=xh own h2 Q (by omega);have E:Below w'.heap.size w' (w'.alloc (.cells #[yi r] 3)):=(Below.refl _ _).alloc (Nat.le_refl _) _;have D:=cE (w:=w') (k:= .i64) (e:=3) [r] #[yi r] rfl (by unfold maxLen;simp)
   go_wp2_with fail
   refine(i9 _ _ _ [r] _ D).mono ?_;rintro e w2 ⟨m2,rfl,A,rfl⟩;have a5:=A.1;simp only[List.length_cons,List.length_nil] at a5;have X:=uE (cap':=m2) 65536 (by omega) D (Dg.small_cons.2 ⟨by omega,Dg.small_nil _ (by omega)⟩) A (Nat.le_refl _) (by unfold maxLen;omega);have G:Dg.vl 65536 [r]=r:=by simp[Dg.vl]
   rw[G] at X;have a9:=rq.l E;have a3:=aa j E;clear Q A D G
   go_wp2
   go_ret2
   exact⟨_,_,rfl,by rw[a0.out];exact a9,by rw[a2.out];exact X,a3⟩
  ·obtain⟨m,rfl⟩: ∃m,k=m+1:=⟨k-1,by omega⟩
   obtain⟨b,aq,rfl,L⟩:=I (by omega);have hx:=cell_later j (L m (by omega));have ac:=cell_later j K;have U:=sa m;have hq:=own.c m (by omega);have hf:=own.f m;obtain⟨x,z⟩: ∃x,xs.getD m 0=x:=⟨_,rfl⟩;rw[z] at hx U;have B:=M8 (t:=65536*r+x) hr U rfl;have s:=Qp i (by omega) (by rw[z]) o B;have S:(65536*r+x) % d<d:=Nat.mod_lt _ o;obtain⟨t,T⟩: ∃t,65536*r+x=t:=⟨_,rfl⟩;have ap:t<4294967296:=by omega
   rw[T] at s B S;have an:65536*(r:Int)+(x:Int)=(t:Int):=by omega
   obtain⟨g,q⟩: ∃g,t/d=g:=⟨_,rfl⟩;obtain⟨u,p⟩: ∃u,t % d=u:=⟨_,rfl⟩;have v:(t:Int).tdiv d=(g:Int):=by rw[Int.tdiv_eq_ediv_of_nonneg (by omega),←q];exact(Int.natCast_ediv t d).symm
   have y:(t:Int).tmod d=(u:Int):=by rw[Int.tmod_eq_emod_of_nonneg (by omega),←p];exact(Int.natCast_emod t d).symm
   have e3:(t:Int)/(d:Int)=(g:Int):=by rw[←q];exact(Int.natCast_ediv t d).symm
   have e4:(t:Int) % (d:Int)=(u:Int):=by rw[←p];exact(Int.natCast_emod t d).symm
   rw[q] at s B;rw[p] at s S;have e5:IntKind.i64.wrap (g:Int)=(g:Int):=IntWalk.i64_in _ ⟨by omega,by omega⟩;have ae:((d:Int)==0)=false:=by simp;omega
   clear z L I i q p T O
   go_wp2
   go_region
   all_goals go_wp2
   all_goals go_roundw
   case rel=>exact⟨m,_,_,by omega,by go_num,rfl,Own.l (own.store m _) (Below.drew (Below.refl _ _)),s,(j.setCell (by exact Nat.le_refl _) _).drew⟩
   case measure=>simp[intOf]
theorem vi {P:Program}{w:World}{e g cap:Nat}{zs:List Nat}(d a:TypeId)(m:P.underlying d=some (.slice e))(l:P.underlying e=some (.int .u8))(k:P.underlying a=some .string)
  (h:ik w g zs):(convert d a (.slice (some ⟨g,0,none⟩) zs.length cap)).run P w= .ok (.string (cF zs)) w:=by
 rw[run_convert_bytes_string w d a e _ _ _ m l k];have i:=run_loadCells_list (P:=P) w ⟨g,0,none⟩ (zs.map (fun n:Nat=>Value.int .u8 (n:Int))) (by
  intro j u b;have f:j<zs.length:=by have:=(List.getElem?_eq_some_iff.1 b).1;simpa using this
  rw[j9 _ zs j f] at b;rw[rO,Nat.zero_add,h.c j f];exact b)
 rw[List.length_map] at i;have:=run_bytesToString (P:=P) w ⟨g,0,none⟩ zs.length cap (zs.map (fun n:Nat=>(n:Int))) (by
  rw[i];simp)
 rw[this,Iu];simp[cF]
theorem Pu {n m:Nat}{a:List Nat}(h:L5 n a m):Xy n (m/10000) a 0 (m % 10000):=by
 refine⟨h.1,by omega,by simp;omega, ?_⟩;rw[h.2];have:m % 10000+10^ (4-0)*(m/10000)=m:=by simpa using Nat.mod_add_div m 10000
 rw[this]
theorem IA {n m:Nat}{a:List Nat}{j g:Nat}(h:Xy n m a j g)(k:j<4):Xy n m (a++[g % 10]) (j+1) (g/10):=by
 obtain⟨d,i,f,b⟩:=h;have e:4-j=(4-(j+1))+1:=by omega
 rw[e,Nat.pow_succ] at f b;refine⟨qP d (Nat.mod_lt _ (by omega)),by omega,by omega, ?_⟩;rw[Dg.vl_append];simp only[Dg.vl,List.length_append,List.length_cons,List.length_nil,Nat.pow_succ];rw[b];generalize 10^ (4-(j+1))=p at*;have c:g+p*10*m=g % 10+10*(g/10+p*m):=by
  have:=Nat.mod_add_div g 10;rw[Nat.mul_add,Nat.mul_comm p 10,Nat.mul_assoc];omega
 rw[c,Nat.mul_add];simp only[Nat.mul_zero,Nat.add_zero];rw[Nat.mul_assoc];omega
theorem Mf {n m:Nat}{a:List Nat}{g:Nat}(h:Xy n m a 4 g):L5 n a m:=by
 obtain⟨b,e,c,d⟩:=h;have:g=0:=by simpa using c
 subst this;exact⟨b,by simpa using d⟩
def acY (w w1:World)(n m base0:Nat)(sv gv jv:Value)(wr:World):Prop:=
 ∃(ds:List Nat) (S:ByteArray) (j g:Nat),gv=yi ((g:Nat):Int)∧jv=yi ((j:Nat):Int)∧j≤4∧ds.length=base0+j∧g<10000∧sv= .string S∧Hid (S=cF (txt ds))∧S.size=base0+j∧Xy n m ds j g∧yB w wr∧yB w1 wr
theorem Kc (va:Value)(n L:Nat)(w:World)(ha:Rd w .i64 va (Dg.dg 65536 n))(hL:(Dg.dg 65536 n).length≤L)(hLl:L≤100000):
  yC 96 #[va] w (yR w (.string (oW n))):=by
 have hnl:n<65536^L:=by
  have:=Dg.vl_lt 65536 (Dg.dg 65536 n) (Dg.small_dg _ _ (by omega));rw[Dg.vl_dg _ _ (by omega)] at this;exact Nat.lt_of_lt_of_le this (Nat.pow_le_pow_right (by omega) hL)
 have HNL:Hid (n<65536^L):=hnl;clear hnl;obtain⟨ao,ca,rfl⟩:=ha.shape
 go_enter func96,ntmps96
 go_wp2
 go_loopg [0,3] n (fun m av sv wr=>afk w L n m av sv wr)
 case atStart=>exact⟨[],_,ha,rfl,rfl,⟨Dg.small_nil _ (by omega),by simp[Dg.vl]⟩,by simp,hL,Below.refl _ _⟩
 case round=>
  obtain⟨ds,S,hr,rfl,hS,hO,hdl,hml,bel⟩:=hrel;obtain⟨ao2,ca2,rfl⟩:=hr.shape;have a1:yB wr (wr.alloc (.cells #[yi 10000] 3)):=(Below.refl _ _).alloc (Nat.le_refl _) _;have r1:=cE (w:=wr) (k:= .i64) (e:=3) [10000] #[yi 10000] rfl (by unfold maxLen;simp);have hin:=IU _ _ _ 10000 _ (hr.l a1) r1 (Dg.small_dg _ _ (by omega)) (by omega) (by omega) (by omega);rw[Dg.vl_dg _ _ (by omega)] at hin;simp only[show[10000].length=1 from rfl] at hin
  have hJ:=Pu hO;have hg4:gk % 10000<10000:=Nat.mod_lt _ (by omega);have hone:=Cv (gk % 10000) (by omega);have b1:=aa bel a1;have hSs:S.size=ds.length:=by rw[hS.out,strOf_size8,jL]
  clear r1
  go_wp2_with fail
  refine hin.mono ?_;rintro e w1 ⟨vq,vr,rfl,rq,rr,k1⟩;have b2:=aa b1 k1;clear hin;obtain⟨qo,qc,rfl⟩:=rq.shape;obtain⟨ro,rc,rfl⟩:=rr.shape;have hqn:(Dg.dg 65536 (gk/10000)).length≤L:=Nat.le_trans (aH _ _ _ (by omega) (Nat.div_le_self _ _)) hml;have hqz:=Dg.dg_nil_iff 65536 (gk/10000) (by omega);have hgd: ∀w2,yB w1 w2→gk % 10000≠0→(Dg.dg 65536 (gk % 10000)).length=1∧ ∃b off,ro=some ⟨b,off,none⟩∧w2.cell? ⟨b,off,none⟩=some (yi ((gk % 10000:Nat):Int)):=fun w2 k2 h0=>by
   rw[if_neg h0] at hone;obtain⟨-,-,hc⟩:=iQ rr;rw[hone] at hc⊢;obtain⟨b,off,e,hcell⟩:=hc (by simp);exact⟨rfl,b,off,e,cell_later k2 (by simpa using hcell 0 (by simp))⟩
  have hgz:gk % 10000=0→(Dg.dg 65536 (gk % 10000)).length=0:=fun h0=>by rw[h0];rfl
  obtain⟨g,hg⟩: ∃g,gk % 10000=g:=⟨_,rfl⟩;obtain⟨rl,hrl⟩: ∃rl,(Dg.dg 65536 (gk % 10000)).length=rl:=⟨_,rfl⟩;rw[hrl] at hgd hgz⊢;rw[hg] at hgd hgz hJ hg4;obtain⟨ql,hql⟩: ∃ql,(Dg.dg 65536 (gk/10000)).length=ql:=⟨_,rfl⟩;have HQ:Hid ((Dg.dg 65536 (gk/10000)).length=ql):=hql;have hq0:ql=0↔gk/10000=0:=by
   rw[←hql,←hqz];exact List.length_eq_zero_iff
  rw[hql] at rq hqn⊢;have hqlen:Rd w1 .i64 (.slice qo ql qc) (Dg.dg 65536 (gk/10000)):=rq;have HQ0:Hid (ql=0↔gk/10000=0):=hq0;have HSS:Hid (S.size=ds.length):=hSs;have hslen:S.size≤16*L:=by omega
  clear hone hqz hrl hg hql rr hr hq0 hSs hO a1 bel b1 rq;have fact:g=0∧rl=0∨rl=1∧ ∃b off,ro=some ⟨b,off,none⟩∧w1.cell? ⟨b,off,none⟩=some (yi ((g:Nat):Int)):=by
   by_cases h0:g=0
   ·exact .inl ⟨h0,hgz h0⟩
   ·obtain⟨h1,b,off,e,hc⟩:=hgd w1 (Below.refl _ _) h0
    exact .inr ⟨h1,b,off,e,hc⟩
  clear hgd hgz;have start:acY w w1 n (gk/10000) ds.length (.string S) (yi ((g:Nat):Int)) (yi ((0:Nat):Int)) w1:=⟨ds,S,0,g,rfl,rfl,by omega,by omega,hg4,rfl,hS,by rw[HSS.out];omega,hJ,b2,Below.refl _ _⟩
  rcases fact with⟨h0,hrl⟩| ⟨hrl,b,off,hro,hc⟩
  ·subst h0 hrl
   go_wp2
   go_loopw [3,6,7] (fun sv gv jv wr=>acY w w1 n (gk/10000) ds.length sv gv jv wr) (fun _ _ jv _=>(4-intOf jv).toNat)
   case atStart=>exact start
   case round=>
    clear start hJ b2;obtain⟨es,T,j,g2,rfl,rfl,hj4,hes,hg2,rfl,hT,hTs,hJ2,bel,bq⟩:=hrel;have HTS:Hid (T.size=ds.length+j):=hTs;have HES:Hid (es.length=ds.length+j):=hes;have hTl:T.size≤16*L+4:=by have:=HSS.out;omega
    clear hTs hes
    by_cases hj:j<4
    ·have own1:=So wr 0 5 g2 (Nat.zero_le _)
     have hcv:=lQ 153 9 underlying153 underlying5 underlying9 own1;have hsz1:(cF [48+g2 % 10]).size≤1:=by rw[strOf_size8];simp
     have hcs:cF [48+g2 % 10]++T=cF (txt (es++[g2 % 10])):=by rw[hT.out,EY,Md]
     have hcz:(cF [48+g2 % 10]++T).size=ds.length+(j+1):=by rw[hcs,strOf_size8,jL];have:=HES.out;simp;omega
     obtain⟨C,hC⟩: ∃C,cF [48+g2 % 10]=C:=⟨_,rfl⟩;rw[hC] at hcv hsz1 hcs hcz;have HCS:Hid (C++T=cF (txt (es++[g2 % 10]))):=hcs;have HCZ:Hid ((C++T).size=ds.length+(j+1)):=hcz;have b4:=bq.alloc bq.size (.cells #[.int .u8 (48+(g2:Int) % 10)] 5);have b3:=bel.alloc bel.size (.cells #[.int .u8 (48+(g2:Int) % 10)] 5);clear hC hcs hcz own1
     go_wp2
     go_roundw
     case rel=>exact⟨es++[g2 % 10],C++T,j+1,g2/10,by go_num,by go_num,by omega,by have:=HES.out;simp;omega,by omega,rfl,HCS.out,HCZ.out,IA hJ2 hj,b3,b4⟩
     case measure=>simp[intOf];omega
    ·have hj':j=4:=by omega
     subst hj';have hO2:=Mf hJ2
     by_cases hq:ql=0
     ·subst hq
      have hm0:gk/10000=0:=HQ0.out.1 rfl;rw[hm0] at hO2;obtain⟨E,hE⟩: ∃E,T.size=E:=⟨_,rfl⟩;have HE:Hid (es.length=E):=by show _=_;rw[←hE,HES.out,HTS.out]
      have hE4:4≤E:=by rw[←hE,HTS.out];omega
      have hfin: ∀k,k+1≤es.length→(∀i,i<k→es.getD (es.length-1-i) 0=0)→(k+1=es.length∨es.getD (es.length-1-k) 0≠0)→T.extract k T.size=oW n:=fun k h1 h2 h3=>by
       rw[hT.out,EZ];exact IB hO2 h1 h2 h3
      rw[hE] at hfin hTl;have hix: ∀k,k<es.length→ ∀w,(Instr.index 9 (.string T) (yi (k:Int))).run Tryz.prog w= .ok (.int .u8 ((48+es.getD (es.length-1-k) 0:Nat):Int)) w:=fun k hk w=>by
       have hks:k<T.size:=by rw[hE,←HE.out];exact hk
       rw[run_index_string w 9 T .i64 (k:Int) underlying9,dif_pos ⟨by omega,by omega⟩]
       congr 3
       have hts:k< (cF (txt es)).size:=by rw[strOf_size8,jL];exact hk
       have e1:(T[(k:Int).toNat]'(by omega)).toNat=((cF (txt es))[k]'hts).toNat:=by
        have:=hT.out;subst this;rfl
       rw[e1,Cj _ _ hts (fun j=> ?_),tQ es k hk]
       by_cases hjl:j<es.length
       ·rw[tQ es j hjl];have:=hO2.1 (es.length-1-j);omega
       ·rw[Dg.getD_of_le _ _ (by rw[jL];omega)];omega
      have HIX:Hid _:=hix;have HFIN:Hid _:=hfin;have hds:=hO2.1;clear hix hfin hJ2 hm0
      go_wp2
      go_loop [8] (fun iv=> ∃k:Nat,k+1≤E∧iv=yi k∧Hid (∀i,i<k→es.getD (es.length-1-i) 0=0)) (fun iv=>E-(intOf iv).toNat)
      case atStart=>exact⟨0,by omega,rfl,fun i hi=>by omega⟩
      case round=>
       obtain⟨k,hk,rfl,hz⟩:=hrel
       by_cases hl:k+1<E
       ·have hi1:=HIX.out k (by rw[HE.out];omega)
        have hd10:=hds (es.length-1-k);obtain⟨d,hd⟩: ∃d,es.getD (es.length-1-k) 0=d:=⟨_,rfl⟩;rw[hd] at hi1 hd10;have Hd:Hid (es.getD (es.length-1-k) 0=d):=hd;clear hd
        by_cases hd0:d=0
        ·subst hd0
         go_wp2
         go_round
         case rel=>exact⟨k+1,by omega,by go_num,fun i hi=>by
          by_cases e:i=k
          ·rw[e];exact Hd.out
          ·exact hz i (by omega)⟩
         case measure=>simp[intOf];omega
        ·have hne:((48+(d:Int))==48)=false:=by simp;omega
         have HF:Hid (T.extract k E=oW n):=HFIN.out k (by rw[HE.out];omega) hz (.inr (by rw[Hd.out];exact hd0))
         go_wp2
         go_ret
         exact⟨by rw[←HF.out];rfl,bel⟩
       ·have hke:k+1=E:=by omega
        have HF:Hid (T.extract k E=oW n):=HFIN.out k (by rw[HE.out];omega) hz (.inl (by rw[HE.out];exact hke));have hl2: ¬((k:Int)< (E:Int)-1):=by omega
        clear hke
        go_wp2
        go_ret
        exact⟨by rw[←HF.out];rfl,bel⟩
     ·have hqb:((ql:Int)==0)=false:=by simp;exact hq
      have hm0:gk/10000≠0:=fun e=>hq (HQ0.out.2 e)
      have hel:es.length≤16*L:=by
       have h1:10^es.length≤10^es.length*(gk/10000):=Nat.le_mul_of_pos_right _ (by omega);have h2:=hO2.2;have h3:2^es.length≤10^es.length:=Nat.pow_le_pow_left (by omega) _;have h4:(65536:Nat)^L=2^ (16*L):=by rw[Nat.pow_mul]
       have h5:=HNL.out;rw[h4] at h5;have:=(Nat.pow_lt_pow_iff_right (by omega:1<2)).1 (Nat.lt_of_le_of_lt (Nat.le_trans h3 (Nat.le_trans h1 (by omega))) h5);omega
      have hbw:Rd wr .i64 (.slice qo ql qc) (Dg.dg 65536 (gk/10000)):=hqlen.l bq;clear hqb
      go_wp2
      go_roundg (gk/10000)
      case measure=>exact Nat.div_lt_self (by omega) (by omega)
      case rel=>exact⟨es,T,hbw,rfl,hT,hO2,hel,by rw[HQ.out];exact hqn,bel⟩
  ·subst hrl hro
   go_wp2
   go_loopw [3,6,7] (fun sv gv jv wr=>acY w w1 n (gk/10000) ds.length sv gv jv wr) (fun _ _ jv _=>(4-intOf jv).toNat)
   case atStart=>exact start
   case round=>
    clear start hJ b2;obtain⟨es,T,j,g2,rfl,rfl,hj4,hes,hg2,rfl,hT,hTs,hJ2,bel,bq⟩:=hrel;have HTS:Hid (T.size=ds.length+j):=hTs;have HES:Hid (es.length=ds.length+j):=hes;have hTl:T.size≤16*L+4:=by have:=HSS.out;omega
    clear hTs hes
    by_cases hj:j<4
    ·have own1:=So wr 0 5 g2 (Nat.zero_le _)
     have hcv:=lQ 153 9 underlying153 underlying5 underlying9 own1;have hsz1:(cF [48+g2 % 10]).size≤1:=by rw[strOf_size8];simp
     have hcs:cF [48+g2 % 10]++T=cF (txt (es++[g2 % 10])):=by rw[hT.out,EY,Md]
     have hcz:(cF [48+g2 % 10]++T).size=ds.length+(j+1):=by rw[hcs,strOf_size8,jL];have:=HES.out;simp;omega
     obtain⟨C,hC⟩: ∃C,cF [48+g2 % 10]=C:=⟨_,rfl⟩;rw[hC] at hcv hsz1 hcs hcz;have HCS:Hid (C++T=cF (txt (es++[g2 % 10]))):=hcs;have HCZ:Hid ((C++T).size=ds.length+(j+1)):=hcz;have b4:=bq.alloc bq.size (.cells #[.int .u8 (48+(g2:Int) % 10)] 5);have b3:=bel.alloc bel.size (.cells #[.int .u8 (48+(g2:Int) % 10)] 5);clear hC hcs hcz own1
     go_wp2
     go_roundw
     case rel=>exact⟨es++[g2 % 10],C++T,j+1,g2/10,by go_num,by go_num,by omega,by have:=HES.out;simp;omega,by omega,rfl,HCS.out,HCZ.out,IA hJ2 hj,b3,b4⟩
     case measure=>simp[intOf];omega
    ·have hj':j=4:=by omega
     subst hj';have hO2:=Mf hJ2
     by_cases hq:ql=0
     ·subst hq
      have hm0:gk/10000=0:=HQ0.out.1 rfl;rw[hm0] at hO2;obtain⟨E,hE⟩: ∃E,T.size=E:=⟨_,rfl⟩;have HE:Hid (es.length=E):=by show _=_;rw[←hE,HES.out,HTS.out]
      have hE4:4≤E:=by rw[←hE,HTS.out];omega
      have hfin: ∀k,k+1≤es.length→(∀i,i<k→es.getD (es.length-1-i) 0=0)→(k+1=es.length∨es.getD (es.length-1-k) 0≠0)→T.extract k T.size=oW n:=fun k h1 h2 h3=>by
       rw[hT.out,EZ];exact IB hO2 h1 h2 h3
      rw[hE] at hfin hTl;have hix: ∀k,k<es.length→ ∀w,(Instr.index 9 (.string T) (yi (k:Int))).run Tryz.prog w= .ok (.int .u8 ((48+es.getD (es.length-1-k) 0:Nat):Int)) w:=fun k hk w=>by
       have hks:k<T.size:=by rw[hE,←HE.out];exact hk
       rw[run_index_string w 9 T .i64 (k:Int) underlying9,dif_pos ⟨by omega,by omega⟩]
       congr 3
       have hts:k< (cF (txt es)).size:=by rw[strOf_size8,jL];exact hk
       have e1:(T[(k:Int).toNat]'(by omega)).toNat=((cF (txt es))[k]'hts).toNat:=by
        have:=hT.out;subst this;rfl
       rw[e1,Cj _ _ hts (fun j=> ?_),tQ es k hk]
       by_cases hjl:j<es.length
       ·rw[tQ es j hjl];have:=hO2.1 (es.length-1-j);omega
       ·rw[Dg.getD_of_le _ _ (by rw[jL];omega)];omega
      have HIX:Hid _:=hix;have HFIN:Hid _:=hfin;have hds:=hO2.1;clear hix hfin hJ2 hm0
      go_wp2
      go_loop [8] (fun iv=> ∃k:Nat,k+1≤E∧iv=yi k∧Hid (∀i,i<k→es.getD (es.length-1-i) 0=0)) (fun iv=>E-(intOf iv).toNat)
      case atStart=>exact⟨0,by omega,rfl,fun i hi=>by omega⟩
      case round=>
       obtain⟨k,hk,rfl,hz⟩:=hrel
       by_cases hl:k+1<E
       ·have hi1:=HIX.out k (by rw[HE.out];omega)
        have hd10:=hds (es.length-1-k);obtain⟨d,hd⟩: ∃d,es.getD (es.length-1-k) 0=d:=⟨_,rfl⟩;rw[hd] at hi1 hd10;have Hd:Hid (es.getD (es.length-1-k) 0=d):=hd;clear hd
        by_cases hd0:d=0
        ·subst hd0
         go_wp2
         go_round
         case rel=>exact⟨k+1,by omega,by go_num,fun i hi=>by
          by_cases e:i=k
          ·rw[e];exact Hd.out
          ·exact hz i (by omega)⟩
         case measure=>simp[intOf];omega
        ·have hne:((48+(d:Int))==48)=false:=by simp;omega
         have HF:Hid (T.extract k E=oW n):=HFIN.out k (by rw[HE.out];omega) hz (.inr (by rw[Hd.out];exact hd0))
         go_wp2
         go_ret
         exact⟨by rw[←HF.out];rfl,bel⟩
       ·have hke:k+1=E:=by omega
        have HF:Hid (T.extract k E=oW n):=HFIN.out k (by rw[HE.out];omega) hz (.inl (by rw[HE.out];exact hke));have hl2: ¬((k:Int)< (E:Int)-1):=by omega
        clear hke
        go_wp2
        go_ret
        exact⟨by rw[←HF.out];rfl,bel⟩
     ·have hqb:((ql:Int)==0)=false:=by simp;exact hq
      have hm0:gk/10000≠0:=fun e=>hq (HQ0.out.2 e)
      have hel:es.length≤16*L:=by
       have h1:10^es.length≤10^es.length*(gk/10000):=Nat.le_mul_of_pos_right _ (by omega);have h2:=hO2.2;have h3:2^es.length≤10^es.length:=Nat.pow_le_pow_left (by omega) _;have h4:(65536:Nat)^L=2^ (16*L):=by rw[Nat.pow_mul]
       have h5:=HNL.out;rw[h4] at h5;have:=(Nat.pow_lt_pow_iff_right (by omega:1<2)).1 (Nat.lt_of_le_of_lt (Nat.le_trans h3 (Nat.le_trans h1 (by omega))) h5);omega
      have hbw:Rd wr .i64 (.slice qo ql qc) (Dg.dg 65536 (gk/10000)):=hqlen.l bq;clear hqb
      go_wp2
      go_roundg (gk/10000)
      case measure=>exact Nat.div_lt_self (by omega) (by omega)
      case rel=>exact⟨es,T,hbw,rfl,hT,hO2,hel,by rw[HQ.out];exact hqn,bel⟩
theorem dg_round {x:ak}{k:Nat}(I:x.n<2^64)(l: -16500≤x.e)(z:x.e≤16500)(D:x.n≠0)(T:1≤k)(U:k≤60){g f:Nat}(H:g=dqN x*10^ ((k:Int)-1-dcP x).toNat)(v:f=dqD x*10^ (-((k:Int)-1-dcP x)).toNat):
  g/f≠0∧((0<dm (g % f*2:Nat) (f:Nat)∧prQ (dcH x) (dcC x) k=g/f+1)∨(dm (g % f*2:Nat) (f:Nat)=0∧g/f % 2=1∧prQ (dcH x) (dcC x) k=g/f+1)∨(dm (g % f*2:Nat) (f:Nat)=0∧g/f % 2=0∧prQ (dcH x) (dcC x) k=g/f)∨(dm (g % f*2:Nat) (f:Nat)<0∧prQ (dcH x) (dcC x) k=g/f)):=by
 have G:=dc_many I l z D;have R:61≤dcC x:=by
  rcases Nat.lt_or_ge (dcC x) 61 with c|c
  ·have Q:dcW x<10^dcC x:=decS_big
   have:=Nat.pow_le_pow_right (n:=10) (by omega) (show dcC x≤60 by omega)
   omega
  ·exact c
 have j:0<scB x.e (60-dcG x):=Nat.mul_pos (Nat.pow_pos (by omega)) (Nat.pow_pos (by omega));have o:0<f:=by rw[v];exact Nat.mul_pos (Nat.pow_pos (by omega)) (Nat.pow_pos (by omega))
 have E:=dg_ratio (k:=k) (n:=60-dcG x) (P:=dcP x) (C:=dcC x) (dg_cross x.n x.e (60-dcG x)) (by unfold dcP;omega) (by omega);have r:g*(scB x.e (60-dcG x)*10^ (dcC x-k))=scA x.n x.e (60-dcG x)*f:=by rw[H,v];exact E
 have F:dcW x=scA x.n x.e (60-dcG x)/scB x.e (60-dcG x):=rfl;have p:dcH x=if 0<scA x.n x.e (60-dcG x) % scB x.e (60-dcG x) then scA x.n x.e (60-dcG x)/scB x.e (60-dcG x)*2+1 else scA x.n x.e (60-dcG x)/scB x.e (60-dcG x)*2:=by
  unfold dcH dcL dcW
  by_cases c:0<scA x.n x.e (60-dcG x) % scB x.e (60-dcG x)
  ·rw[if_pos c,if_pos (decide_eq_true ?_)]
   rcases Nat.eq_zero_or_pos (Dg.dg 4294967296 (scA x.n x.e (60-dcG x) % scB x.e (60-dcG x))).length with d|d
   ·have:=(Dg.dg_nil_iff 4294967296 _ (by omega)).1 (List.length_eq_zero_iff.1 d)
    omega
   ·exact d
  ·rw[if_neg c,if_neg]
   have:scA x.n x.e (60-dcG x) % scB x.e (60-dcG x)=0:=by omega
   rw[this]
   decide
 have s:10^ (dcC x-1)≤scA x.n x.e (60-dcG x)/scB x.e (60-dcG x):=by
  have:dcW x≠0:=fun c=>by
   have S:0<10^60:=Nat.pow_pos (by omega);omega
  exact decS_low this
 clear G F;generalize scA x.n x.e (60-dcG x)=a at r p s;generalize scB x.e (60-dcG x)=b at j r p s;obtain⟨y,J⟩:=rt_same o (Nat.mul_pos j (Nat.pow_pos (by omega))) r;obtain⟨K,L,M⟩:=half_same j (show 1≤dcC x-k by omega) p
 have t:0<b*10^ (dcC x-k):=Nat.mul_pos j (Nat.pow_pos (by omega));have u: ∀m,m=g % f*2*(b*10^ (dcC x-k))→m=a % (b*10^ (dcC x-k))*2*f:=fun m h=>by
  rw[h,Nat.mul_right_comm,J,Nat.mul_right_comm]
 have i:=u _ rfl;have N:f<g % f*2↔b*10^ (dcC x-k)<a % (b*10^ (dcC x-k))*2:=by
  rw[←Nat.mul_lt_mul_right t,i,Nat.mul_comm f,Nat.mul_lt_mul_right o]
 have O:g % f*2=f↔a % (b*10^ (dcC x-k))*2=b*10^ (dcC x-k):=by
  constructor
  ·intro h
   rw[h] at i;exact Nat.eq_of_mul_eq_mul_right o (by rw[←i,Nat.mul_comm])
  ·intro h
   rw[h] at i;exact Nat.eq_of_mul_eq_mul_right t (by rw[i,Nat.mul_comm])
 have l:dcH x/prU (dcC x) k=g/f:=by rw[y];exact K
 have A:prU (dcC x) k<dcH x % prU (dcC x) k*2↔f<g % f*2:=by rw[N];exact L
 have B:dcH x % prU (dcC x) k*2=prU (dcC x) k↔g % f*2=f:=by rw[O];exact M
 refine⟨?_, ?_⟩
 ·rw[y,←Nat.div_div_eq_div_mul]
  refine Nat.ne_of_gt (Nat.div_pos (Nat.le_trans (Nat.pow_le_pow_right (by omega) (by omega)) s) (Nat.pow_pos (by omega)))
 ·unfold prQ dm
  rw[l];simp only[A,B];generalize g % f*2=m;generalize g/f=q
  rcases Nat.lt_trichotomy m f with h|h|h
  ·refine .inr (.inr (.inr ⟨by rw[if_pos (by omega)];decide,by rw[if_neg (by omega)]⟩))
  ·have e:(if((m:Nat):Int)< ((f:Nat):Int) then(-1:Int) else if((f:Nat):Int)< ((m:Nat):Int) then 1 else 0)=0:=by rw[if_neg (by omega),if_neg (by omega)]
   by_cases w:q % 2=1
   ·exact .inr (.inl ⟨e,w,by rw[if_pos (.inr ⟨h,w⟩)]⟩)
   ·exact .inr (.inr (.inl ⟨e,by omega,by rw[if_neg (by omega)]⟩))
  ·exact .inl ⟨by rw[if_neg (by omega),if_pos (by omega)];decide,by rw[if_pos (.inl h)]⟩
end Go.Proofs.YtlhkndcmbpcpgaaGreatDoor
