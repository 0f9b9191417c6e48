/- Texts laid together. -/
import Derived.Test.YtlhkndcmbpcpgaaGreatDoorXs18
import Derived.Test.YtlhkndcmbpcpgaaGreatDoorXs22
set_option maxRecDepth 100000
set_option maxHeartbeats 25600000
namespace Go.Proofs.YtlhkndcmbpcpgaaGreatDoor
open _root_.Go.Proofs.Tryz
open Go.RowKit
theorem decodeOf_two_mg:
  (∀(n:Int) (sz d u K:Nat) (R D L G N:Int) (gr:Bool) (s:ByteArray) (B:List Nat) (ng:Bool) (E C:Nat) (w:World)
  (_:ng=decide (fU B 0=1)) (_:E=eH B 1 d) (_:C=eH B (1+d) u) (_:1+d+u=8*sz) (_:d≤15) (_:7≤d) (_:sz≤10) (_:u≤64) (_:1≤u) (_:D=(K:Int)+1) (_:K≤63) (_: -20000≤L) (_:L≤0) (_:1≤N) (_:N≤4)
  (_:yJ 15 #[yi n] (.tuple #[yhV sz d u R D L G gr 2,.bool true]))
  (_: ∀o,yC 16 #[yi n,.string s] o fun z w'=> ∃v,z= .returned v∧jp w' o.heap.size v (qV B (8*sz))∧yB o w')
  (_:yJ 21 #[ygV R D L G gr] (yi N)),
  yC 6 #[yi n,.string s] w (JV w (if C=0 then 1 else 2) ng (bare ⟨ng,C,N*(L+E)⟩) ng))∧
  (∀(n:Int) (sz d u K:Nat) (R D L G N:Int) (gr:Bool) (s:ByteArray) (B:List Nat) (ng:Bool) (E C:Nat) (w:World)
  (_:ng=decide (fU B 0=1)) (_:E=eH B 1 d) (_:C=eH B (1+d) u) (_:1+d+u=8*sz) (_:d≤15) (_:7≤d) (_:sz≤10) (_:u≤64) (_:1≤u) (_:D=(K:Int)+1) (_:K≤63) (_: -20000≤L) (_:L≤0) (_:1≤N) (_:N≤4)
  (_:yJ 15 #[yi n] (.tuple #[yhV sz d u R D L G gr 3,.bool true]))
  (_: ∀o,yC 16 #[yi n,.string s] o fun z w'=> ∃v,z= .returned v∧jp w' o.heap.size v (qV B (8*sz))∧yB o w')
  (_:yJ 21 #[ygV R D L G gr] (yi N)),
  yC 6 #[yi n,.string s] w (JV w (if E=0 then(if ng then 5 else 1) else 2) (if E=0 then false else ng) (if E=0 then⟨false,0,0⟩ else bare ⟨ng,C+2^K,N*(L+(E:Int)-1)⟩) ng)):=by
 refine⟨?_, ?_⟩;have _z:Mgk 0:=mgkI 0
 all_goals
  intro n sz d u K R D L G N gr s B ng E C w a3 hE a0 ab c3 db dy bi dc hD c4 cz d0 bm bo HF HB b9;have bv:Hid _:=HF;have bt:Hid _:=HB;have a8:Hid _:=b9;have cx:E<32768:=by
   have O:=gh B 1 d;have W:(2:Nat)^d≤2^15:=Nat.pow_le_pow_right (by omega) c3;omega
  have cy:C<18446744073709551616:=by
   have O:=gh B (1+d) u;have W:(2:Nat)^u≤2^64:=Nat.pow_le_pow_right (by omega) bi;omega
  have HM:Hid (_∧_∧_∧_):=⟨a3,hE,a0,ab⟩;have b0:=af w (.cells (yoA 0 false false yN 0) 30);have q0:=ah w (yoL 0 false false yN 0) 30;have cw:IntKind.i64.wrap (D-1)=(K:Int):=by rw[hD,show K+1-1=(K:Int) from by omega];exact IntWalk.i64_in _ ⟨by omega,by omega⟩
  clear HF HB b9 a3 hE a0 ab hD
  first| (rename Mgk 0=>_z;obtain⟨cl,a2⟩: ∃x:Int,(if C=0 then 1 else 2)=x:=⟨_,rfl⟩;rw[a2];have a5:Hid _:=a2;obtain⟨r,a4⟩: ∃t,bare ⟨ng,C,N*(L+(E:Int))⟩=t:=⟨_,rfl⟩;rw[a4];have bx:Hid _:=a4;clear a2 a4)| (obtain⟨cl,a2⟩: ∃x:Int,(if E=0 then(if ng then 5 else 1) else 2)=x:=⟨_,rfl⟩;obtain⟨gg,aw⟩: ∃x:Bool,(if E=0 then false else ng)=x:=⟨_,rfl⟩;obtain⟨r,a4⟩: ∃t,(if E=0 then⟨false,0,0⟩ else bare ⟨ng,C+2^K,N*(L+(E:Int)-1)⟩)=t:=⟨_,rfl⟩;rw[a2,aw,a4];have a5:Hid (_∧_∧_):=⟨a2,aw,a4⟩;clear a2 aw a4)
  go_enter func6,ntmps6
  go_wp2_with fail
  refine(bv.out _).mono ?_;rintro z o ⟨rfl,b1⟩
  first| (rename Mgk 0=>_z;have ba:=af o (.cells (yhA sz d u R D L G gr 2) 56))| (have ba:=af o (.cells (yhA sz d u R D L G gr 3) 56))
  first| (rename Mgk 0=>_z;have f1:=ah o (yhL sz d u R D L G gr 2) 56)| (have f1:=ah o (yhL sz d u R D L G gr 3) 56)
  have q1:=(q0.l b1).l ba;have aq:=aa (aa b0 b1) ba;obtain⟨T,ar⟩: ∃x,o.heap.size=x:=⟨_,rfl⟩;have d3:w.heap.size<T:=by rw[←ar];exact(q0.l b1).lt
  rw[ar] at f1;clear b0 q0 b1 ba
  go_wp2_with fail
  refine(bt.out _).mono ?_;rintro z S ⟨v2,rfl,bq,b2⟩;obtain⟨a3,hE,a0,ab⟩:=HM.out;have be:=kS B (8*sz);obtain⟨g,cap,bj,bg,c1,bh⟩:=x9 bq (by omega);rw[be] at bj bg;subst bj;have av: ∀i,i<8*sz→S.cell? ⟨g,i,none⟩=some (.bool (decide (fU B i=1))):=fun i hi=>bh i _ (wW B _ i hi)
  have c0:=av 0 (by omega);rw[←a3] at c0;have bb:=af S (.cells #[.bool ng] 4)
  first| (rename Mgk 0=>_z;have F2:zQ w S.heap.size T ng (yhL sz d u R D L G gr 2) (S.alloc (.cells #[.bool ng] 4)):=⟨(q1.l b2).l bb,(f1.l b2).l bb,ah S _ _,aa (aa aq b2) bb⟩)| (have F2:zQ w S.heap.size T ng (yhL sz d u R D L G gr 3) (S.alloc (.cells #[.bool ng] 4)):=⟨(q1.l b2).l bb,(f1.l b2).l bb,ah S _ _,aa (aa aq b2) bb⟩)
  have al:Hid (∀i,i<8*sz→(S.alloc (.cells #[.bool ng] 4)).cell? ⟨g,i,none⟩=some (.bool (decide (fU B i=1)))):=fun i hi=>cell_later bb (av i hi)
  have c8:(8*sz:Nat)=(8*sz:Nat):=rfl;have y1:=F2.f.c 1 rfl;clear bh av bq b2 q1 f1 aq bb a3 hE a0 be c8;obtain⟨nb,c5⟩: ∃x,8*sz=x:=⟨_,rfl⟩;rw[c5] at bg al⊢;have ds:8≤nb:=by omega
  have dt:1+d+u=nb:=by omega
  unfold maxLen at c1
  go_wp2
  go_loop [10,11,12] (fun ev ov iv=> ∃(j i x:Nat) (on:Bool),Hid (i=j+1∧x=eH B 1 j∧on=decide (x+1=2^j))∧i≤d+1∧x<32768∧ev=yi x∧ov= .bool on∧iv=yi i) (fun _ _ iv=>((d:Int)+1-intOf iv).toNat)
  case atStart=>exact⟨0,1,0,true,⟨rfl,rfl,rfl⟩,by omega,by omega,rfl,rfl,rfl⟩
  case round=>
   obtain⟨j,i,x,on,HX,hi,e1,rfl,rfl,rfl⟩:=hrel
   by_cases dq:i≤d
   ·obtain⟨ac,X,ad⟩:=HX.out
    have ci:=al.out i (by omega);obtain⟨b,eb⟩: ∃b,decide (fU B i=1)=b:=⟨_,rfl⟩;rw[eb] at ci;have bz:=xW B i;have a7:eH B 1 (j+1)=2*x+(if b then 1 else 0):=by
     rw[eH,←X,show 1+j=i from by omega,←eb]
     by_cases h:fU B i=1
     ·rw[h];rfl
     ·rw[show fU B i=0 from by omega];rfl
    have ae:=za (b:=b) ad;have ay:=gh B 1 (j+1);have dl:(2:Nat)^ (j+1)≤2^15:=Nat.pow_le_pow_right (by omega) (by omega);have HS:Hid (_∧_∧_∧_):=⟨ac,a7,ae,ay⟩;have dd:i<nb:=by omega
    have hiI:(i:Int)≤(d:Int):=by omega
    clear ac X ad eb bz a7 ae ay HX
    cases b<;>cases on
    all_goals go_wp2
    all_goals (obtain⟨ac,a7,ae,ay⟩:=HS.out;simp only[Bool.false_eq_true,if_false,if_true] at a7 ae;refine⟨⟨j+1,i+1,eH B 1 (j+1),_,⟨by omega,rfl,by rw[a7];exact ae⟩,by omega,by omega,by rw[a7];first|rfl| (congr 1;done)| (congr 1;omega),rfl,by first|rfl| (congr 1;done)| (congr 1;omega)⟩,by simp only[intOf];omega⟩)
   ·obtain⟨ac,X,ad⟩:=HX.out
    have ax:j=d:=by omega
    obtain⟨a3,hE,a0,ab⟩:=HM.out;have cd:x=E:=by rw[X,hE,ax]
    subst cd;have cv:Hid (on=decide (x+1=2^d)):=by rw[←ax];exact ad
    have c2: ¬((i:Int)≤(d:Int)):=by omega
    have hv:=fun o (h: ∀k,k<u→o.cell? ⟨g,1+d+k,none⟩=some (.bool (decide (fU B (1+d+k)=1))))=>pV g (1+d) u (cap-(1+d)) (fun k=>decide (fU B (1+d+k)=1)) o bi h
    rw[uz,←a0] at hv;have bl:=hv _ (fun k hk=>al.out (1+d+k) (by omega))
    have HV:Hid (yC 17 #[.slice (some ⟨g,1+d,none⟩) u (cap-(1+d))] (S.alloc (.cells #[.bool ng] 4)) (cG (S.alloc (.cells #[.bool ng] 4)) C)):=bl;have HP:Hid (∀o,yC 18 #[yi K] o (cG o (2^K))):=fun o=>pf K (K/16) (K % 16) o (by omega) (Nat.mod_lt _ (by omega)) (by omega)
    clear hv bl ac X ad ax a3 hE a0 ab HX al c2;have da:IntKind.i64.wrap (1+(d:Int))=((1+d:Nat):Int):=by rw[show(1:Int)+(d:Int)=((1+d:Nat):Int) from by omega];exact IntWalk.i64_in _ ⟨by omega,by omega⟩
    have d9:(d:Int)< (i:Int):=by omega
    have dv:nb-(1+d)=u:=by omega
    have d5: ¬(1+d=cap):=by omega
    have d6: ¬(cap=1+d):=by omega
    have d7:1+d<cap:=by omega
    go_wp2_with fail
    refine Calls.mono HV.out ?_;rintro z w4 ⟨v4,rfl,r4,b4⟩;obtain⟨ao,ca,c9⟩:=r4.shape;subst c9;have F4:=F2.l b4;clear F2 HV b4 y1 c0;obtain⟨y0,y1,y2,y3,y4,y5,y6,y7,y8⟩:=F4.f.cs9
    go_wp2_with fail
    refine(HP.out _).mono ?_;rintro z w5 ⟨v5,rfl,r5,b5⟩;obtain⟨lo,lc,cb⟩:=r5.shape;subst cb;have A:=F4.l b5;have bs:=r4.l b5;clear y0 y1 y2 y3 y4 y5 y6 y7 y8 F4 r4 b5 HP;obtain⟨bn,bc⟩: ∃x,S.heap.size=x:=⟨_,rfl⟩;rw[bc] at A⊢;have d4:w.heap.size≠bn:=fun h=>by
     have O:=A.q;rw[h] at O;exact A.n.ne O (.inl (by simp)) rfl
    clear bc ar
    first| (rename Mgk 0=>_z;have a6:Hid (∀(m:Nat) (p:Int) (v:Value) o,Rd o .i64 v (Dg.dg 65536 m)→m<340282366920938463463374607431768211456→zQ w bn T ng (yhL sz d u R D L G gr 2) o→ -100000≤p→p≤100000→yC 19 #[v,yi p,.pointer (some ⟨bn,0,none⟩),.pointer (some ⟨T,0,none⟩)] o (Hf o (if m=0 then 1 else 2) ng (bare ⟨ng,m,N*p⟩))):=fun m p v o O W h3 h4 h5=>sL sz d u _ _ _ _ _ N gr ng bn T m p v o O W (h3.n.c 0 rfl) h3.f bm bo h4 h5 a8.out)| (have a6:Hid (∀(m:Nat) (p:Int) (v:Value) o,Rd o .i64 v (Dg.dg 65536 m)→m<340282366920938463463374607431768211456→zQ w bn T ng (yhL sz d u R D L G gr 3) o→ -100000≤p→p≤100000→yC 19 #[v,yi p,.pointer (some ⟨bn,0,none⟩),.pointer (some ⟨T,0,none⟩)] o (Hf o (if m=0 then 1 else 2) ng (bare ⟨ng,m,N*p⟩))):=fun m p v o O W h3 h4 h5=>sL sz d u _ _ _ _ _ N gr ng bn T m p v o O W (h3.n.c 0 rfl) h3.f bm bo h4 h5 a8.out)
    have d1:IntKind.i64.wrap (L+(x:Int))=L+(x:Int):=IntWalk.i64_in _ ⟨by omega,by omega⟩;have n5:=A.n.c 0 rfl;obtain⟨y0,y1,y2,y3,y4,y5,y6,y7,y8⟩:=A.f.cs9
    first
    |
     rename Mgk 0=>_z
     have az:=fun o O W=>a6.out C (L+(x:Int)) (yS ao C ca) o O (by omega) W (by omega) (by omega)
     rw[a5.out,bx.out] at az;have ap:Hid _:=az;have F:=A.l (Below.refl _ _).drew;have b8:=bs.l (Below.refl _ _).drew;clear az a6 a8
     go_wp2_with fail
     go_region_held3 (fun wq=>wq.cell? ⟨bn,0,none⟩=some (.bool ng)) (go_keep) (first
      | (go_at_call 19;refine(ap.out _ b8 F).mono ?_;rintro z w6 ⟨s6,rfl,r6,b6,f6⟩;obtain⟨so,Z,b3⟩:=r6.shape;subst b3;have H:=F.l b6;replace f6:Hid (Far w.heap.size _):=(fun a n c h=>Nat.le_trans F.b.size (f6 a n c h):Far w.heap.size _);have n6:=H.n.c 0 rfl;obtain⟨q0,q1,q2,q3,q4⟩:=H.q.cs5;have j0:=H.q.f 0;have j1:=H.q.f 1;have j2:=H.q.f 2;have j3:=H.q.f 3;have j4:=H.q.f 4))
     have Q:=((((ag w6 w.heap.size 0 (yi cl)).trans (ag _ w.heap.size 1 (.bool ng))).trans (ag _ w.heap.size 2 (.bool r.s))).trans (ag _ w.heap.size 3 (yS so r.n Z))).trans (ag _ w.heap.size 4 (yi r.e));have U:au (((((w6.setCell ⟨w.heap.size,0,none⟩ (yi cl)).setCell ⟨w.heap.size,1,none⟩ (.bool ng)).setCell ⟨w.heap.size,2,none⟩ (.bool r.s)).setCell ⟨w.heap.size,3,none⟩ (yS so r.n Z)).setCell ⟨w.heap.size,4,none⟩ (yi r.e)) w.heap.size 30 (yoL cl ng r.s (yS so r.n Z) r.e):=(((((H.q.set 0 (yi cl)).set 1 (.bool ng)).set 2 (.bool r.s)).set 3 (yS so r.n Z)).set 4 (yi r.e));have I:=Q.below H.b (Nat.le_refl _);have ov:=cq r6 (Dg.norm_dg _ _ (by omega)) H.q (fun x X n hn=>by simp at X;rcases X with rfl|rfl|rfl|rfl|rfl<;>simp;all_goals omega)
     have M:=Q.rd r6 ov;have J:=run_loadVar_mid (P:=Tryz.prog) _ w.heap.size 0 30 (yoL cl ng r.s (yS so r.n Z) r.e) _ U.range underlying30 rfl (by kernel_rfl);have HH:Hid (_∧_∧_):=⟨J,M,I⟩;clear J M I U Q
     go_wp2
     obtain⟨J,M,I⟩:=HH.out;exact bodyPost_ret (aj results6 rfl rfl J) rfl ⟨_,rfl,M,I,f6.out⟩
    |
     have c6:2^K≤2^63:=Nat.pow_le_pow_right (by omega) c4;have c7:0<2^K:=Nat.pow_pos (by omega);obtain⟨Y,bd⟩: ∃y,2^K=y:=⟨_,rfl⟩;rw[bd] at r5 c6 c7 a5⊢;clear bd;obtain⟨a1,an,a9⟩:=a5.out
     by_cases b7:x=0
     ·rw[if_pos b7] at a1 an a9
      subst an a9 b7;clear a6 a8 a5
      cases ng
      ·simp only[Bool.false_eq_true,if_false] at a1
       subst a1;have F:=A.l (Below.refl _ _).drew;have M:=aN (((((w5.setCell ⟨w.heap.size,0,none⟩ (yi 1)).setCell ⟨w.heap.size,1,none⟩ (.bool false)).setCell ⟨w.heap.size,2,none⟩ (.bool false)).setCell ⟨w.heap.size,3,none⟩ yN).setCell ⟨w.heap.size,4,none⟩ (yi 0)).drew .i64;have Q:=((((ag w5 w.heap.size 0 (yi 1)).trans (ag _ w.heap.size 1 (.bool false))).trans (ag _ w.heap.size 2 (.bool false))).trans (ag _ w.heap.size 3 yN)).trans (ag _ w.heap.size 4 (yi 0));have U:au (((((w5.setCell ⟨w.heap.size,0,none⟩ (yi 1)).setCell ⟨w.heap.size,1,none⟩ (.bool false)).setCell ⟨w.heap.size,2,none⟩ (.bool false)).setCell ⟨w.heap.size,3,none⟩ yN).setCell ⟨w.heap.size,4,none⟩ (yi 0)).drew w.heap.size 30 (yoL 1 false false yN 0):=((((((A.q.set 0 (yi 1)).set 1 (.bool false)).set 2 (.bool false)).set 3 yN).set 4 (yi 0))).drew;have I:=(Q.below A.b (Nat.le_refl _)).drew;have J:=run_loadVar_mid (P:=Tryz.prog) _ w.heap.size 0 30 (yoL 1 false false yN 0) _ U.range underlying30 rfl (by kernel_rfl);have HH:Hid (_∧_∧_):=⟨J,M,I⟩;obtain⟨q0,q1,q2,q3,q4⟩:=F.q.cs5;have j0:=F.q.f 0;have j1:=F.q.f 1;have j2:=F.q.f 2;have j3:=F.q.f 3;have j4:=F.q.f 4;obtain⟨cn,co,cp,cr,cs⟩:=A.q.cs5;have ce:=A.q.f 0;have cg:=A.q.f 1;have ch:=A.q.f 2;have cj:=A.q.f 3;have ck:=A.q.f 4;have cm:=F.n.c 0 rfl;clear J M I U Q F A
       go_wp2_with fail
       go_region_held3 (fun wq=>wq.cell? ⟨bn,0,none⟩=some (.bool false)) (go_keep) (first|fail)
       all_goals go_wp2
       all_goals (obtain⟨J,M,I⟩:=HH.out;exact bodyPost_ret (aj results6 rfl rfl J) rfl ⟨_,rfl,M,I,lO _⟩)
      ·simp only[if_true] at a1
       subst a1;have F:=A.l (Below.refl _ _).drew;have M:=aN (((((w5.setCell ⟨w.heap.size,0,none⟩ (yi 5)).setCell ⟨w.heap.size,1,none⟩ (.bool false)).setCell ⟨w.heap.size,2,none⟩ (.bool false)).setCell ⟨w.heap.size,3,none⟩ yN).setCell ⟨w.heap.size,4,none⟩ (yi 0)).drew .i64;have Q:=((((ag w5 w.heap.size 0 (yi 5)).trans (ag _ w.heap.size 1 (.bool false))).trans (ag _ w.heap.size 2 (.bool false))).trans (ag _ w.heap.size 3 yN)).trans (ag _ w.heap.size 4 (yi 0));have U:au (((((w5.setCell ⟨w.heap.size,0,none⟩ (yi 5)).setCell ⟨w.heap.size,1,none⟩ (.bool false)).setCell ⟨w.heap.size,2,none⟩ (.bool false)).setCell ⟨w.heap.size,3,none⟩ yN).setCell ⟨w.heap.size,4,none⟩ (yi 0)).drew w.heap.size 30 (yoL 5 false false yN 0):=((((((A.q.set 0 (yi 5)).set 1 (.bool false)).set 2 (.bool false)).set 3 yN).set 4 (yi 0))).drew;have I:=(Q.below A.b (Nat.le_refl _)).drew;have J:=run_loadVar_mid (P:=Tryz.prog) _ w.heap.size 0 30 (yoL 5 false false yN 0) _ U.range underlying30 rfl (by kernel_rfl);have HH:Hid (_∧_∧_):=⟨J,M,I⟩;obtain⟨q0,q1,q2,q3,q4⟩:=F.q.cs5;have j0:=F.q.f 0;have j1:=F.q.f 1;have j2:=F.q.f 2;have j3:=F.q.f 3;have j4:=F.q.f 4;obtain⟨cn,co,cp,cr,cs⟩:=A.q.cs5;have ce:=A.q.f 0;have cg:=A.q.f 1;have ch:=A.q.f 2;have cj:=A.q.f 3;have ck:=A.q.f 4;have cm:=F.n.c 0 rfl;clear J M I U Q F A
       go_wp2_with fail
       go_region_held3 (fun wq=>wq.cell? ⟨bn,0,none⟩=some (.bool true)) (go_keep) (first|fail)
       all_goals go_wp2
       all_goals (obtain⟨J,M,I⟩:=HH.out;exact bodyPost_ret (aj results6 rfl rfl J) rfl ⟨_,rfl,M,I,lO _⟩)
     ·rw[if_neg b7] at a1 an a9
      subst a1 an;have e0:((x:Int)==0)=false:=by simp;omega
      have d2:IntKind.i64.wrap (L+(x:Int)-1)=L+(x:Int)-1:=IntWalk.i64_in _ ⟨by omega,by omega⟩;have F:=A.l (Below.refl _ _).drew;have ct:=bs.l (Below.refl _ _).drew;have b8:=r5.l (Below.refl _ _).drew;have dn:(Dg.dg 65536 C).length≤4:=Dg.dg_len_le 65536 C 4 (by omega) (by omega);have dp:(Dg.dg 65536 Y).length≤4:=Dg.dg_len_le 65536 Y 4 (by omega) (by omega);have bw:Hid (∀o,Rd o .i64 (yS ao C ca) (Dg.dg 65536 C)→Rd o .i64 (yS lo Y lc) (Dg.dg 65536 Y)→yC 22 #[yS ao C ca,yS lo Y lc] o (cG o (C+Y))):=fun o O W=>by
       have:=ew _ _ _ _ o O W (Dg.small_dg 65536 C (by omega)) (Dg.small_dg 65536 Y (by omega)) (Dg.norm_dg 65536 C (by omega)) (Dg.norm_dg 65536 Y (by omega)) (by omega) (by omega);rw[Dg.vl_dg 65536 C (by omega),Dg.vl_dg 65536 Y (by omega)] at this;exact this
      have ap:Hid (∀v o,Rd o .i64 v (Dg.dg 65536 (C+Y))→zQ w bn T ng (yhL sz d u R D L G gr 3) o→yC 19 #[v,yi (L+(x:Int)-1),.pointer (some ⟨bn,0,none⟩),.pointer (some ⟨T,0,none⟩)] o (Hf o 2 ng r)):=fun v o O W=>by
       have:=a6.out (C+Y) (L+(x:Int)-1) v o O (by omega) W (by omega) (by omega);rw[if_neg (by omega),a9] at this;exact this
      clear a6 a8 a5 a9
      go_wp2_with fail
      go_region_held3 (fun wq=>wq.cell? ⟨bn,0,none⟩=some (.bool ng)) (go_keep) (first
       | (go_at_call 22;refine(bw.out _ ct b8).mono ?_;rintro z wp ⟨vp,rfl,rp,bp⟩;obtain⟨po,pc,cc⟩:=rp.shape;subst cc;have Fp:=F.l bp;have np:=Fp.n.c 0 rfl)
       | (go_at_call 19;refine(ap.out _ _ rp Fp).mono ?_;rintro z w6 ⟨s6,rfl,r6,b6,f6⟩;obtain⟨so,Z,b3⟩:=r6.shape;subst b3;have H:=Fp.l b6;replace f6:Hid (Far w.heap.size _):=(fun a n c h=>Nat.le_trans Fp.b.size (f6 a n c h):Far w.heap.size _);have n6:=H.n.c 0 rfl;obtain⟨q0,q1,q2,q3,q4⟩:=H.q.cs5;have j0:=H.q.f 0;have j1:=H.q.f 1;have j2:=H.q.f 2;have j3:=H.q.f 3;have j4:=H.q.f 4))
      have Q:=((((ag w6 w.heap.size 0 (yi 2)).trans (ag _ w.heap.size 1 (.bool ng))).trans (ag _ w.heap.size 2 (.bool r.s))).trans (ag _ w.heap.size 3 (yS so r.n Z))).trans (ag _ w.heap.size 4 (yi r.e));have U:au (((((w6.setCell ⟨w.heap.size,0,none⟩ (yi 2)).setCell ⟨w.heap.size,1,none⟩ (.bool ng)).setCell ⟨w.heap.size,2,none⟩ (.bool r.s)).setCell ⟨w.heap.size,3,none⟩ (yS so r.n Z)).setCell ⟨w.heap.size,4,none⟩ (yi r.e)) w.heap.size 30 (yoL 2 ng r.s (yS so r.n Z) r.e):=(((((H.q.set 0 (yi 2)).set 1 (.bool ng)).set 2 (.bool r.s)).set 3 (yS so r.n Z)).set 4 (yi r.e));have I:=Q.below H.b (Nat.le_refl _);have ov:=cq r6 (Dg.norm_dg _ _ (by omega)) H.q (fun x X n hn=>by simp at X;rcases X with rfl|rfl|rfl|rfl|rfl<;>simp;all_goals omega)
      have M:=Q.rd r6 ov;have J:=run_loadVar_mid (P:=Tryz.prog) _ w.heap.size 0 30 (yoL 2 ng r.s (yS so r.n Z) r.e) _ U.range underlying30 rfl (by kernel_rfl);have HH:Hid (_∧_∧_):=⟨J,M,I⟩;clear J M I U Q
      go_wp2
      obtain⟨J,M,I⟩:=HH.out;exact bodyPost_ret (aj results6 rfl rfl J) rfl ⟨_,rfl,M,I,f6.out⟩
theorem decodeOf_one_mg:
  (∀(n:Int) (sz o N I:Nat) (R D L G wd:Int) (gr:Bool) (s:ByteArray) (O:List Nat) (ng:Bool) (E d:Nat) (w:World)
  (_:ng=decide (fU O 0=1)) (_:E=eH O 1 o) (_:d=eH O (1+o) N) (_:1+o+N=8*sz) (_:o≤15) (_:7≤o) (_:sz≤10) (_:N≤64) (_:1≤N) (_:D=(I:Int)+1) (_:I≤63) (_: -20000≤L) (_:L≤0) (_:1≤wd) (_:wd≤4)
  (_:yJ 15 #[yi n] (.tuple #[yhV sz o N R D L G gr 1,.bool true]))
  (_: ∀u,yC 16 #[yi n,.string s] u fun z w'=> ∃v,z= .returned v∧jp w' u.heap.size v (qV O (8*sz))∧yB u w')
  (_:yJ 21 #[ygV R D L G gr] (yi wd)) (_:n≠3),
  yC 6 #[yi n,.string s] w (JV w (if E+1=2^o then(if d=0 then 3 else 4) else if d+(if 0<E then 2^I else 0)=0 then 1 else 2) (if E+1=2^o then(if d=0 then ng else false) else ng) (if E+1=2^o then⟨false,0,0⟩ else bare ⟨ng,d+(if 0<E then 2^I else 0),wd*(L+(((E-1:Nat):Nat):Int))⟩) ng))∧
  (∀(sz o N I:Nat) (R D L G wd:Int) (gr:Bool) (s:ByteArray) (O:List Nat) (ng:Bool) (E d:Nat) (w:World)
  (_:ng=decide (fU O 0=1)) (_:E=eH O 1 o) (_:d=eH O (1+o) N) (_:1+o+N=8*sz) (_:o≤15) (_:7≤o) (_:sz≤10) (_:N≤64) (_:1≤N) (_:D=(I:Int)+1) (_:I≤63) (_: -20000≤L) (_:L≤0) (_:1≤wd) (_:wd≤4)
  (_:yJ 15 #[yi 3] (.tuple #[yhV sz o N R D L G gr 1,.bool true]))
  (_: ∀u,yC 16 #[yi 3,.string s] u fun z w'=> ∃v,z= .returned v∧jp w' u.heap.size v (qV O (8*sz))∧yB u w')
  (_:yJ 21 #[ygV R D L G gr] (yi wd)),
  yC 6 #[yi 3,.string s] w (JV w (if E+1=2^o then(if d=2^I then 3 else 4) else if 0<E∧d<2^I then 4 else if d=0 then 1 else 2) (if E+1=2^o then(if d=2^I then ng else false) else if 0<E∧d<2^I then false else ng) (if E+1=2^o∨0<E∧d<2^I then⟨false,0,0⟩ else bare ⟨ng,d,wd*(L+(((E-1:Nat):Nat):Int))⟩) ng)):=by
 refine⟨?_, ?_⟩;have _z:Mgk 0:=mgkI 0
 all_goals
  first| (rename Mgk 0=>_z;intro n sz o N I R D L G wd gr s O ng E d w a8 hE a7 ad c5 ct cz bq cv hD c6 cj ck cb cc HF HB bl c7)| (intro sz o N I R D L G wd gr s O ng E d w a8 hE a7 ad c5 ct cz bq cv hD c6 cj ck cb cc HF HB bl)
  first| (rename Mgk 0=>_z;(have e4:(n==3)=false:=by simpa using c7);clear c7)|skip
  have ch:Hid _:=HF;have cg:Hid _:=HB;have ab:Hid _:=bl;have d9:E<32768:=by
   have h1:=gh O 1 o;have h2:(2:Nat)^o≤2^15:=Nat.pow_le_pow_right (by omega) c5;omega
  have db:d<18446744073709551616:=by
   have h1:=gh O (1+o) N;have h2:(2:Nat)^N≤2^64:=Nat.pow_le_pow_right (by omega) bq;omega
  have HM:Hid (_∧_∧_∧_):=⟨a8,hE,a7,ad⟩;have b0:=af w (.cells (yoA 0 false false yN 0) 30);have q0:=ah w (yoL 0 false false yN 0) 30;have d7:IntKind.i64.wrap (D-1)=(I:Int):=by rw[hD,show I+1-1=(I:Int) from by omega];exact IntWalk.i64_in _ ⟨by omega,by omega⟩
  clear HF HB bl a8 hE a7 ad hD
  first| (rename Mgk 0=>_z;obtain⟨X,ay⟩: ∃x:Int,(if E+1=2^o then(if d=0 then 3 else 4) else if d+(if 0<E then 2^I else 0)=0 then 1 else 2)=x:=⟨_,rfl⟩)| (obtain⟨X,ay⟩: ∃x:Int,(if E+1=2^o then(if d=2^I then 3 else 4) else if 0<E∧d<2^I then 4 else if d=0 then 1 else 2)=x:=⟨_,rfl⟩)
  first| (rename Mgk 0=>_z;obtain⟨gg,az⟩: ∃x:Bool,(if E+1=2^o then(if d=0 then ng else false) else ng)=x:=⟨_,rfl⟩)| (obtain⟨gg,az⟩: ∃x:Bool,(if E+1=2^o then(if d=2^I then ng else false) else if 0<E∧d<2^I then false else ng)=x:=⟨_,rfl⟩)
  first| (rename Mgk 0=>_z;obtain⟨r,b3⟩: ∃t:ak,(if E+1=2^o then⟨false,0,0⟩ else bare ⟨ng,d+(if 0<E then 2^I else 0),wd*(L+(((E-1:Nat):Nat):Int))⟩)=t:=⟨_,rfl⟩)| (obtain⟨r,b3⟩: ∃t:ak,(if E+1=2^o∨0<E∧d<2^I then⟨false,0,0⟩ else bare ⟨ng,d,wd*(L+(((E-1:Nat):Nat):Int))⟩)=t:=⟨_,rfl⟩)
  rw[ay,az,b3];have a5:Hid (_∧_∧_):=⟨ay,az,b3⟩;clear ay az b3
  go_enter func6,ntmps6
  go_wp2_with fail
  refine(ch.out _).mono ?_;rintro z u ⟨rfl,b1⟩;have ba:=af u (.cells (yhA sz o N R D L G gr 1) 56);have f1:=ah u (yhL sz o N R D L G gr 1) 56;have q1:=(q0.l b1).l ba;have bw:=aa (aa b0 b1) ba;obtain⟨bf,bm⟩: ∃x,u.heap.size=x:=⟨_,rfl⟩;have dl:w.heap.size<bf:=by rw[←bm];exact(q0.l b1).lt
  rw[bm] at f1;clear b0 q0 b1 ba
  go_wp2_with fail
  refine(cg.out _).mono ?_;rintro z w2 ⟨v2,rfl,ce,b2⟩;obtain⟨a8,hE,a7,ad⟩:=HM.out;have c2:=kS O (8*sz);obtain⟨g,cap,c8,c3,co,c4⟩:=x9 ce (by omega);rw[c2] at c8 c3;subst c8;have bo: ∀i,i<8*sz→w2.cell? ⟨g,i,none⟩=some (.bool (decide (fU O i=1))):=fun i hi=>c4 i _ (wW O _ i hi)
  have c0:=bo 0 (by omega);rw[←a8] at c0;have bb:=af w2 (.cells #[.bool ng] 4);have F2:zQ w w2.heap.size bf ng (yhL sz o N R D L G gr 1) (w2.alloc (.cells #[.bool ng] 4)):=⟨(q1.l b2).l bb,(f1.l b2).l bb,ah w2 _ _,aa (aa bw b2) bb⟩;have aw:Hid (∀i,i<8*sz→(w2.alloc (.cells #[.bool ng] 4)).cell? ⟨g,i,none⟩=some (.bool (decide (fU O i=1)))):=fun i hi=>cell_later bb (bo i hi)
  have d0:(8*sz:Nat)=(8*sz:Nat):=rfl;have y1:=F2.f.c 1 rfl;clear c4 bo ce b2 q1 f1 bw bb a8 hE a7 c2 d0;obtain⟨nb,cw⟩: ∃x,8*sz=x:=⟨_,rfl⟩;rw[cw] at c3 aw⊢;have e5:8≤nb:=by omega
  have e6:1+o+N=nb:=by omega
  unfold maxLen at co
  go_wp2
  go_loop [10,11,12] (fun ev ov iv=> ∃(j i x:Nat) (on:Bool),Hid (i=j+1∧x=eH O 1 j∧on=decide (x+1=2^j))∧i≤o+1∧x<32768∧ev=yi x∧ov= .bool on∧iv=yi i) (fun _ _ iv=>((o:Int)+1-intOf iv).toNat)
  case atStart=>exact⟨0,1,0,true,⟨rfl,rfl,rfl⟩,by omega,by omega,rfl,rfl,rfl⟩
  case round=>
   obtain⟨j,i,x,on,HX,hi,e8,rfl,rfl,rfl⟩:=hrel
   by_cases e3:i≤o
   ·obtain⟨ap,hx,a3⟩:=HX.out
    have ci:=aw.out i (by omega);obtain⟨b,eb⟩: ∃b,decide (fU O i=1)=b:=⟨_,rfl⟩;rw[eb] at ci;have cn:=xW O i;have ae:eH O 1 (j+1)=2*x+(if b then 1 else 0):=by
     rw[eH,←hx,show 1+j=i from by omega,←eb]
     by_cases h:fU O i=1
     ·rw[h];rfl
     ·rw[show fU O i=0 from by omega];rfl
    have ar:=za (b:=b) a3;have bt:=gh O 1 (j+1);have e0:(2:Nat)^ (j+1)≤2^15:=Nat.pow_le_pow_right (by omega) (by omega);have HS:Hid (_∧_∧_∧_):=⟨ap,ae,ar,bt⟩;have dy:i<nb:=by omega
    have hiI:(i:Int)≤(o:Int):=by omega
    clear ap hx a3 eb cn ae ar bt HX
    cases b<;>cases on
    all_goals go_wp2
    all_goals (obtain⟨ap,ae,ar,bt⟩:=HS.out;simp only[Bool.false_eq_true,if_false,if_true] at ae ar;refine⟨⟨j+1,i+1,eH O 1 (j+1),_,⟨by omega,rfl,by rw[ae];exact ar⟩,by omega,by omega,by rw[ae];first|rfl| (congr 1;done)| (congr 1;omega),rfl,by first|rfl| (congr 1;done)| (congr 1;omega)⟩,by simp only[intOf];omega⟩)
   ·obtain⟨ap,hx,a3⟩:=HX.out
    have bs:j=o:=by omega
    obtain⟨a8,hE,a7,ad⟩:=HM.out;have d4:x=E:=by rw[hx,hE,bs]
    subst d4;have ax:Hid (on=decide (x+1=2^o)):=by rw[←bs];exact a3
    have cr: ¬((i:Int)≤(o:Int)):=by omega
    have hv:=fun u (h: ∀k,k<N→u.cell? ⟨g,1+o+k,none⟩=some (.bool (decide (fU O (1+o+k)=1))))=>pV g (1+o) N (cap-(1+o)) (fun k=>decide (fU O (1+o+k)=1)) u bq h
    rw[uz,←a7] at hv;have c9:=hv _ (fun k hk=>aw.out (1+o+k) (by omega))
    have HV:Hid (yC 17 #[.slice (some ⟨g,1+o,none⟩) N (cap-(1+o))] (w2.alloc (.cells #[.bool ng] 4)) (cG (w2.alloc (.cells #[.bool ng] 4)) d)):=c9;have HP:Hid (∀u,yC 18 #[yi I] u (cG u (2^I))):=fun u=>pf I (I/16) (I % 16) u (by omega) (Nat.mod_lt _ (by omega)) (by omega)
    clear hv c9 ap hx a3 bs a8 hE a7 ad HX aw cr;have dv:IntKind.i64.wrap (1+(o:Int))=((1+o:Nat):Int):=by rw[show(1:Int)+(o:Int)=((1+o:Nat):Int) from by omega];exact IntWalk.i64_in _ ⟨by omega,by omega⟩
    have dt:(o:Int)< (i:Int):=by omega
    have e7:nb-(1+o)=N:=by omega
    have dp: ¬(1+o=cap):=by omega
    have dq: ¬(cap=1+o):=by omega
    have ds:1+o<cap:=by omega
    go_wp2_with fail
    refine Calls.mono HV.out ?_;rintro z w4 ⟨v4,rfl,r4,b4⟩;obtain⟨ao,ca,d1⟩:=r4.shape;subst d1;have F4:=F2.l b4;clear F2 HV b4 y1 c0;obtain⟨y0,y1,y2,y3,y4,y5,y6,y7,y8⟩:=F4.f.cs9
    go_wp2_with fail
    refine(HP.out _).mono ?_;rintro z W ⟨v5,rfl,r5,b5⟩;obtain⟨lo,lc,d2⟩:=r5.shape;subst d2;have B:=F4.l b5;have a1:=r4.l b5;clear y0 y1 y2 y3 y4 y5 y6 y7 y8 F4 r4 b5 HP;obtain⟨bn,bx⟩: ∃x,w2.heap.size=x:=⟨_,rfl⟩;rw[bx] at B⊢;have dn:w.heap.size≠bn:=fun h=>by
     have h1:=B.q;rw[h] at h1;exact B.n.ne h1 (.inl (by simp)) rfl
    clear bx bm;have a6:Hid (∀(m:Nat) (p:Int) (v:Value) u,Rd u .i64 v (Dg.dg 65536 m)→m<340282366920938463463374607431768211456→zQ w bn bf ng (yhL sz o N R D L G gr 1) u→ -100000≤p→p≤100000→yC 19 #[v,yi p,.pointer (some ⟨bn,0,none⟩),.pointer (some ⟨bf,0,none⟩)] u (Hf u (if m=0 then 1 else 2) ng (bare ⟨ng,m,wd*p⟩))):=fun m p v u h1 h2 h3 h4 h5=>sL sz o N _ _ _ _ _ wd gr ng bn bf m p v u h1 h2 (h3.n.c 0 rfl) h3.f cb cc h4 h5 ab.out
    have dd:IntKind.i64.wrap (L+(x:Int))=L+(x:Int):=IntWalk.i64_in _ ⟨by omega,by omega⟩;have n5:=B.n.c 0 rfl;obtain⟨y0,y1,y2,y3,y4,y5,y6,y7,y8⟩:=B.f.cs9;have cx:2^I≤2^63:=Nat.pow_le_pow_right (by omega) c6;have cy:0<2^I:=Nat.pow_pos (by omega);have cs:2≤2^o:=by
     have:2^1≤2^o:=Nat.pow_le_pow_right (by omega) (by omega);omega
    obtain⟨J,bz⟩: ∃y,2^I=y:=⟨_,rfl⟩;obtain⟨px,c1⟩: ∃y,2^o=y:=⟨_,rfl⟩;rw[bz] at r5 cx cy a5⊢;rw[c1] at a5 ax cs;clear bz c1;obtain⟨U,a0,Z⟩:=a5.out;have a3:=ax.out;have e1:(Dg.dg 65536 d).length≤4:=Dg.dg_len_le 65536 d 4 (by omega) (by omega);have e2:(Dg.dg 65536 J).length≤4:=Dg.dg_len_le 65536 J 4 (by omega) (by omega);obtain⟨xm,ac⟩: ∃y,x-1=y:=⟨_,rfl⟩;rw[ac] at Z;have e9:max (0:Int) ((x:Int)-1)=(xm:Int):=by omega
    have ea:IntKind.i64.wrap ((x:Int)-1)=(x:Int)-1:=IntWalk.i64_in _ ⟨by omega,by omega⟩;have dc:IntKind.i64.wrap (L+(xm:Int))=L+(xm:Int):=IntWalk.i64_in _ ⟨by omega,by omega⟩
    by_cases hO:x+1=px
    ·rw[decide_eq_true hO] at a3
     subst a3
     first| (rename Mgk 0=>_z;rw[if_pos hO] at U a0 Z)| (rw[if_pos hO] at U a0;rw[if_pos (.inl hO)] at Z)
     subst Z;clear a6 ab a5 ax ac
     first| (rename Mgk 0=>_z;by_cases a9:d=0)| (by_cases a9:d=J)
     ·rw[if_pos a9] at U a0
      first
      |
       rename Mgk 0=>_z
       subst U a0 a9;have M:=B.l (Below.refl _ _).drew;have F:=aN (((((W.setCell ⟨w.heap.size,0,none⟩ (yi 3)).setCell ⟨w.heap.size,1,none⟩ (.bool ng)).setCell ⟨w.heap.size,2,none⟩ (.bool false)).setCell ⟨w.heap.size,3,none⟩ yN).setCell ⟨w.heap.size,4,none⟩ (yi 0)).drew .i64;have S:=((((ag W w.heap.size 0 (yi 3)).trans (ag _ w.heap.size 1 (.bool ng))).trans (ag _ w.heap.size 2 (.bool false))).trans (ag _ w.heap.size 3 yN)).trans (ag _ w.heap.size 4 (yi 0));have T:au (((((W.setCell ⟨w.heap.size,0,none⟩ (yi 3)).setCell ⟨w.heap.size,1,none⟩ (.bool ng)).setCell ⟨w.heap.size,2,none⟩ (.bool false)).setCell ⟨w.heap.size,3,none⟩ yN).setCell ⟨w.heap.size,4,none⟩ (yi 0)).drew w.heap.size 30 (yoL 3 ng false yN 0):=((((((B.q.set 0 (yi 3)).set 1 (.bool ng)).set 2 (.bool false)).set 3 yN).set 4 (yi 0))).drew;have C:=(S.below B.b (Nat.le_refl _)).drew
      |
       subst U a0;have a4:dm d (J:Int)=0:=by unfold dm;rw[if_neg (by omega),if_neg (by omega)]
       clear a9;have a2:Hid (yC 23 #[yS ao d ca,yS lo J lc] W (yR W (yi (0)))):=by
        have:=fm _ _ _ _ W a1 r5 (Dg.small_dg 65536 d (by omega)) (Dg.small_dg 65536 J (by omega)) (Dg.norm_dg 65536 d (by omega)) (Dg.norm_dg 65536 J (by omega));rw[Dg.vl_dg 65536 d (by omega),Dg.vl_dg 65536 J (by omega),a4] at this;exact this
       go_wp2_with fail
       refine Calls.mono a2.out ?_;rintro z wp ⟨rfl,Y⟩;have A:=B.l Y;have np:=A.n.c 0 rfl;have rp:=a1.l Y;clear n5 y0 y1 y2 y3 y4 y5 y6 y7 y8 B Y a2 a1 r5;have Q:=A.l (Below.refl _ _).drew;have F:=aN (((((wp.setCell ⟨w.heap.size,0,none⟩ (yi 3)).setCell ⟨w.heap.size,1,none⟩ (.bool ng)).setCell ⟨w.heap.size,2,none⟩ (.bool false)).setCell ⟨w.heap.size,3,none⟩ yN).setCell ⟨w.heap.size,4,none⟩ (yi 0)).drew .i64;have S:=((((ag wp w.heap.size 0 (yi 3)).trans (ag _ w.heap.size 1 (.bool ng))).trans (ag _ w.heap.size 2 (.bool false))).trans (ag _ w.heap.size 3 yN)).trans (ag _ w.heap.size 4 (yi 0));have T:au (((((wp.setCell ⟨w.heap.size,0,none⟩ (yi 3)).setCell ⟨w.heap.size,1,none⟩ (.bool ng)).setCell ⟨w.heap.size,2,none⟩ (.bool false)).setCell ⟨w.heap.size,3,none⟩ yN).setCell ⟨w.heap.size,4,none⟩ (yi 0)).drew w.heap.size 30 (yoL 3 ng false yN 0):=((((((A.q.set 0 (yi 3)).set 1 (.bool ng)).set 2 (.bool false)).set 3 yN).set 4 (yi 0))).drew;have C:=(S.below A.b (Nat.le_refl _)).drew
      have K:=run_loadVar_mid (P:=Tryz.prog) _ w.heap.size 0 30 (yoL 3 ng false yN 0) _ T.range underlying30 rfl (by kernel_rfl);have HH:Hid (_∧_∧_):=⟨K,F,C⟩
      first| (rename Mgk 0=>_z;obtain⟨q0,q1,q2,q3,q4⟩:=M.q.cs5;have j0:=M.q.f 0;have j1:=M.q.f 1;have j2:=M.q.f 2;have j3:=M.q.f 3;have j4:=M.q.f 4)| (obtain⟨q0,q1,q2,q3,q4⟩:=Q.q.cs5;have j0:=Q.q.f 0;have j1:=Q.q.f 1;have j2:=Q.q.f 2;have j3:=Q.q.f 3;have j4:=Q.q.f 4)
      first| (rename Mgk 0=>_z;obtain⟨be,bg,bh,bi,bj⟩:=B.q.cs5;have b7:=B.q.f 0;have b8:=B.q.f 1;have b9:=B.q.f 2;have bc:=B.q.f 3;have bd:=B.q.f 4)| (obtain⟨be,bg,bh,bi,bj⟩:=A.q.cs5;have b7:=A.q.f 0;have b8:=A.q.f 1;have b9:=A.q.f 2;have bc:=A.q.f 3;have bd:=A.q.f 4)
      first| (rename Mgk 0=>_z;have d6:=M.n.c 0 rfl)| (have cd:=Q.n.c 0 rfl)
      first| (rename Mgk 0=>_z;clear K F C T S M B)| (clear K F C T S Q A)
      go_wp2_with fail
      go_region_held3 (fun wq=>wq.cell? ⟨bn,0,none⟩=some (.bool ng)) (go_keep) (first|fail)
      all_goals go_wp2
      all_goals (obtain⟨K,F,C⟩:=HH.out;exact bodyPost_ret (aj results6 rfl rfl K) rfl ⟨_,rfl,F,C,lO _⟩)
     ·rw[if_neg a9] at U a0
      subst U a0
      first
      |
       rename Mgk 0=>_z
       have da:(((Dg.dg 65536 d).length:Int)==0)=false:=by simp[Dg.dg_nil_iff 65536 d (by omega)];exact a9
       have M:=B.l (Below.refl _ _).drew;have F:=aN (((((W.setCell ⟨w.heap.size,0,none⟩ (yi 4)).setCell ⟨w.heap.size,1,none⟩ (.bool false)).setCell ⟨w.heap.size,2,none⟩ (.bool false)).setCell ⟨w.heap.size,3,none⟩ yN).setCell ⟨w.heap.size,4,none⟩ (yi 0)).drew .i64;have S:=((((ag W w.heap.size 0 (yi 4)).trans (ag _ w.heap.size 1 (.bool false))).trans (ag _ w.heap.size 2 (.bool false))).trans (ag _ w.heap.size 3 yN)).trans (ag _ w.heap.size 4 (yi 0));have T:au (((((W.setCell ⟨w.heap.size,0,none⟩ (yi 4)).setCell ⟨w.heap.size,1,none⟩ (.bool false)).setCell ⟨w.heap.size,2,none⟩ (.bool false)).setCell ⟨w.heap.size,3,none⟩ yN).setCell ⟨w.heap.size,4,none⟩ (yi 0)).drew w.heap.size 30 (yoL 4 false false yN 0):=((((((B.q.set 0 (yi 4)).set 1 (.bool false)).set 2 (.bool false)).set 3 yN).set 4 (yi 0))).drew;have C:=(S.below B.b (Nat.le_refl _)).drew
      |
       obtain⟨cm,a4⟩: ∃y,dm d (J:Int)=y:=⟨_,rfl⟩;have cp:(cm==0)=false:=by
        rw[←a4];unfold dm
        by_cases h:(d:Int)< (J:Int)
        ·rw[if_pos h];rfl
        ·rw[if_neg h,if_pos (by omega)];rfl
       clear a9;have a2:Hid (yC 23 #[yS ao d ca,yS lo J lc] W (yR W (yi (cm)))):=by
        have:=fm _ _ _ _ W a1 r5 (Dg.small_dg 65536 d (by omega)) (Dg.small_dg 65536 J (by omega)) (Dg.norm_dg 65536 d (by omega)) (Dg.norm_dg 65536 J (by omega));rw[Dg.vl_dg 65536 d (by omega),Dg.vl_dg 65536 J (by omega),a4] at this;exact this
       go_wp2_with fail
       refine Calls.mono a2.out ?_;rintro z wp ⟨rfl,Y⟩;have A:=B.l Y;have np:=A.n.c 0 rfl;have rp:=a1.l Y;clear n5 y0 y1 y2 y3 y4 y5 y6 y7 y8 B Y a2 a1 r5;have Q:=A.l (Below.refl _ _).drew;have F:=aN (((((wp.setCell ⟨w.heap.size,0,none⟩ (yi 4)).setCell ⟨w.heap.size,1,none⟩ (.bool false)).setCell ⟨w.heap.size,2,none⟩ (.bool false)).setCell ⟨w.heap.size,3,none⟩ yN).setCell ⟨w.heap.size,4,none⟩ (yi 0)).drew .i64;have S:=((((ag wp w.heap.size 0 (yi 4)).trans (ag _ w.heap.size 1 (.bool false))).trans (ag _ w.heap.size 2 (.bool false))).trans (ag _ w.heap.size 3 yN)).trans (ag _ w.heap.size 4 (yi 0));have T:au (((((wp.setCell ⟨w.heap.size,0,none⟩ (yi 4)).setCell ⟨w.heap.size,1,none⟩ (.bool false)).setCell ⟨w.heap.size,2,none⟩ (.bool false)).setCell ⟨w.heap.size,3,none⟩ yN).setCell ⟨w.heap.size,4,none⟩ (yi 0)).drew w.heap.size 30 (yoL 4 false false yN 0):=((((((A.q.set 0 (yi 4)).set 1 (.bool false)).set 2 (.bool false)).set 3 yN).set 4 (yi 0))).drew;have C:=(S.below A.b (Nat.le_refl _)).drew
      have K:=run_loadVar_mid (P:=Tryz.prog) _ w.heap.size 0 30 (yoL 4 false false yN 0) _ T.range underlying30 rfl (by kernel_rfl);have HH:Hid (_∧_∧_):=⟨K,F,C⟩
      first| (rename Mgk 0=>_z;obtain⟨q0,q1,q2,q3,q4⟩:=M.q.cs5;have j0:=M.q.f 0;have j1:=M.q.f 1;have j2:=M.q.f 2;have j3:=M.q.f 3;have j4:=M.q.f 4)| (obtain⟨q0,q1,q2,q3,q4⟩:=Q.q.cs5;have j0:=Q.q.f 0;have j1:=Q.q.f 1;have j2:=Q.q.f 2;have j3:=Q.q.f 3;have j4:=Q.q.f 4)
      first| (rename Mgk 0=>_z;obtain⟨be,bg,bh,bi,bj⟩:=B.q.cs5;have b7:=B.q.f 0;have b8:=B.q.f 1;have b9:=B.q.f 2;have bc:=B.q.f 3;have bd:=B.q.f 4)| (obtain⟨be,bg,bh,bi,bj⟩:=A.q.cs5;have b7:=A.q.f 0;have b8:=A.q.f 1;have b9:=A.q.f 2;have bc:=A.q.f 3;have bd:=A.q.f 4)
      first| (rename Mgk 0=>_z;have d6:=M.n.c 0 rfl)| (have cd:=Q.n.c 0 rfl)
      first| (rename Mgk 0=>_z;clear K F C T S M B)| (clear K F C T S Q A)
      go_wp2_with fail
      go_region_held3 (fun wq=>wq.cell? ⟨bn,0,none⟩=some (.bool ng)) (go_keep) (first|fail)
      all_goals go_wp2
      all_goals (obtain⟨K,F,C⟩:=HH.out;exact bodyPost_ret (aj results6 rfl rfl K) rfl ⟨_,rfl,F,C,lO _⟩)
    ·rw[decide_eq_false hO] at a3
     subst a3
     first| (rename Mgk 0=>_z;rw[if_neg hO] at U a0 Z;subst a0)| (rw[if_neg hO] at U a0)
     by_cases al:0<x
     ·first| (rename Mgk 0=>_z;rw[if_pos al] at U Z)|skip
      have d5:(0:Int)< (x:Int):=by omega
      first
      |
       rename Mgk 0=>_z
       have bv:Hid (yC 22 #[yS ao d ca,yS lo J lc] W (cG W (d+J))):=by
        have:=ew _ _ _ _ W a1 r5 (Dg.small_dg 65536 d (by omega)) (Dg.small_dg 65536 J (by omega)) (Dg.norm_dg 65536 d (by omega)) (Dg.norm_dg 65536 J (by omega)) (by omega) (by omega);rw[Dg.vl_dg 65536 d (by omega),Dg.vl_dg 65536 J (by omega)] at this;exact this
       go_wp2_with fail
       refine Calls.mono bv.out ?_;rintro z wp ⟨vp,rfl,rp,Y⟩;obtain⟨po,pc,d3⟩:=rp.shape;subst d3;have A:=B.l Y;have np:=A.n.c 0 rfl;clear n5 y0 y1 y2 y3 y4 y5 y6 y7 y8 B Y bv a1 r5;have an:Hid (∀v u,Rd u .i64 v (Dg.dg 65536 (d+J))→zQ w bn bf ng (yhL sz o N R D L G gr 1) u→yC 19 #[v,yi (L+(xm:Int)),.pointer (some ⟨bn,0,none⟩),.pointer (some ⟨bf,0,none⟩)] u (Hf u X ng r)):=fun v u h1 h2=>by
        have:=a6.out (d+J) (L+(xm:Int)) v u h1 (by omega) h2 (by omega) (by omega);rw[U,Z] at this;exact this
       have M:=A.l (Below.refl _ _).drew;have av:=rp.l (Below.refl _ _).drew;clear a6 ab a5 U Z ac
       go_wp2_with fail
       go_region_held3 (fun wq=>wq.cell? ⟨bn,0,none⟩=some (.bool ng)) (go_keep) (first
        | (go_at_call 19;refine(an.out _ _ av M).mono ?_;rintro z w6 ⟨s6,rfl,r6,b6,f6⟩;obtain⟨so,sc,aq⟩:=r6.shape;subst aq;have H:=M.l b6;replace f6:Hid (Far w.heap.size _):=(fun a n c h=>Nat.le_trans M.b.size (f6 a n c h):Far w.heap.size _);have n6:=H.n.c 0 rfl;obtain⟨q0,q1,q2,q3,q4⟩:=H.q.cs5;have j0:=H.q.f 0;have j1:=H.q.f 1;have j2:=H.q.f 2;have j3:=H.q.f 3;have j4:=H.q.f 4))
       have S:=((((ag w6 w.heap.size 0 (yi X)).trans (ag _ w.heap.size 1 (.bool ng))).trans (ag _ w.heap.size 2 (.bool r.s))).trans (ag _ w.heap.size 3 (yS so r.n sc))).trans (ag _ w.heap.size 4 (yi r.e));have T:au (((((w6.setCell ⟨w.heap.size,0,none⟩ (yi X)).setCell ⟨w.heap.size,1,none⟩ (.bool ng)).setCell ⟨w.heap.size,2,none⟩ (.bool r.s)).setCell ⟨w.heap.size,3,none⟩ (yS so r.n sc)).setCell ⟨w.heap.size,4,none⟩ (yi r.e)) w.heap.size 30 (yoL X ng r.s (yS so r.n sc) r.e):=(((((H.q.set 0 (yi X)).set 1 (.bool ng)).set 2 (.bool r.s)).set 3 (yS so r.n sc)).set 4 (yi r.e));have C:=S.below H.b (Nat.le_refl _);have ov:=cq r6 (Dg.norm_dg _ _ (by omega)) H.q (fun x hx n hn=>by simp at hx;rcases hx with rfl|rfl|rfl|rfl|rfl<;>simp;all_goals omega)
       have F:=S.rd r6 ov;have K:=run_loadVar_mid (P:=Tryz.prog) _ w.heap.size 0 30 (yoL X ng r.s (yS so r.n sc) r.e) _ T.range underlying30 rfl (by kernel_rfl);have HH:Hid (_∧_∧_):=⟨K,F,C⟩;clear K F C T S
       go_wp2
       obtain⟨K,F,C⟩:=HH.out;exact bodyPost_ret (aj results6 rfl rfl K) rfl ⟨_,rfl,F,C,f6.out⟩
      |
       by_cases hF:d<J
       ·rw[if_pos ⟨al,hF⟩] at U a0
        rw[if_pos (.inr ⟨al,hF⟩)] at Z;subst U a0 Z;have a4:dm d (J:Int)= -1:=by unfold dm;rw[if_pos (by omega)]
        clear a6 ab a5 ax ac hF;have a2:Hid (yC 23 #[yS ao d ca,yS lo J lc] W (yR W (yi (-1)))):=by
         have:=fm _ _ _ _ W a1 r5 (Dg.small_dg 65536 d (by omega)) (Dg.small_dg 65536 J (by omega)) (Dg.norm_dg 65536 d (by omega)) (Dg.norm_dg 65536 J (by omega));rw[Dg.vl_dg 65536 d (by omega),Dg.vl_dg 65536 J (by omega),a4] at this;exact this
        go_wp2_with fail
        refine Calls.mono a2.out ?_;rintro z wp ⟨rfl,Y⟩;have A:=B.l Y;have np:=A.n.c 0 rfl;have rp:=a1.l Y;clear n5 y0 y1 y2 y3 y4 y5 y6 y7 y8 B Y a2 a1 r5;have Q:=A.l (Below.refl _ _).drew;have F:=aN (((((wp.setCell ⟨w.heap.size,0,none⟩ (yi 4)).setCell ⟨w.heap.size,1,none⟩ (.bool false)).setCell ⟨w.heap.size,2,none⟩ (.bool false)).setCell ⟨w.heap.size,3,none⟩ yN).setCell ⟨w.heap.size,4,none⟩ (yi 0)).drew .i64;have S:=((((ag wp w.heap.size 0 (yi 4)).trans (ag _ w.heap.size 1 (.bool false))).trans (ag _ w.heap.size 2 (.bool false))).trans (ag _ w.heap.size 3 yN)).trans (ag _ w.heap.size 4 (yi 0));have T:au (((((wp.setCell ⟨w.heap.size,0,none⟩ (yi 4)).setCell ⟨w.heap.size,1,none⟩ (.bool false)).setCell ⟨w.heap.size,2,none⟩ (.bool false)).setCell ⟨w.heap.size,3,none⟩ yN).setCell ⟨w.heap.size,4,none⟩ (yi 0)).drew w.heap.size 30 (yoL 4 false false yN 0):=((((((A.q.set 0 (yi 4)).set 1 (.bool false)).set 2 (.bool false)).set 3 yN).set 4 (yi 0))).drew;have C:=(S.below A.b (Nat.le_refl _)).drew;have K:=run_loadVar_mid (P:=Tryz.prog) _ w.heap.size 0 30 (yoL 4 false false yN 0) _ T.range underlying30 rfl (by kernel_rfl);have HH:Hid (_∧_∧_):=⟨K,F,C⟩;obtain⟨q0,q1,q2,q3,q4⟩:=Q.q.cs5;have j0:=Q.q.f 0;have j1:=Q.q.f 1;have j2:=Q.q.f 2;have j3:=Q.q.f 3;have j4:=Q.q.f 4;obtain⟨be,bg,bh,bi,bj⟩:=A.q.cs5;have b7:=A.q.f 0;have b8:=A.q.f 1;have b9:=A.q.f 2;have bc:=A.q.f 3;have bd:=A.q.f 4;have cd:=Q.n.c 0 rfl;clear K F C T S Q A
        go_wp2_with fail
        go_region_held3 (fun wq=>wq.cell? ⟨bn,0,none⟩=some (.bool ng)) (go_keep) (first|fail)
        all_goals go_wp2
        all_goals (obtain⟨K,F,C⟩:=HH.out;exact bodyPost_ret (aj results6 rfl rfl K) rfl ⟨_,rfl,F,C,lO _⟩)
       ·rw[if_neg (fun h=>hF h.2)] at U a0
        rw[if_neg (fun h=>h.elim hO (fun h=>hF h.2))] at Z
        subst a0;obtain⟨cm,a4⟩: ∃y,dm d (J:Int)=y:=⟨_,rfl⟩;have cp: ¬(cm<0):=by
         rw[←a4];unfold dm;rw[if_neg (by omega)]
         split<;>omega
        clear hF;have a2:Hid (yC 23 #[yS ao d ca,yS lo J lc] W (yR W (yi (cm)))):=by
         have:=fm _ _ _ _ W a1 r5 (Dg.small_dg 65536 d (by omega)) (Dg.small_dg 65536 J (by omega)) (Dg.norm_dg 65536 d (by omega)) (Dg.norm_dg 65536 J (by omega));rw[Dg.vl_dg 65536 d (by omega),Dg.vl_dg 65536 J (by omega),a4] at this;exact this
        go_wp2_with fail
        refine Calls.mono a2.out ?_;rintro z wp ⟨rfl,Y⟩;have A:=B.l Y;have np:=A.n.c 0 rfl;have rp:=a1.l Y;clear n5 y0 y1 y2 y3 y4 y5 y6 y7 y8 B Y a2 a1 r5;have an:Hid (∀v u,Rd u .i64 v (Dg.dg 65536 (d))→zQ w bn bf ng (yhL sz o N R D L G gr 1) u→yC 19 #[v,yi (L+(xm:Int)),.pointer (some ⟨bn,0,none⟩),.pointer (some ⟨bf,0,none⟩)] u (Hf u X ng r)):=fun v u h1 h2=>by
         have:=a6.out (d) (L+(xm:Int)) v u h1 (by omega) h2 (by omega) (by omega);rw[U,Z] at this;exact this
        have M:=A.l (Below.refl _ _).drew;have av:=rp.l (Below.refl _ _).drew;clear a6 ab a5 U Z ac
        go_wp2_with fail
        go_region_held3 (fun wq=>wq.cell? ⟨bn,0,none⟩=some (.bool ng)) (go_keep) (first
         | (go_at_call 19;refine(an.out _ _ av M).mono ?_;rintro z w6 ⟨s6,rfl,r6,b6,f6⟩;obtain⟨so,sc,aq⟩:=r6.shape;subst aq;have H:=M.l b6;replace f6:Hid (Far w.heap.size _):=(fun a n c h=>Nat.le_trans M.b.size (f6 a n c h):Far w.heap.size _);have n6:=H.n.c 0 rfl;obtain⟨q0,q1,q2,q3,q4⟩:=H.q.cs5;have j0:=H.q.f 0;have j1:=H.q.f 1;have j2:=H.q.f 2;have j3:=H.q.f 3;have j4:=H.q.f 4))
        have S:=((((ag w6 w.heap.size 0 (yi X)).trans (ag _ w.heap.size 1 (.bool ng))).trans (ag _ w.heap.size 2 (.bool r.s))).trans (ag _ w.heap.size 3 (yS so r.n sc))).trans (ag _ w.heap.size 4 (yi r.e));have T:au (((((w6.setCell ⟨w.heap.size,0,none⟩ (yi X)).setCell ⟨w.heap.size,1,none⟩ (.bool ng)).setCell ⟨w.heap.size,2,none⟩ (.bool r.s)).setCell ⟨w.heap.size,3,none⟩ (yS so r.n sc)).setCell ⟨w.heap.size,4,none⟩ (yi r.e)) w.heap.size 30 (yoL X ng r.s (yS so r.n sc) r.e):=(((((H.q.set 0 (yi X)).set 1 (.bool ng)).set 2 (.bool r.s)).set 3 (yS so r.n sc)).set 4 (yi r.e));have C:=S.below H.b (Nat.le_refl _);have ov:=cq r6 (Dg.norm_dg _ _ (by omega)) H.q (fun x hx n hn=>by simp at hx;rcases hx with rfl|rfl|rfl|rfl|rfl<;>simp;all_goals omega)
        have F:=S.rd r6 ov;have K:=run_loadVar_mid (P:=Tryz.prog) _ w.heap.size 0 30 (yoL X ng r.s (yS so r.n sc) r.e) _ T.range underlying30 rfl (by kernel_rfl);have HH:Hid (_∧_∧_):=⟨K,F,C⟩;clear K F C T S
        go_wp2
        obtain⟨K,F,C⟩:=HH.out;exact bodyPost_ret (aj results6 rfl rfl K) rfl ⟨_,rfl,F,C,f6.out⟩
     ·first| (rename Mgk 0=>_z;rw[if_neg al,Nat.add_zero] at U Z)| (rw[if_neg (fun h=>al h.1)] at U a0;rw[if_neg (fun h=>h.elim hO (fun h=>al h.1))] at Z;subst a0)
      have d5: ¬((0:Int)< (x:Int)):=by omega
      have an:Hid (∀v u,Rd u .i64 v (Dg.dg 65536 (d))→zQ w bn bf ng (yhL sz o N R D L G gr 1) u→yC 19 #[v,yi (L+(xm:Int)),.pointer (some ⟨bn,0,none⟩),.pointer (some ⟨bf,0,none⟩)] u (Hf u X ng r)):=fun v u h1 h2=>by
       have:=a6.out (d) (L+(xm:Int)) v u h1 (by omega) h2 (by omega) (by omega);rw[U,Z] at this;exact this
      have M:=B.l (Below.refl _ _).drew;have av:=a1.l (Below.refl _ _).drew;clear a6 ab a5 U Z ac
      go_wp2_with fail
      go_region_held3 (fun wq=>wq.cell? ⟨bn,0,none⟩=some (.bool ng)) (go_keep) (first
       | (go_at_call 19;refine(an.out _ _ av M).mono ?_;rintro z w6 ⟨s6,rfl,r6,b6,f6⟩;obtain⟨so,sc,aq⟩:=r6.shape;subst aq;have H:=M.l b6;replace f6:Hid (Far w.heap.size _):=(fun a n c h=>Nat.le_trans M.b.size (f6 a n c h):Far w.heap.size _);have n6:=H.n.c 0 rfl;obtain⟨q0,q1,q2,q3,q4⟩:=H.q.cs5;have j0:=H.q.f 0;have j1:=H.q.f 1;have j2:=H.q.f 2;have j3:=H.q.f 3;have j4:=H.q.f 4))
      have S:=((((ag w6 w.heap.size 0 (yi X)).trans (ag _ w.heap.size 1 (.bool ng))).trans (ag _ w.heap.size 2 (.bool r.s))).trans (ag _ w.heap.size 3 (yS so r.n sc))).trans (ag _ w.heap.size 4 (yi r.e));have T:au (((((w6.setCell ⟨w.heap.size,0,none⟩ (yi X)).setCell ⟨w.heap.size,1,none⟩ (.bool ng)).setCell ⟨w.heap.size,2,none⟩ (.bool r.s)).setCell ⟨w.heap.size,3,none⟩ (yS so r.n sc)).setCell ⟨w.heap.size,4,none⟩ (yi r.e)) w.heap.size 30 (yoL X ng r.s (yS so r.n sc) r.e):=(((((H.q.set 0 (yi X)).set 1 (.bool ng)).set 2 (.bool r.s)).set 3 (yS so r.n sc)).set 4 (yi r.e));have C:=S.below H.b (Nat.le_refl _);have ov:=cq r6 (Dg.norm_dg _ _ (by omega)) H.q (fun x hx n hn=>by simp at hx;rcases hx with rfl|rfl|rfl|rfl|rfl<;>simp;all_goals omega)
      have F:=S.rd r6 ov;have K:=run_loadVar_mid (P:=Tryz.prog) _ w.heap.size 0 30 (yoL X ng r.s (yS so r.n sc) r.e) _ T.range underlying30 rfl (by kernel_rfl);have HH:Hid (_∧_∧_):=⟨K,F,C⟩;clear K F C T S
      go_wp2
      obtain⟨K,F,C⟩:=HH.out;exact bodyPost_ret (aj results6 rfl rfl K) rfl ⟨_,rfl,F,C,f6.out⟩
end Go.Proofs.YtlhkndcmbpcpgaaGreatDoor
