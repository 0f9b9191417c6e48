/- Texts laid together. -/
import Derived.Test.YtlhkndcmbpcpgaaGreatDoorXs14
import Derived.Test.YtlhkndcmbpcpgaaGreatDoorXs15
import Derived.Test.YtlhkndcmbpcpgaaGreatDoorXs16
set_option maxRecDepth 100000
set_option maxHeartbeats 6400000
namespace Go.Proofs.YtlhkndcmbpcpgaaGreatDoor
open _root_.Go.Proofs.Tryz
open Go.RowKit
theorem eV (K:Nat)(a:ak):V K a=sz a.s (a.n*2^ (a.e+K).toNat):=Y5 _ _ _
theorem fH {K:Nat}{a b:ak}(v: -(K:Int)≤a.e)(w: -(K:Int)≤b.e)(h:V K a=V K b):bare a=bare b:=by
 rw[eV,eV] at h;have s:0<2^ (a.e+K).toNat:=Nat.pow_pos (by omega);have t:0<2^ (b.e+K).toNat:=Nat.pow_pos (by omega);unfold bare
 by_cases c:a.n=0
 ·have:b.n=0:=by
   rw[c,Nat.zero_mul] at h
   by_cases d:b.n=0
   ·exact d
   ·have f:b.n*2^ (b.e+K).toNat≠0:=Nat.ne_of_gt (Nat.mul_pos (by omega) t)
    have:=(QI h.symm f).2;omega
  rw[if_pos c,if_pos this]
 ·have f:a.n*2^ (a.e+K).toNat≠0:=Nat.ne_of_gt (Nat.mul_pos (by omega) s)
  obtain⟨r,g⟩:=QI h f;have d:b.n≠0:=by
   intro e;rw[e,Nat.zero_mul] at g;exact f g
  rw[if_neg c,if_neg d];obtain⟨m,i⟩:=fO c;obtain⟨k,j⟩:=fO d;have l:=lI i;have o:=lI j;have p:2^ (tz a.n+(a.e+K).toNat)*(2*m+1)=2^ (tz b.n+(b.e+K).toNat)*(2*k+1):=by
   rw[Nat.pow_add,Nat.pow_add,Nat.mul_assoc,Nat.mul_comm (2^ (a.e+K).toNat),←Nat.mul_assoc,←i,Nat.mul_assoc,Nat.mul_comm (2^ (b.e+K).toNat),←Nat.mul_assoc,←j];exact g
  obtain⟨u,q⟩:=Dh p;rw[l,o,r,q];have:a.e+(tz a.n:Int)=b.e+(tz b.n:Int):=by omega
  rw[this]
theorem jC (v:Value)(zs:List Nat)(w:World)(h:Rd w .u32 v zs):
  yC 36 #[v] w fun e w'=>e= .returned (yi (chk zs))∧w'=w:=by
 obtain⟨n,cap,rfl,o,m,c⟩:=h;unfold maxLen at m
 by_cases l:zs.length=0
 ·have a:zs=[]:=List.eq_nil_of_length_eq_zero l
  subst a
  go_enter func36,ntmps36
  go_wp2
  go_ret
  exact⟨rfl,rfl⟩
 ·obtain⟨b,p,rfl,f⟩:=c (by omega)
  have i:=f (zs.length-1) (by omega)
  by_cases a:zs.getD (zs.length-1) 0=0
  ·have j:chk zs=1:=Oq (by omega) a
   rw[j];rw[a] at i;clear f c j a
   go_enter func36,ntmps36
   go_wp2
   go_ret
   exact⟨rfl,rfl⟩
  ·obtain⟨d,g⟩: ∃d,zs.getD (zs.length-1) 0=d:=⟨_,rfl⟩
   by_cases k:1200<zs.length
   ·rw[Ot a k]
    rw[g] at i a;clear f c g
    go_enter func36,ntmps36
    go_wp2
    go_ret
    exact⟨rfl,rfl⟩
   ·rw[ZT a k]
    rw[g] at i a;clear f c g
    go_enter func36,ntmps36
    go_wp2
    go_ret
    exact⟨rfl,rfl⟩
theorem BM (qs:Bool)(f:Option Addr)(p m:Nat)(k:Option Addr)(q o:Nat)(N M:Nat)(E n:Int)(w:World)
  (B:Rd w .i64 (.slice f p m) (Dg.dg 65536 N)) (C:Rd w .i64 (.slice k q o) (Dg.dg 65536 M)) (P:(Dg.dg 65536 N).length≤100000) (Q:(Dg.dg 65536 M).length≤100000) (L:0<M) (U: -900000≤E-n) (W:E-n≤900000):
  yC 104 #[yrV qs (.slice f p m) (.slice k q o) E,yi n] w (Rp w (eZ N (E-n)/dX M (E-n)) (eZ N (E-n) % dX M (E-n)) (dX M (E-n))):=by
 have s:=af w (.cells (yrA qs (.slice f p m) (.slice k q o) E) 72);have D:=ah w (yrL qs (.slice f p m) (.slice k q o) E) 72;have y:=GB (n:=E-n) P W;have A:=GC (n:=E-n) Q U;have O:=N8 (E-n) L;have r:Hid (∀v u a,Rd a .i64 v (Dg.dg 65536 (eZ N (E-n)))→Rd a .i64 u (Dg.dg 65536 (dX M (E-n)))→yC 59 #[v,u] a (JI a (eZ N (E-n)/dX M (E-n)) (eZ N (E-n) % dX M (E-n)))):=fun v u a Z e=>
  qM v u _ _ a Z e (by omega) (by omega) O
 have K:Hid (∀a,yB w a→n≤E→yC 93 #[.slice f p m,yi (E-n)] a (cG a (eZ N (E-n)))):=fun a b d=>by
  have:=kD _ _ (E-n).toNat a (B.l b) (Dg.small_dg _ _ (by omega)) (by omega) (by omega);rw[Dg.vl_dg _ _ (by omega),←fw,Int.toNat_of_nonneg (by omega)] at this;exact this
 have J:Hid (∀a,yB w a→ ¬n≤E→yC 93 #[.slice k q o,yi (n-E)] a (cG a (dX M (E-n)))):=fun a b d=>by
  have:=kD _ _ (n-E).toNat a (C.l b) (Dg.small_dg _ _ (by omega)) (by omega) (by omega);rw[Dg.vl_dg _ _ (by omega),Int.toNat_of_nonneg (by omega),show n-E= -(E-n) by omega,←eM] at this
  rw[show n-E= -(E-n) by omega]
  exact this
 have I:Hid (¬n≤E→eZ N (E-n)=N):=fun h=>if_pos (by omega)
 have H:Hid (n≤E→dX M (E-n)=M):=fun h=>if_neg (by omega)
 have S:Hid (Rd _ _ _ _):=B.l s;have T:Hid (Rd _ _ _ _):=C.l s;have W1:IntKind.i64.wrap (E-n)=E-n:=IntWalk.i64_in _ ⟨by omega,by omega⟩;have W2:IntKind.i64.wrap (n-E)=n-E:=IntWalk.i64_in _ ⟨by omega,by omega⟩;obtain⟨X,y⟩: ∃X,eZ N (E-n)=X:=⟨_,rfl⟩;obtain⟨Y,A⟩: ∃Y,dX M (E-n)=Y:=⟨_,rfl⟩;rw[y] at r K I⊢;rw[A] at r J H⊢;clear B C P Q y A O L;have c1:=D.c 1 rfl;have c2:=D.c 2 rfl;have c3:=D.c 3 rfl
 by_cases d:n≤E
 ·obtain rfl:=H.out d
  go_enter func104,ntmps104
  go_wp2_with fail
  go_quiet (fail)
  have j:=aL s nq;have rb:=Rd.l T.out (aL (Below.refl _ _) nq)
  go_wp2_with fail
  refine(K.out _ j d).mono ?_;rintro z w2 ⟨v2,rfl,e,g⟩;have t:=aa j g;have R:=rb.l g
  go_wp2_with fail
  refine(r.out _ _ _ e R).mono ?_;rintro z w3 ⟨v3,v4,rfl,F,G,i⟩;have x:=aa t i
  go_wp2
  go_ret3
  exact⟨_,_,_,rfl,F,G,R.l i,x⟩
 ·have a1:decide (n≤E)=false:=by simp;omega
  obtain rfl:=I.out d
  go_enter func104,ntmps104
  go_wp2_with fail
  go_quiet (fail)
  have j:=aL s nq;have ra:=Rd.l S.out (aL (Below.refl _ _) nq)
  go_wp2_with fail
  refine(J.out _ j d).mono ?_;rintro z w2 ⟨v2,rfl,e,g⟩;have t:=aa j g;have a0:=ra.l g
  go_wp2_with fail
  refine(r.out _ _ _ a0 e).mono ?_;rintro z w3 ⟨v3,v4,rfl,F,G,i⟩;have x:=aa t i
  go_wp2
  go_ret3
  exact⟨_,_,_,rfl,F,G,e.l i,x⟩
theorem Ob (R D L G:Int)(gr:Bool)(qs:Bool)(no:Option Addr)(C W:Nat)(J:Option Addr)(I H:Nat)(E way:Int)(c:Int)(fv:Value)(fn:FuncId)(T z:Bool)(a:fz)(ac:Int)(a0:fz)(w:World)
  (a6:T=true→fv= .func (.func fn) #[] #[]) (a5:T=false→fv= .nilFunc) (hz:((C:Int)==0)=z)
  (HB: ¬c=0→ac=c∧a0=oI) (HK:c=0→T=false→ac=6∧a0=oI) (HZ:c=0→T=true→z=true→ac=0∧a0=⟨false,0,0,true,false,false⟩) (HG:c=0→T=true→z=false→ac=0∧a0=a)
  (HW:yH w 146 #[yrV qs (.slice no C W) (.slice J I H) E,ygV R D L G gr] (yi c))
  (HL: ∀y r,y.heap[r]? =some (.map Yd 5)→(Instr.lookup 219 (.map (some r)) (yi way) false).run Tryz.prog y= .ok fv y)
  (HR:c=0→T=true→z=false→ ∀y,yB w y→yC 148 #[ygV R D L G gr,yrV qs (.slice no C W) (.slice J I H) E,.func (.func fn) #[] #[]] y (Fk y a)):
  yC 109 #[yrV qs (.slice no C W) (.slice J I H) E,ygV R D L G gr,yi way] w (sq w ac a0):=by
 replace HB:Hid _:=HB;replace HK:Hid _:=HK;replace HZ:Hid _:=HZ;replace HG:Hid _:=HG;replace HW:Hid _:=HW;replace HL:Hid _:=HL;replace HR:Hid _:=HR;replace a6:Hid _:=a6;replace a5:Hid _:=a5;have av:Hid _:=Ye;have b1:=aa (aa (af w (.cells (yrA qs (.slice no C W) (.slice J I H) E) 128)) (af _ (.cells (ygA R D L G gr) 54))) (af _ (.cells (ypA false yN 0 false false false) 141));have q1:=((ah w (yrL qs (.slice no C W) (.slice J I H) E) 128).l (af _ (.cells (ygA R D L G gr) 54))).l (af _ (.cells (ypA false yN 0 false false false) 141));have g1:=(ah (w.alloc (.cells (yrA qs (.slice no C W) (.slice J I H) E) 128)) (ygL R D L G gr) 54).l (af _ (.cells (ypA false yN 0 false false false) 141));have c1:=ah ((w.alloc (.cells (yrA qs (.slice no C W) (.slice J I H) E) 128)).alloc (.cells (ygA R D L G gr) 54)) (ypL false yN 0 false false false) 141;simp only[World.size_alloc] at g1 c1;obtain⟨x0,x1,x2,x3⟩:=q1.cs4;obtain⟨y0,y1,y2,y3,y4⟩:=g1.cs5;have en:=fun y=>Oa (P:=Tryz.prog) y underlying218
 have ef:=fun y=>Rq (P:=Tryz.prog) y underlying218 (.func fn) #[] #[]
 go_enter func109,ntmps109
 go_wp2_with fail
 refine(HW.out _ b1).mono ?_;rintro z wa ⟨rfl,a1⟩;have aq:=q1.l a1;have ao:=g1.l a1;have e:=c1.l a1;have an:=aa b1 a1;clear q1 g1 c1 b1 a1;clear x0 x1 x2 x3 y0 y1 y2 y3 y4
 by_cases B:c=0
 ·have a9:Hid _:=HK.out B
  have ae:Hid _:=HZ.out B;have a7:Hid _:=HG.out B;have ab:Hid _:=HR.out B;clear HB HK HZ HG HR;subst B
  go_wp2_with fail
  refine(av.out _).mono ?_;rintro z A ⟨rfl,hm,a2⟩;have F:=aq.l a2;have a4:=ao.l a2;have b:=e.l a2;have Z:=aa an a2;clear aq ao e an a2;have hl:=HL.out A _ hm;clear hm
  cases T
  ·have hf:=a5.out rfl
   have q:Hid _:=a9.out rfl;clear a9 ae a7 ab a5 a6;subst hf;have h:=b.c 0 rfl;have K:=b.f 0;have i:=b.c 1 rfl;have M:=b.f 1;have j:=b.c 2 rfl;have N:=b.f 2;have k:=b.c 3 rfl;have O:=b.f 3;have m:=b.c 4 rfl;have Q:=b.f 4;have n:=b.c 5 rfl;have S:=b.f 5
   go_wp2
   have o:But (w.heap.size+1+1) A ((((((A.setCell ⟨w.heap.size+1+1,0,none⟩ (.bool false)).setCell ⟨w.heap.size+1+1,1,none⟩ yN).setCell ⟨w.heap.size+1+1,2,none⟩ (yi 0)).setCell ⟨w.heap.size+1+1,3,none⟩ (.bool false)).setCell ⟨w.heap.size+1+1,4,none⟩ (.bool false)).setCell ⟨w.heap.size+1+1,5,none⟩ (.bool false)):=(((((ag A (w.heap.size+1+1) 0 (.bool false)).trans (ag _ (w.heap.size+1+1) 1 yN)).trans (ag _ (w.heap.size+1+1) 2 (yi 0))).trans (ag _ (w.heap.size+1+1) 3 (.bool false))).trans (ag _ (w.heap.size+1+1) 4 (.bool false))).trans (ag _ (w.heap.size+1+1) 5 (.bool false));have u:au ((((((A.setCell ⟨w.heap.size+1+1,0,none⟩ (.bool false)).setCell ⟨w.heap.size+1+1,1,none⟩ yN).setCell ⟨w.heap.size+1+1,2,none⟩ (yi 0)).setCell ⟨w.heap.size+1+1,3,none⟩ (.bool false)).setCell ⟨w.heap.size+1+1,4,none⟩ (.bool false)).setCell ⟨w.heap.size+1+1,5,none⟩ (.bool false)) (w.heap.size+1+1) 141 (ypL false yN 0 false false false):=(((((b.set 0 (.bool false)).set 1 yN).set 2 (yi 0)).set 3 (.bool false)).set 4 (.bool false)).set 5 (.bool false);have t:=o.below Z (show w.heap.size≤w.heap.size+1+1 by omega)
   clear o h i j k m n K M N O Q S F a4 b;generalize((((((A.setCell ⟨w.heap.size+1+1,0,none⟩ (.bool false)).setCell ⟨w.heap.size+1+1,1,none⟩ yN).setCell ⟨w.heap.size+1+1,2,none⟩ (yi 0)).setCell ⟨w.heap.size+1+1,3,none⟩ (.bool false)).setCell ⟨w.heap.size+1+1,4,none⟩ (.bool false)).setCell ⟨w.heap.size+1+1,5,none⟩ (.bool false))=WR at u t⊢;obtain⟨h,i,j,k,m,n⟩:=u.cs6;rw[q.out.1,q.out.2]
   show bodyPost _ _ _ .ret _ _
   refine bodyPost_ret (v:= .tuple #[ypV false yN 0 false false false,yi 6]) (by simp[results,results109,go_sem,h,i,j,k,m,n]) rfl ?_;exact⟨_,rfl,aQ _ _ _ _,t⟩
  ·have hf:=a6.out rfl
   have al:Hid _:=ae.out rfl;have a8:Hid _:=a7.out rfl;have ad:Hid _:=ab.out rfl;clear a9 ae a7 ab a5 a6;subst hf;have x1:=F.c 1 rfl
   cases z
   ·have q:Hid _:=a8.out rfl
    have ar:Hid _:=ad.out rfl;clear al a8 ad;have x0:=F.c 0 rfl;have x2:=F.c 2 rfl;have x3:=F.c 3 rfl;obtain⟨y0,y1,y2,y3,y4⟩:=a4.cs5;have ay:=Z.size
    go_wp2_with fail
    refine(ar.out _ Z).mono ?_;rintro z wc ⟨v,rfl,ou,a3⟩;have az:=F.l a3;have ax:=a4.l a3;have g:=b.l a3;have aw:=aa Z a3;clear F a4 b Z a3;clear x0 x1 x2 x3 y0 y1 y2 y3 y4;obtain⟨Y,X,hv⟩:=ou.rd.shape;subst hv;obtain⟨U,ap⟩: ∃x,(Dg.dg 4294967296 a.d).length=x:=⟨_,rfl⟩;rw[ap] at ou;rw[ap];clear ap;have h:=g.c 0 rfl;have K:=g.f 0;have i:=g.c 1 rfl;have M:=g.f 1;have j:=g.c 2 rfl;have N:=g.f 2;have k:=g.c 3 rfl;have O:=g.f 3;have m:=g.c 4 rfl;have Q:=g.f 4;have n:=g.c 5 rfl;have S:=g.f 5
    go_wp2
    have o:But (w.heap.size+1+1) wc ((((((wc.setCell ⟨w.heap.size+1+1,0,none⟩ (.bool a.s)).setCell ⟨w.heap.size+1+1,1,none⟩ (.slice Y U X)).setCell ⟨w.heap.size+1+1,2,none⟩ (yi a.p)).setCell ⟨w.heap.size+1+1,3,none⟩ (.bool a.ex)).setCell ⟨w.heap.size+1+1,4,none⟩ (.bool a.ov)).setCell ⟨w.heap.size+1+1,5,none⟩ (.bool a.un)):=(((((ag wc (w.heap.size+1+1) 0 (.bool a.s)).trans (ag _ (w.heap.size+1+1) 1 (.slice Y U X))).trans (ag _ (w.heap.size+1+1) 2 (yi a.p))).trans (ag _ (w.heap.size+1+1) 3 (.bool a.ex))).trans (ag _ (w.heap.size+1+1) 4 (.bool a.ov))).trans (ag _ (w.heap.size+1+1) 5 (.bool a.un));have u:au ((((((wc.setCell ⟨w.heap.size+1+1,0,none⟩ (.bool a.s)).setCell ⟨w.heap.size+1+1,1,none⟩ (.slice Y U X)).setCell ⟨w.heap.size+1+1,2,none⟩ (yi a.p)).setCell ⟨w.heap.size+1+1,3,none⟩ (.bool a.ex)).setCell ⟨w.heap.size+1+1,4,none⟩ (.bool a.ov)).setCell ⟨w.heap.size+1+1,5,none⟩ (.bool a.un)) (w.heap.size+1+1) 141 (ypL a.s (.slice Y U X) a.p a.ex a.ov a.un):=(((((g.set 0 (.bool a.s)).set 1 (.slice Y U X)).set 2 (yi a.p)).set 3 (.bool a.ex)).set 4 (.bool a.ov)).set 5 (.bool a.un);have t:=o.below aw (show w.heap.size≤w.heap.size+1+1 by omega)
    have oR:=o.own (ou.lower ay) g (by decide);clear o h i j k m n K M N O Q S az ax g;generalize((((((wc.setCell ⟨w.heap.size+1+1,0,none⟩ (.bool a.s)).setCell ⟨w.heap.size+1+1,1,none⟩ (.slice Y U X)).setCell ⟨w.heap.size+1+1,2,none⟩ (yi a.p)).setCell ⟨w.heap.size+1+1,3,none⟩ (.bool a.ex)).setCell ⟨w.heap.size+1+1,4,none⟩ (.bool a.ov)).setCell ⟨w.heap.size+1+1,5,none⟩ (.bool a.un))=WR at u t oR⊢;obtain⟨h,i,j,k,m,n⟩:=u.cs6;rw[q.out.1,q.out.2]
    show bodyPost _ _ _ .ret _ _
    refine bodyPost_ret (v:= .tuple #[ypV a.s (.slice Y U X) a.p a.ex a.ov a.un,yi 0]) (by simp[results,results109,go_sem,h,i,j,k,m,n]) rfl ?_;exact⟨_,rfl,oR,t⟩
   ·have q:Hid _:=al.out rfl
    clear al a8 ad;have h:=b.c 0 rfl;have K:=b.f 0;have i:=b.c 1 rfl;have M:=b.f 1;have j:=b.c 2 rfl;have N:=b.f 2;have k:=b.c 3 rfl;have O:=b.f 3;have m:=b.c 4 rfl;have Q:=b.f 4;have n:=b.c 5 rfl;have S:=b.f 5
    go_wp2
    have o:But (w.heap.size+1+1) A ((((((A.setCell ⟨w.heap.size+1+1,0,none⟩ (.bool false)).setCell ⟨w.heap.size+1+1,1,none⟩ yN).setCell ⟨w.heap.size+1+1,2,none⟩ (yi 0)).setCell ⟨w.heap.size+1+1,3,none⟩ (.bool true)).setCell ⟨w.heap.size+1+1,4,none⟩ (.bool false)).setCell ⟨w.heap.size+1+1,5,none⟩ (.bool false)):=(((((ag A (w.heap.size+1+1) 0 (.bool false)).trans (ag _ (w.heap.size+1+1) 1 yN)).trans (ag _ (w.heap.size+1+1) 2 (yi 0))).trans (ag _ (w.heap.size+1+1) 3 (.bool true))).trans (ag _ (w.heap.size+1+1) 4 (.bool false))).trans (ag _ (w.heap.size+1+1) 5 (.bool false));have u:au ((((((A.setCell ⟨w.heap.size+1+1,0,none⟩ (.bool false)).setCell ⟨w.heap.size+1+1,1,none⟩ yN).setCell ⟨w.heap.size+1+1,2,none⟩ (yi 0)).setCell ⟨w.heap.size+1+1,3,none⟩ (.bool true)).setCell ⟨w.heap.size+1+1,4,none⟩ (.bool false)).setCell ⟨w.heap.size+1+1,5,none⟩ (.bool false)) (w.heap.size+1+1) 141 (ypL false yN 0 true false false):=(((((b.set 0 (.bool false)).set 1 yN).set 2 (yi 0)).set 3 (.bool true)).set 4 (.bool false)).set 5 (.bool false);have t:=o.below Z (show w.heap.size≤w.heap.size+1+1 by omega)
    clear o h i j k m n K M N O Q S F a4 b;generalize((((((A.setCell ⟨w.heap.size+1+1,0,none⟩ (.bool false)).setCell ⟨w.heap.size+1+1,1,none⟩ yN).setCell ⟨w.heap.size+1+1,2,none⟩ (yi 0)).setCell ⟨w.heap.size+1+1,3,none⟩ (.bool true)).setCell ⟨w.heap.size+1+1,4,none⟩ (.bool false)).setCell ⟨w.heap.size+1+1,5,none⟩ (.bool false))=WR at u t⊢;obtain⟨h,i,j,k,m,n⟩:=u.cs6;rw[q.out.1,q.out.2]
    show bodyPost _ _ _ .ret _ _
    refine bodyPost_ret (v:= .tuple #[ypV false yN 0 true false false,yi 0]) (by simp[results,results109,go_sem,h,i,j,k,m,n]) rfl ?_;exact⟨_,rfl,aQ _ _ _ _,t⟩
 ·have b0:(c==0)=false:=by simp;exact B
  have q:Hid _:=HB.out B;clear B HB HK HZ HG HR;have h:=e.c 0 rfl;have K:=e.f 0;have i:=e.c 1 rfl;have M:=e.f 1;have j:=e.c 2 rfl;have N:=e.f 2;have k:=e.c 3 rfl;have O:=e.f 3;have m:=e.c 4 rfl;have Q:=e.f 4;have n:=e.c 5 rfl;have S:=e.f 5
  go_wp2
  have o:But (w.heap.size+1+1) wa ((((((wa.setCell ⟨w.heap.size+1+1,0,none⟩ (.bool false)).setCell ⟨w.heap.size+1+1,1,none⟩ yN).setCell ⟨w.heap.size+1+1,2,none⟩ (yi 0)).setCell ⟨w.heap.size+1+1,3,none⟩ (.bool false)).setCell ⟨w.heap.size+1+1,4,none⟩ (.bool false)).setCell ⟨w.heap.size+1+1,5,none⟩ (.bool false)):=(((((ag wa (w.heap.size+1+1) 0 (.bool false)).trans (ag _ (w.heap.size+1+1) 1 yN)).trans (ag _ (w.heap.size+1+1) 2 (yi 0))).trans (ag _ (w.heap.size+1+1) 3 (.bool false))).trans (ag _ (w.heap.size+1+1) 4 (.bool false))).trans (ag _ (w.heap.size+1+1) 5 (.bool false));have u:au ((((((wa.setCell ⟨w.heap.size+1+1,0,none⟩ (.bool false)).setCell ⟨w.heap.size+1+1,1,none⟩ yN).setCell ⟨w.heap.size+1+1,2,none⟩ (yi 0)).setCell ⟨w.heap.size+1+1,3,none⟩ (.bool false)).setCell ⟨w.heap.size+1+1,4,none⟩ (.bool false)).setCell ⟨w.heap.size+1+1,5,none⟩ (.bool false)) (w.heap.size+1+1) 141 (ypL false yN 0 false false false):=(((((e.set 0 (.bool false)).set 1 yN).set 2 (yi 0)).set 3 (.bool false)).set 4 (.bool false)).set 5 (.bool false);have t:=o.below an (show w.heap.size≤w.heap.size+1+1 by omega)
  clear o h i j k m n K M N O Q S aq ao e;generalize((((((wa.setCell ⟨w.heap.size+1+1,0,none⟩ (.bool false)).setCell ⟨w.heap.size+1+1,1,none⟩ yN).setCell ⟨w.heap.size+1+1,2,none⟩ (yi 0)).setCell ⟨w.heap.size+1+1,3,none⟩ (.bool false)).setCell ⟨w.heap.size+1+1,4,none⟩ (.bool false)).setCell ⟨w.heap.size+1+1,5,none⟩ (.bool false))=WR at u t⊢;obtain⟨h,i,j,k,m,n⟩:=u.cs6;rw[q.out.1,q.out.2]
  show bodyPost _ _ _ .ret _ _
  refine bodyPost_ret (v:= .tuple #[ypV false yN 0 false false false,yi c]) (by simp[results,results109,go_sem,h,i,j,k,m,n]) rfl ?_;exact⟨_,rfl,aQ _ _ _ _,t⟩
theorem Ra (R D L G c sz b on wr:Int)(gr ng:Bool)(F:Nat)(e f:Int)(w:World)(d:yJ 125 #[ylV R D L G gr sz b c F] (yi on))(g:yJ 126 #[ylV R D L G gr sz b c F] (.int .u64 wr))(r:on=e)(s:wr=f)(_h0:(on==0)=false):yC 151 #[ylV R D L G gr sz b c F,yfV ng e f] w (yR w (yi 3)):=by
 have v:=cD;replace d:Hid _:=d;replace g:Hid _:=g;have k:=(ah w (ylL R D L G gr sz b c F) 93).l (af _ (.cells (yfA ng e f) 134));have j:=ah (w.alloc (.cells (ylA R D L G gr sz b c F) 93)) (yfL ng e f) 134;have o:=aa (af w (.cells (ylA R D L G gr sz b c F) 93)) (af _ (.cells (yfA ng e f) 134));rw[World.size_alloc] at j;subst r s;obtain⟨N,O,P,Q,S,T,U,W,X⟩:=k.cs9;obtain⟨B,C,E⟩:=j.cs3
 go_enter func151,ntmps151
 go_wp2_with fail
 go_region_held3 (fun a=>(a.cell? ⟨w.heap.size,0,none⟩=some (yi R)∧a.cell? ⟨w.heap.size,1,none⟩=some (yi D)∧a.cell? ⟨w.heap.size,2,none⟩=some (yi L)∧a.cell? ⟨w.heap.size,3,none⟩=some (yi G)∧a.cell? ⟨w.heap.size,4,none⟩=some (.bool gr)∧a.cell? ⟨w.heap.size,5,none⟩=some (yi sz)∧a.cell? ⟨w.heap.size,6,none⟩=some (yi b)∧a.cell? ⟨w.heap.size,7,none⟩=some (yi c)∧a.cell? ⟨w.heap.size,8,none⟩=some (.func (.func F) #[] #[]))∧(a.cell? ⟨w.heap.size+1,0,none⟩=some (.bool ng)∧a.cell? ⟨w.heap.size+1,1,none⟩=some (yi on)∧a.cell? ⟨w.heap.size+1,2,none⟩=some (.int .u64 wr))) (go_keep) (first
  | (go_at_call 125;refine(d.out _).mono ?_;rintro z K ⟨rfl,h⟩;have m:=k.drew.l h;have n:=j.drew.l h;have p:=aa o.drew h;obtain⟨Y,Z,y2,y3,y4,y5,y6,y7,y8⟩:=m.cs9;obtain⟨H,I,J⟩:=n.cs3)
  | (go_at_call 126;refine(g.out _).mono ?_;rintro z M ⟨rfl,i⟩;have t:=m.l i;have u:=n.l i;have q:=aa p i;obtain⟨z0,z1,z2,z3,z4,z5,z6,z7,z8⟩:=t.cs9;obtain⟨x,y,A⟩:=u.cs3))
 all_goals go_wp2
 all_goals go_ret
 all_goals exact⟨rfl,q⟩
theorem Zd (D L G sz b c j o:Int)(gr ng:Bool)(F e f:Nat)(w:World)(q:((e:Int)==0)=false)(r:bits .or .u64 f j=o)
  (t:IntKind.i64.wrap (L+(e:Int))=L+(e:Int)) (u:IntKind.i64.wrap (L+(e:Int)-1)=L+(e:Int)-1)
  (d:yJ 127 #[ylV 2 D L G gr sz b c F] (.int .u64 j)):
  yC 114 #[ylV 2 D L G gr sz b c F,yfV ng e f] w (yR w (.tuple #[.int .u64 o,yi (L+(e:Int)-1)])):=by
 replace d:Hid _:=d;have s:=cD;have i:=(ah w (ylL 2 D L G gr sz b c F) 93).l (af _ (.cells (yfA ng e f) 134));have h:=ah (w.alloc (.cells (ylA 2 D L G gr sz b c F) 93)) (yfL ng e f) 134;have k:=aa (af w (.cells (ylA 2 D L G gr sz b c F) 93)) (af _ (.cells (yfA ng e f) 134));rw[World.size_alloc] at h;obtain⟨H,I,J,K,M,N,O,P,Q⟩:=i.cs9;obtain⟨v,x,y⟩:=h.cs3
 go_enter func114,ntmps114
 go_wp2_with fail
 go_region_held3 (fun a=>(a.cell? ⟨w.heap.size,0,none⟩=some (yi 2)∧a.cell? ⟨w.heap.size,1,none⟩=some (yi D)∧a.cell? ⟨w.heap.size,2,none⟩=some (yi L)∧a.cell? ⟨w.heap.size,3,none⟩=some (yi G)∧a.cell? ⟨w.heap.size,4,none⟩=some (.bool gr)∧a.cell? ⟨w.heap.size,5,none⟩=some (yi sz)∧a.cell? ⟨w.heap.size,6,none⟩=some (yi b)∧a.cell? ⟨w.heap.size,7,none⟩=some (yi c)∧a.cell? ⟨w.heap.size,8,none⟩=some (.func (.func F) #[] #[]))∧(a.cell? ⟨w.heap.size+1,0,none⟩=some (.bool ng)∧a.cell? ⟨w.heap.size+1,1,none⟩=some (yi e)∧a.cell? ⟨w.heap.size+1,2,none⟩=some (.int .u64 f))) (go_keep) (first
  | (go_at_call 127;refine(d.out _).mono ?_;rintro z E ⟨rfl,g⟩;have n:=i.drew.l g;have p:=h.drew.l g;have m:=aa k.drew g;obtain⟨R,S,T,U,W,X,Y,Z,y8⟩:=n.cs9;obtain⟨A,B,C⟩:=p.cs3))
 all_goals go_wp2
 all_goals go_ret2
 all_goals exact⟨by first|rfl|simp[Act.put],m⟩
theorem nV (s:Bool)(n:Nat)(e k:Int)(g:k≤e+(tz n:Int)):eZ n (e-k) % dX 1 (e-k)=0∧bare ⟨s,eZ n (e-k)/dX 1 (e-k),k⟩=bare ⟨s,n,e⟩:=by
 by_cases b:n=0
 ·subst b
  have a:eZ 0 (e-k)=0:=by rw[fw];simp
  rw[a];simp[bare]
 ·by_cases h:k≤e
  ·have a:dX 1 (e-k)=1:=by rw[eM,show(-(e-k)).toNat=0 by omega]
   rw[a,fw,Nat.mod_one,Nat.div_one];refine⟨rfl, ?_⟩;refine fH (K:=(max (-k) 0).toNat) (by simp only;omega) (by simp only;omega) ?_;rw[eV,eV];simp only;rw[Nat.mul_assoc,←Nat.pow_add,show(e-k).toNat+(k+((max (-k) 0).toNat:Int)).toNat=(e+((max (-k) 0).toNat:Int)).toNat by omega]
  ·obtain⟨m,d⟩:=fO b
   obtain⟨q,f⟩: ∃q,n=q*2^ (k-e).toNat:=by
    refine⟨2^ (tz n-(k-e).toNat)*(2*m+1), ?_⟩;rw[Nat.mul_right_comm,←Nat.pow_add,show tz n-(k-e).toNat+(k-e).toNat=tz n by omega]
    exact d
   have a:eZ n (e-k)=n:=by rw[fw,show(e-k).toNat=0 by omega,Nat.pow_zero,Nat.mul_one]
   have c:dX 1 (e-k)=2^ (k-e).toNat:=by rw[eM,Nat.one_mul,show-(e-k)=k-e by omega]
   rw[a,c,f,Nat.mul_mod_left,Nat.mul_div_cancel _ (bG _)];refine⟨rfl, ?_⟩;refine fH (K:=(max (-e) 0).toNat) (by simp only;omega) (by simp only;omega) ?_;rw[eV,eV];simp only;rw[Nat.mul_assoc,←Nat.pow_add,show(k-e).toNat+(e+((max (-e) 0).toNat:Int)).toNat=(k+((max (-e) 0).toNat:Int)).toNat by omega]
theorem tdecOf_t_mg:
  (∀(xg:Bool) (xn f g X:Nat) (d:Option Addr) (b:Nat) (e t p o k up u v n:Int) (j:ByteArray) (w:World) (_:Rd w .u32 (yT d xn b) (Dg.dg 4294967296 xn)) (_:IntKind.i64.wrap (t-1)=p) (_:IntKind.i64.wrap (p+e)=o) (_:IntKind.i64.wrap (60-k)=up) (_:IntKind.i64.wrap (k+(j.size:Int))=u) (_:IntKind.i64.wrap (u-1)=v) (_:IntKind.i64.wrap (v-60)=n)
  (_: ∀d b a,Rd a .u32 (yT d xn b) (Dg.dg 4294967296 xn)→yC 40 #[yT d xn b] a (yR a (yi t)))
  (_:yJ 39 #[yi o] (yi k))
  (_: ∀d b a,yB w a→Rd a .u32 (yT d xn b) (Dg.dg 4294967296 xn)→yC 41 #[ydV xg (yT d xn b) e,yi up] a (NbR a f true))
  (_: ∀i h a,Rd a .u32 (yT i f h) (Dg.dg 4294967296 f)→yC 42 #[yT i f h] a (yR a (.string j)))
  (_: ∀i h a,Rd a .u32 (yT i f h) (Dg.dg 4294967296 f)→yC 43 #[yT i f h,yi 1] a (NmR a g))
  (_: ∀W U q a,Rd a .u32 (yT W g U) (Dg.dg 4294967296 g)→au a q 105 [.int .u32 1]→yC 44 #[yT W g U,.slice (some ⟨q,0,none⟩) 1 1] a (NmR a X)),
  yC 12 #[ydV xg (yT d xn b) e] w (DcR w xg X (j.size:Int) n))∧
  (∀(xg:Bool) (xn f g:Nat) (d:Option Addr) (b:Nat) (e t p o k up u v n:Int) (j:ByteArray) (w:World) (_:Rd w .u32 (yT d xn b) (Dg.dg 4294967296 xn)) (_:IntKind.i64.wrap (t-1)=p) (_:IntKind.i64.wrap (p+e)=o) (_:IntKind.i64.wrap (60-k)=up) (_:IntKind.i64.wrap (k+(j.size:Int))=u) (_:IntKind.i64.wrap (u-1)=v) (_:IntKind.i64.wrap (v-60)=n)
  (_: ∀d b a,Rd a .u32 (yT d xn b) (Dg.dg 4294967296 xn)→yC 40 #[yT d xn b] a (yR a (yi t)))
  (_:yJ 39 #[yi o] (yi k))
  (_: ∀d b a,yB w a→Rd a .u32 (yT d xn b) (Dg.dg 4294967296 xn)→yC 41 #[ydV xg (yT d xn b) e,yi up] a (NbR a f false))
  (_: ∀i h a,Rd a .u32 (yT i f h) (Dg.dg 4294967296 f)→yC 42 #[yT i f h] a (yR a (.string j)))
  (_: ∀i h a,Rd a .u32 (yT i f h) (Dg.dg 4294967296 f)→yC 43 #[yT i f h,yi 1] a (NmR a g)),
  yC 12 #[ydV xg (yT d xn b) e] w (DcR w xg g (j.size:Int) n)):=by
 refine⟨?_, ?_⟩;have _z:Mgk 0:=mgkI 0
 all_goals
  first| (rename Mgk 0=>_z;intro xg xn f g X d b e t p o k up u v n j w rx h1 h2 h3 h4 h5 h6 C F D E G Q)| (intro xg xn f g d b e t p o k up u v n j w rx h1 h2 h3 h4 h5 h6 C F D E G)
  replace C:Hid _:=C;replace F:Hid _:=F;replace D:Hid _:=D;replace E:Hid _:=E;replace G:Hid _:=G
  first| (rename Mgk 0=>_z;replace Q:Hid _:=Q)|skip
  obtain⟨W4,T,q1,q2,b3⟩:=iG w (ydL xg (yT d xn b) e) 41 [.bool false,yN,yi 0,yi 0] 49;replace T:Hid _:=T;have r6:=rx.l b3;clear rx
  go_enter func12,ntmps12
  go_upto_region 1 with fail
  rw[T.out];clear T
  go_upto_region 1 with fail
  have H:yB W4 W4.drew:=(Below.refl _ _).drew;have q8:=q1.l H;have q9:=q2.l H;have a0:=r6.l H;have a3:=aa b3 H;clear q1 q2 r6 b3 H;refine wp_region_held_drew (S:=fun wq=>au wq w.heap.size 41 (ydL xg (yT d xn b) e)) (by kernel_rfl) q8 (fun A=> ?_)
  generalize W4.drew=bn at q8 q9 a0 a3 A⊢;refine tq 0 (.pointer (some ⟨w.heap.size,1,none⟩)) rfl (fun _ _=>by kernel_rfl) A ?_
  refine tq 1 (yT d xn b) rfl (fun _ a6=>gU 37 (.tmp 8) rfl w.heap.size 1 (by kernel_rfl) _ _ underlying37 rfl (a6.c 1 rfl)) A ?_
  refine tq 4 (.pointer (some ⟨w.heap.size,2,none⟩)) rfl (fun _ _=>by kernel_rfl) A ?_
  refine tq 5 (yi e) rfl (fun _ a6=>gU 3 (.tmp 12) rfl w.heap.size 2 (by kernel_rfl) _ _ underlying3 rfl (a6.c 2 rfl)) A ?_
  refine wpAnyH_ready (rs:=[2]) (by kernel_rfl) (by simp) ?_;refine AllReadyH.cons rfl (fun K M=> ?_) AllReadyH.nil
  go_simp
  refine(C.out _ _ _ a0).mono ?_;rintro O bw ⟨rfl,I⟩;have a7:=q8.l I;have ar:=q9.l I;have b5:=a0.l I;have ae:=aa a3 I;clear q8 q9 a0 a3 I C;refine M.out _ _ a7 (fun a5=> ?_)
  clear M K;refine tq 3 (yi p) rfl (fun _ _=>by go_simp) a5 ?_
  refine tq 6 (yi o) rfl (fun _ _=>by go_simp) a5 ?_
  refine wpAnyH_ready (rs:=[7]) (by kernel_rfl) (by simp) ?_;refine AllReadyH.cons rfl (fun K M=> ?_) AllReadyH.nil
  go_simp
  refine(F.out _).mono ?_;rintro O bx ⟨rfl,J⟩;have Y:=a7.l J;have av:=ar.l J;have a8:=b5.l J;have a4:=aa ae J;clear a7 ar b5 ae J F;refine M.out _ _ Y (fun aq=> ?_)
  clear M K;refine tq 8 (yi k) rfl (fun _ _=>by kernel_rfl) aq ?_
  refine wpAnyH_done (by kernel_rfl) ?_ _;clear A a5 aq;simp only[Act.put,List.getElem_toArray,List.getElem_cons_succ,List.getElem_cons_zero,List.setIfInBounds_toArray,List.set_cons_zero,List.set_cons_succ];obtain⟨bb,bc,bd⟩:=Y.cs3
  go_wp2_with fail
  refine(D.out _ _ _ a4 a8).mono ?_;rintro O bz ⟨bt,rfl,a1,L⟩;have aw:=Y.l L;have ax:=av.l L;have b6:=a8.l L;have al:=aa a4 L;obtain⟨i,h,g⟩:=a1.shape;subst g;clear Y av a8 a4 L D bb bc bd
  go_wp2_with fail
  refine(E.out _ _ _ a1).mono ?_;rintro O c0 ⟨rfl,y⟩;have ay:=aw.l y;have az:=ax.l y;have b7:=b6.l y;have a9:=a1.l y;have an:=aa al y;clear aw ax b6 a1 al y E
  go_wp2_with fail
  refine(G.out _ _ _ a9).mono ?_;rintro O ba ⟨bu,rfl,B,z⟩;have N:=ay.l z;have x:=az.l z;have ab:=b7.l z;have ac:=a9.l z;have R:=aa an z;obtain⟨W,U,g⟩:=B.shape;subst g;clear ay az b7 a9 an z G
  first| (rename Mgk 0=>_z;have bq:=N.lt;have bs:=x.lt;have r:=af ba (.cells #[.int .u32 1] 105);have b0:=ah ba [.int .u32 1] 105;have b1:=N.l r;have b2:=x.l r;have b8:=ab.l r;have b9:=ac.l r;have ad:=B.l r;have ao:=aa R r;go_wp2_with fail;refine(Q.out _ _ _ _ ad b0).mono ?_;rintro O c1 ⟨bv,rfl,a2,s⟩;have b4:=b1.l s;have Z:=b2.l s;have bf:=b8.l s;have bg:=b9.l s;have bh:=ad.l s;have ap:=aa ao s;obtain⟨ko,kc,g⟩:=a2.shape;subst g;clear b1 b2 b0 b8 b9 ad ao s Q N x ab ac B R r;have bp:=b4.c 0 rfl;have m:=afz (P:=Tryz.prog) Z ap (by omega) underlying49 rfl (by kernel_rfl) (.bool xg) (yT ko X kc) (yi (j.size:Int)) (yi n);have HH:Hid (_∧_∧_):=⟨m.1,m.2.2.rd a2 (aX a2 Z (by simp)),m.2.1⟩;obtain⟨⟨z0,z1,z2,z3⟩,y0,y1,y2,y3⟩:=afB Z;clear m b4 Z bf bg bh a2 ap)| (have bo:=N.c 0 rfl;have m:=afz (P:=Tryz.prog) x R (by omega) underlying49 rfl (by kernel_rfl) (.bool xg) (yT W g U) (yi (j.size:Int)) (yi n);have HH:Hid (_∧_∧_):=⟨m.1,m.2.2.rd B (aX B x (by simp)),m.2.1⟩;obtain⟨⟨z0,z1,z2,z3⟩,y0,y1,y2,y3⟩:=afB x;clear m N x ab ac B R)
  go_wp2
  first| (rename Mgk 0=>_z;obtain⟨hl,bj,bR⟩:=HH.out)| (obtain⟨hl,bi,bR⟩:=HH.out)
  first| (rename Mgk 0=>_z;exact bodyPost_ret (br results12 rfl hl) rfl ⟨_,rfl,bj,bR⟩)| (exact bodyPost_ret (br results12 rfl hl) rfl ⟨_,rfl,bi,bR⟩)
theorem abe (n R D L G c p:Int)(gr ng:Bool)(m:Nat)(t:ak)(s:ByteArray)(w:World)
  (F:yJ 31 #[yi n] (.tuple #[ygV R D L G gr,yi 0]))
  (E: ∀g,yC 32 #[yi n,.string s] g (eP g c ng m p 0))
  (X: ∀d b g,yB w g→Rd g .u32 (yT d m b) (Dg.dg 4294967296 m)→yC 33 #[yvV c ng (yT d m b) p,ygV R D L G gr] g (acy g t)):
  yC 9 #[yi n,.string s] w (Ys w c ng m p t 0):=by
 replace F:Hid _:=F;replace E:Hid _:=E;replace X:Hid _:=X;have bv:=af w (.cells (yvA 0 false yN 0) 39);have bx:=af (w.alloc (.cells (yvA 0 false yN 0) 39)) (.cells (ydA false yN 0) 41);have v0:=(ah w (yvL 0 false yN 0) 39).l bx;have C:=ah (w.alloc (.cells (yvA 0 false yN 0) 39)) (ydL false yN 0) 41;have Y:=aa bv bx;rw[World.size_alloc] at C;clear bv bx
 go_enter func9,ntmps9
 go_upto_region 1 with fail
 generalize(w.alloc (.cells (yvA 0 false yN 0) 39)).alloc (.cells (ydA false yN 0) 41)=W0 at v0 C Y⊢
 go_wp2_with fail
 refine(F.out _).mono ?_;rintro z g ⟨rfl,A⟩;have I:=af g (.cells (ygA R D L G gr) 54);have y:=ah g (ygL R D L G gr) 54;have v1:=(v0.l A).l I;have x1:=(C.l A).l I;have Z:=aa (aa Y A) I;have a9:w.heap.size+1<g.heap.size:=(C.l A).lt
 go_upto_region 4 with fail
 generalize g.alloc (.cells (ygA R D L G gr) 54)=WG at y v1 x1 Z⊢;generalize g.heap.size=j at y a9⊢;clear v0 C Y A I F
 go_wp2_with fail
 refine(E.out _).mono ?_;rintro z B ⟨vv,rfl,r2,u⟩;obtain⟨d,b,hv⟩:=r2.shape;subst hv;have x:=af B (.cells (yvA c ng (yT d m b) p) 39);have Q:=ah B (yvL c ng (yT d m b) p) 39;have M:=(y.l u).l x;have v2:=(v1.l u).l x;have x2:=(x1.l u).l x;have rr:=r2.l x;have a7:=aa (aa Z u) x;have ab:j<B.heap.size:=(y.l u).lt
 go_upto_region 7 with fail
 generalize B.alloc (.cells (yvA c ng (yT d m b) p) 39)=W2 at Q M v2 x2 rr a7⊢;generalize B.heap.size=r at Q ab⊢;clear v1 x1 y Z u x r2 E;have qd:=Q.drew;have gd:=M.drew;have vd:=v2.drew;have xd:=x2.drew;have rd:=Rd.l rr ((Below.refl _ _).drew);have n1:w.heap.size≠j:=by omega
 have n2:w.heap.size+1≠j:=by omega
 have n3:w.heap.size≠r:=by omega
 have n4:w.heap.size+1≠r:=by omega
 have bd:=a7.drew;obtain⟨a0,a1,a2,a3⟩:=Q.cs4;obtain⟨y0,y1,y2,y3,y4⟩:=M.cs5
 go_region_held3 (fun i=>(i.cell? ⟨r,0,none⟩=some (yi c)∧i.cell? ⟨r,1,none⟩=some (.bool ng)∧i.cell? ⟨r,2,none⟩=some (yT d m b)∧i.cell? ⟨r,3,none⟩=some (yi p))∧(i.cell? ⟨j,0,none⟩=some (yi R)∧i.cell? ⟨j,1,none⟩=some (yi D)∧i.cell? ⟨j,2,none⟩=some (yi L)∧i.cell? ⟨j,3,none⟩=some (yi G)∧i.cell? ⟨j,4,none⟩=some (.bool gr))) (go_keep) (first
  | (go_at_call 33;refine(X.out _ _ _ bd rd).mono ?_;rintro z W ⟨sv,rfl,S,fx,v⟩;obtain⟨o,k,hs⟩:=S.shape;subst hs;have q3:=qd.l v;have g3:=gd.l v;have h:=vd.l v;have q:=xd.l v;have r3:=rd.l v;have a8:=aa bd v;obtain⟨c0,c1,c2,c3⟩:=q3.cs4;obtain⟨d0,d1,d2,d3,d4⟩:=g3.cs5;obtain⟨e0,e1,e2,e3⟩:=h.cs4;obtain⟨k0,k1,k2⟩:=q.cs3;have f0:=h.f 0;have f1:=h.f 1;have f2:=h.f 2;have f3:=h.f 3;have g0:=q.f 0;have y:=q.f 1;have M:=q.f 2))
 all_goals
  have cV:au (((((((W.setCell ⟨w.heap.size,0,none⟩ (yi c)).setCell ⟨w.heap.size,1,none⟩ (.bool ng)).setCell ⟨w.heap.size,2,none⟩ (yT d m b)).setCell ⟨w.heap.size,3,none⟩ (yi p)).setCell ⟨w.heap.size+1,0,none⟩ (.bool t.s)).setCell ⟨w.heap.size+1,1,none⟩ (yT o t.n k)).setCell ⟨w.heap.size+1,2,none⟩ (yi t.e)) w.heap.size 39 (yvL c ng (yT d m b) p):=(((((((h.set 0 (yi c)).set 1 (.bool ng)).set 2 (yT d m b)).set 3 (yi p)).off (show w.heap.size+1≠w.heap.size by omega) 0 (.bool t.s)).off (show w.heap.size+1≠w.heap.size by omega) 1 (yT o t.n k)).off (show w.heap.size+1≠w.heap.size by omega) 2 (yi t.e))
  have cX:au (((((((W.setCell ⟨w.heap.size,0,none⟩ (yi c)).setCell ⟨w.heap.size,1,none⟩ (.bool ng)).setCell ⟨w.heap.size,2,none⟩ (yT d m b)).setCell ⟨w.heap.size,3,none⟩ (yi p)).setCell ⟨w.heap.size+1,0,none⟩ (.bool t.s)).setCell ⟨w.heap.size+1,1,none⟩ (yT o t.n k)).setCell ⟨w.heap.size+1,2,none⟩ (yi t.e)) (w.heap.size+1) 41 (yDL t o k):=(((((((q.off (show w.heap.size≠w.heap.size+1 by omega) 0 (yi c)).off (show w.heap.size≠w.heap.size+1 by omega) 1 (.bool ng)).off (show w.heap.size≠w.heap.size+1 by omega) 2 (yT d m b)).off (show w.heap.size≠w.heap.size+1 by omega) 3 (yi p)).set 0 (.bool t.s)).set 1 (yT o t.n k)).set 2 (yi t.e))
  have a4:=((((q.off (show w.heap.size≠w.heap.size+1 by omega) 0 (yi c)).off (show w.heap.size≠w.heap.size+1 by omega) 1 (.bool ng)).off (show w.heap.size≠w.heap.size+1 by omega) 2 (yT d m b)).off (show w.heap.size≠w.heap.size+1 by omega) 3 (yi p))
  have J:=(((ag W w.heap.size 0 (yi c)).trans (ag _ w.heap.size 1 (.bool ng))).trans (ag _ w.heap.size 2 (yT d m b))).trans (ag _ w.heap.size 3 (yi p));have K:=((ag ((((W.setCell ⟨w.heap.size,0,none⟩ (yi c)).setCell ⟨w.heap.size,1,none⟩ (.bool ng)).setCell ⟨w.heap.size,2,none⟩ (yT d m b)).setCell ⟨w.heap.size,3,none⟩ (yi p)) (w.heap.size+1) 0 (.bool t.s)).trans (ag _ (w.heap.size+1) 1 (yT o t.n k))).trans (ag _ (w.heap.size+1) 2 (yi t.e));have H:=K.below (J.below a8 (Nat.le_refl _)) (by omega);have a5:=J.rd r3 (aX r3 h (by simp));have T:=K.rd a5 (aX a5 a4 (by simp));have a6:=J.rd S (aX S h (by simp));have U:=K.rd a6 (aX a6 a4 (by simp));have N:=run_loadVar_mid (P:=Tryz.prog) _ w.heap.size 0 39 (yvL c ng (yT d m b) p) _ cV.range underlying39 rfl (by kernel_rfl);have O:=run_loadVar_mid (P:=Tryz.prog) _ (w.heap.size+1) 0 41 (yDL t o k) _ cX.range underlying41 rfl (by kernel_rfl);have HH:Hid (_∧_∧_∧_∧_):=⟨N,O,T,U,H⟩;clear N O H J K cV cX a4 T a5 U a6;clear h q r3 S a8 q3 g3
  go_wp2
  obtain⟨N,O,T,U,H⟩:=HH.out;exact bodyPost_ret (kg results9 rfl rfl rfl N O) rfl ⟨_,_,rfl,T,U,(fun a n c hv=>Nat.le_trans bd.size (fx a n c hv)),H⟩
theorem Tb (s:ByteArray)(a: ∀i,i<s.size→48≤byt s i∧byt s i≤57): ∀k,k≤s.size→pv s k<10^k:=by
 intro k
 induction k with
 |zero=>intro _;simp[pv]
 |succ k ih=>
  intro h;have:=ih (by omega);have:=a k (by omega);simp only[pv,Nat.pow_succ];omega
def ack (s:ByteArray)(p i g sc:Nat):Prop:=pv s (p+i)=pv s p*10^i+g∧g<10^i∧sc=10^i
theorem Wb (s:ByteArray)(a: ∀i,i<s.size→48≤byt s i∧byt s i≤57)(c:s.size≤12000)(p:Nat)(b:p≤s.size):(Dg.dg 4294967296 (pv s p)).length≤12000:=by
 refine Nat.le_trans (Dg.dg_len_le 4294967296 _ p (by omega) ?_) (by omega);exact Nat.lt_of_lt_of_le (Tb s a p b) (Nat.pow_le_pow_left (by omega) p)
theorem Wp (zs:List Nat)(p b i:Nat)(d:b<2)(f:p/8<zs.length):fU (zs.set (p/8) (zs.getD (p/8) 0|||b*2^ (7-p % 8))) i=if i=p then(if b=1 then 1 else fU zs i) else fU zs i:=by
 rw[Ib,Ib,Dg.getD_set _ _ _ _ f]
 by_cases a:p/8=i/8
 ·rw[if_pos a,Lp _ _ _ _ d,a]
  by_cases c:i=p
  ·subst c
   rw[if_pos rfl]
   rcases(show b=0∨b=1 by omega) with rfl|rfl
   ·simp
   ·simp
  ·rw[if_neg c,decide_eq_false (show¬7-p % 8=7-i % 8 by omega)]
   simp
 ·rw[if_neg a,if_neg (show¬i=p from fun e=>a (by rw[e]))]
theorem JK {L:Int}{j:Nat}{t:fz}(e:t.d<2^ (j+1)):heE 2 L (2^j) t=(t.p-L).toNat+if 2^j≤t.d then 1 else 0:=by
 have h:=Ni e;have b:=pP t.d j;have g:=bF t.d (j+1) e;unfold heE
 by_cases a:2^j≤t.d
 ·have f: ¬bitLen t.d<j+1:=fun c=>(b.1 c) a
  rw[if_pos ⟨rfl,h.2 (by omega)⟩,if_pos a]
 ·have f:=b.2 a
  rw[if_neg (fun c=>by have:=h.1 c.2;omega),if_neg a]
theorem CQ {k:Nat}(D:1≤k∧k≤8)(ng:Bool)(t:fz)(z:lsI k≤t.p)(A:t.p≤gsI k)(n:t.d≠0)(e:t.d<2^ (ai (rdN k)*dgN k))(g:2^ (ai (rdN k)*(dgN k-1))≤t.d∨(k≤3∧t.p=lsI k)):
  heE (rdN k) (lsI k) (gW k) t<2^exN k∧dh k ng (heE (rdN k) (lsI k) (gW k) t) (t.d % 2^frN k)=2∧iI k (heE (rdN k) (lsI k) (gW k) t) (t.d % 2^frN k)=t.d∧ii k (heE (rdN k) (lsI k) (gW k) t)=t.p:=by
 have v:(k=4∨k=5)∨k=3∨(k=1∨k=2)∨(k=6∨k=7∨k=8):=by omega
 rcases v with a|a|a|a
 ·have h:(rdN k:Int)=16:=by rcases a with rfl|rfl<;>rfl
  have i:ai (rdN k)*dgN k=frN k:=by rcases a with rfl|rfl<;>decide
  have f:rdN k=16:=by rcases a with rfl|rfl<;>rfl
  have u:gsI k-lsI k<128∧2^exN k=128:=by rcases a with rfl|rfl<;>decide
  rw[i] at e;rw[h,aaP,Nat.mod_eq_of_lt e];refine⟨by omega, ?_, ?_, ?_⟩
  ·unfold dh
   rw[if_neg (by omega),if_pos (by omega),if_neg n]
  ·unfold iI
   rw[if_pos f]
  ·unfold ii
   rw[if_pos f];omega
 ·subst a
  have m:ai ((rdN 3:Nat):Int)=1:=rfl;rw[m,Nat.one_mul] at e g;have o:t.d<2^ (63+1):=e;have w:2^63≤t.d∨(3≤3∧t.p=lsI 3):=g;have x:heE ((rdN 3:Nat):Int) (lsI 3) (gW 3) t=(t.p-lsI 3).toNat+if 2^63≤t.d then 1 else 0:=JK (L:=lsI 3) (j:=63) o
  have y:t.d % 2^frN 3=t.d:=Nat.mod_eq_of_lt o;have E:lsI 3= -16445:=rfl;have C:gsI 3=16320:=rfl;have B:2^exN 3=32768:=rfl;have F:kp 3=32767:=rfl;rw[x,y]
  by_cases b:2^63≤t.d
  ·rw[if_pos b]
   refine⟨by omega, ?_, ?_, ?_⟩
   ·unfold dh
    rw[if_pos (by omega),if_neg (by omega),if_neg (by omega),if_neg (fun c=>by have:=c.2;omega)]
   ·unfold iI
    rw[if_neg (by decide),if_neg (by omega)];exact aaQ b o
   ·unfold ii
    rw[if_neg (by decide),if_neg (by omega)];omega
  ·have q:=(w.resolve_left b).2
   rw[if_neg b,q];have s:(lsI 3-lsI 3).toNat+0=0:=by omega
   rw[s];refine⟨by omega, ?_, ?_, ?_⟩
   ·unfold dh
    rw[if_pos (by omega),if_pos rfl,if_neg n]
   ·unfold iI
    rw[if_neg (by decide),if_pos rfl]
   ·unfold ii
    rw[if_neg (by decide),if_pos rfl]
 ·have h:(rdN k:Int)=2:=by rcases a with rfl|rfl<;>rfl
  have f: ¬rdN k=16:=by rcases a with rfl|rfl<;>decide
  have m:ai (rdN k)=1:=by rw[h];rfl
  have i:dgN k=frN k+1:=by rcases a with rfl|rfl<;>decide
  have l:gW k=2^frN k:=by rcases a with rfl|rfl<;>rfl
  have u:gsI k-lsI k+1< (kp k:Int)∧2^exN k=kp k+1:=by rcases a with rfl|rfl<;>decide
  rw[m,Nat.one_mul,i] at e g;rw[Nat.add_sub_cancel] at g;rw[h,l,JK e]
  by_cases b:2^frN k≤t.d
  ·rw[if_pos b,LT b e]
   have r:t.d-2^frN k<2^frN k:=by rw[Nat.pow_succ] at e;omega
   refine⟨by omega, ?_, ?_, ?_⟩
   ·unfold dh
    rw[if_pos (by omega),if_neg (by omega),if_neg (by omega),if_neg (fun c=>by have:=c.1;omega)]
   ·unfold iI
    rw[if_neg f,if_neg (by omega),l,JL r];omega
   ·unfold ii
    rw[if_neg f,if_neg (by omega)];omega
  ·have q:=(g.resolve_left b).2
   rw[if_neg b,q,Nat.mod_eq_of_lt (by omega)];have s:(lsI k-lsI k).toNat+0=0:=by omega
   rw[s];refine⟨by omega, ?_, ?_, ?_⟩
   ·unfold dh
    rw[if_pos (by omega),if_pos rfl,if_neg n]
   ·unfold iI
    rw[if_neg f,if_pos rfl]
   ·unfold ii
    rw[if_neg f,if_pos rfl]
 ·have h:(rdN k:Int)=2:=by rcases a with rfl|rfl|rfl<;>rfl
  have f: ¬rdN k=16:=by rcases a with rfl|rfl|rfl<;>decide
  have m:ai (rdN k)=1:=by rw[h];rfl
  have i:dgN k=frN k+1:=by rcases a with rfl|rfl|rfl<;>decide
  have l:gW k=2^frN k:=by rcases a with rfl|rfl|rfl<;>rfl
  have u:gsI k-lsI k+1< (2^exN k:Nat):=by rcases a with rfl|rfl|rfl<;>decide
  rw[m,Nat.one_mul,i] at e g;rw[Nat.add_sub_cancel] at g;have b:2^frN k≤t.d:=g.resolve_right (fun c=>by have:=c.1;omega)
  rw[h,l,JK e,if_pos b,LT b e];have r:t.d-2^frN k<2^frN k:=by rw[Nat.pow_succ] at e;omega
  refine⟨by omega, ?_, ?_, ?_⟩
  ·unfold dh
   rw[if_neg (by omega),if_neg (by omega),if_neg (by omega)]
  ·unfold iI
   rw[if_neg f,if_neg (by omega),l,JL r];omega
  ·unfold ii
   rw[if_neg f,if_neg (by omega)];omega
theorem iq {k:Nat}(r:1≤k∧k≤8){ng:Bool}{E F:Nat}(q:E<2^exN k)(hF:F<2^frN k)(b:dh k ng E F=2):ji k ng E F=bare ⟨ng,iI k E F,wdI (rdN k)*ii k E⟩:=by
 unfold ji
 by_cases e:k=3
 ·subst e
  rw[if_pos rfl];unfold dh at b;rw[if_pos (show 3≤3 by omega),show kp 3=2^exN 3-1 from rfl] at b
  have p:2≤2^exN 3:=by decide
  have m:F<2^64:=hF;have o:gW 3=2^63:=rfl;unfold iI ii;rw[if_neg (show¬rdN 3=16 by decide),if_neg (show¬rdN 3=16 by decide),o]
  generalize(2:Nat)^exN 3=px at*
  by_cases a:E=0
  ·rw[if_neg (show¬(E+1=px∨0<E∧F<2^ (dgN 3-1)) by omega),if_pos a,if_pos a]
   subst a;simp
  ·rw[if_neg a] at b
   by_cases c:E=px-1
   ·rw[if_pos c] at b
    by_cases l:F=(if 3=3 then 2^63 else 0)
    ·rw[if_pos l] at b
     omega
    ·rw[if_neg l] at b
     omega
   ·rw[if_neg c] at b
    have g: ¬F<2^63:=fun g=>by
     rw[if_pos ⟨rfl,g⟩] at b;omega
    rw[if_neg (show¬(E+1=px∨0<E∧F<2^ (dgN 3-1)) from fun h=>by
     rcases h with h|h
     ·omega
     ·exact g h.2),if_neg a,if_neg a,adg (by omega) m,show lsI 3+(((E-1:Nat):Nat):Int)=lsI 3+(E:Int)-1 from by omega]
 ·rw[if_neg e]
  by_cases i:k≤2
  ·rw[if_pos i]
   have d:frN k=dgN k-1∧rdN k=2∧2≤2^exN k:=by rcases(show k=1∨k=2 by omega) with rfl|rfl<;>decide
   unfold dh at b;rw[if_pos (show k≤3 by omega),show kp k=2^exN k-1 from rfl,if_neg e] at b
   rw[d.1] at hF;unfold iI ii;rw[if_neg (show¬rdN k=16 by omega),if_neg (show¬rdN k=16 by omega)]
   have p:=d.2.2;have n:gW k=2^ (dgN k-1):=rfl;rw[n]
   by_cases a:E=0
   ·rw[if_neg (show¬E+1=2^exN k by omega),if_pos a,if_pos a,if_neg (show¬0<E by omega)]
    subst a;simp
   ·rw[if_neg a] at b
    by_cases c:E=2^exN k-1
    ·rw[if_pos c] at b
     split at b<;>omega
    ·rw[if_neg (show¬E+1=2^exN k by omega),if_neg a,if_neg a,if_pos (show 0<E by omega),YZ hF,show lsI k+(((E-1:Nat):Nat):Int)=lsI k+(E:Int)-1 from by omega]
  ·rw[if_neg i]
   by_cases f:k≤5
   ·rw[if_pos f]
    have j:rdN k=16:=by rcases(show k=4∨k=5 by omega) with rfl|rfl<;>rfl
    unfold iI ii;rw[if_pos j,if_pos j]
   ·rw[if_neg f]
    have d:frN k=dgN k-1∧rdN k=2:=by rcases(show k=6∨k=7∨k=8 by omega) with rfl|rfl|rfl<;>decide
    rw[d.1] at hF;unfold dh at b;rw[if_neg (show¬k≤3 by omega),if_neg f] at b
    have a:E≠0:=fun a=>by
     rw[if_pos a] at b
     split at b<;>omega
    unfold iI ii;rw[if_neg (show¬rdN k=16 by omega),if_neg (show¬rdN k=16 by omega),if_neg a,if_neg a,if_neg a,show gW k=2^ (dgN k-1) from rfl,YZ hF]
theorem digitsOf_any (x:ak)(k:Nat)(U:Option Addr)(T:Nat)(w:World)(rx:Rd w .i64 (yS U x.n T) (Dg.dg 65536 x.n))(B:x.n<2^64)(C: -16500≤x.e)(D:x.e≤16500)(N:x.n≠0)(a2:1≤k)(a3:k≤60):
  yC 55 #[ydV x.s (yS U x.n T) x.e,yi k] w (yR w (.tuple #[.string (dgS x k),yi (prN (dcH x) (dcC x) (dcP x) k)])):=by
 obtain⟨a,Z⟩: ∃a,a=64:=⟨_,rfl⟩;obtain⟨c,hc⟩: ∃c,c=16564:=⟨_,rfl⟩;obtain⟨Q,R,i3⟩:=dqN_in Z hc (by rw[Z];exact B) C D;have hP:=dcP_in B C D N;have hL:=dc_less B C D N;obtain⟨a1,hr⟩:=dg_round (k:=k) B C D N a2 a3 rfl rfl;obtain⟨up,a4⟩: ∃up:Int,(k:Int)-1-dcP x=up:=⟨_,rfl⟩;rw[a4] at a1 hr;obtain⟨d1,d2,d3,d4,d5⟩:=dc_all B C D N;have hQ:prQ (dcH x) (dcC x) k≤10^k:=prQ_le d1 (by omega);have a5:prQ (dcH x) (dcC x) k<10^ (k+1):=Nat.lt_of_le_of_lt hQ (Nat.pow_lt_pow_right (by omega) (by omega));have ac:=decS_le a5 (by omega);have ap:(Dg.dg 65536 x.n).length≤5:=UI (k:=a) (by rw[Z];exact Nat.le_of_lt B) (by omega);have ab:(Dg.dg 65536 (dqN x)).length≤2000:=UI (k:=c) (Nat.le_of_lt Q) (by omega);have a9:(Dg.dg 65536 (dqD x)).length≤2000:=UI (k:=c) R (by omega);obtain⟨f,hf⟩: ∃f,f=24400:=⟨_,rfl⟩;have a7: ∀K,K≤6100→10^K≤2^f:=fun K O=>Nat.le_trans (ten_two4 K) (Nat.pow_le_pow_right (by omega) (by omega))
 have Y: ∀K,K≤6100→(Dg.dg 65536 (10^K)).length≤3060:=fun K O=>ten_len (K:=K) (Nat.pow_le_pow_right (by omega) (by omega)) O
 have a0: ∀m K,m≤2^c→K≤6100→(Dg.dg 65536 (m*10^K)).length≤4000:=fun m K hm O=>by
  have g:=a7 K O;refine UI (k:=c+f) ?_ (by omega);rw[Nat.pow_add];exact Nat.mul_le_mul hm g
 have ae:=bF (dqN x) c Q;have ad:bitLen (dqD x)≤c+1:=bF (dqD x) (c+1) (Nat.lt_of_le_of_lt R (Nat.pow_lt_pow_right (by omega) (by omega)));have W: ∀(m n:Nat) z y v u d,Rd d .i64 (yS z m y) (Dg.dg 65536 m)→Rd d .i64 (yS v n u) (Dg.dg 65536 n)→yC 23 #[yS z m y,yS v n u] d (yR d (yi (dm (m:Nat) (n:Nat)))):=fun m n z y v u d g i=>by
  have:=fm _ _ _ _ d g i (Dg.small_dg _ _ (by omega)) (Dg.small_dg _ _ (by omega)) (Dg.norm_dg _ _ (by omega)) (Dg.norm_dg _ _ (by omega))
  rwa [Dg.vl_dg _ _ (by omega),Dg.vl_dg _ _ (by omega)] at this
 have X: ∀(m n:Nat) z y v u d,(Dg.dg 65536 m).length≤5000→(Dg.dg 65536 n).length≤5000→Rd d .i64 (yS z m y) (Dg.dg 65536 m)→Rd d .i64 (yS v n u) (Dg.dg 65536 n)→yC 52 #[yS z m y,yS v n u] d (cG d (m*n)):=fun m n z y v u d l1 S g i=>by
  have:=fN _ _ _ _ d g i (Dg.small_dg _ _ (by omega)) (Dg.small_dg _ _ (by omega)) (by omega) (by omega)
  rwa [Dg.vl_dg _ _ (by omega),Dg.vl_dg _ _ (by omega)] at this
 have cm: ∀m n:Nat,decide (0<dm (m:Nat) (n:Nat))=decide (n<m):=fun m n=>by
  refine decide_eq_decide.2 ?_;unfold dm
  split
  ·omega
  ·split<;>omega
 have HO: ∀(p:Int) J M no j o l d,-6000≤p→p≤6000→yB w d→d.rangeAt J 0 [.slice no (Dg.dg 65536 (dqN x)).length j]→d.rangeAt M 0 [.slice o (Dg.dg 65536 (dqD x)).length l]→Rd d .i64 (.slice no (Dg.dg 65536 (dqN x)).length j) (Dg.dg 65536 (dqN x))→Rd d .i64 (.slice o (Dg.dg 65536 (dqD x)).length l) (Dg.dg 65536 (dqD x))→yC 94 #[yi p,.pointer (some ⟨M,0,none⟩),.pointer (some ⟨J,0,none⟩)] d (yR d (.bool (decide (dcP x<p)))):=fun p J M no j o l d l1 S _ g1 g2 r1 r2=>by
  by_cases hp:0≤p
  ·have E:=hL p
   obtain⟨q,rfl⟩: ∃q:Nat,p=(q:Int):=⟨p.toNat,by omega⟩;rw[show(-(q:Int)).toNat=0 by omega,Int.toNat_natCast,Nat.pow_zero,Nat.mul_one] at E
   exact over_up (dqN x) (dqD x) (dqD x*10^q) (10^q) q no o j l J M _ _ d g1 g2 r1 r2 (by rw[cm];exact decide_eq_decide.2 E) hp (fun r _=>power10_any q r (by omega)) (fun o l G F r _ g i=>X _ _ o l G F r (by omega) (by have:=Y q (by omega);omega) g i) (fun I H no j r _ g i=>W _ _ I H no j r g i)
  ·have E:=hL p
   obtain⟨q,A⟩: ∃q:Nat,-p=(q:Int):=⟨(-p).toNat,by omega⟩;rw[A,Int.toNat_natCast,show p.toNat=0 by omega,Nat.pow_zero,Nat.mul_one] at E
   exact over_down (dqN x) (dqD x) (dqN x*10^q) (10^q) p no o j l J M _ (q:Int) _ d g1 g2 r1 r2 (by rw[cm];exact decide_eq_decide.2 E) hp (by rw[A];exact IntWalk.i64_in _ ⟨by omega,by omega⟩) (fun r _=>power10_any q r (by omega)) (fun no j G F r _ g i=>X _ _ no j G F r (by omega) (by have:=Y q (by omega);omega) g i) (fun o l I H r _ g i=>W _ _ o l I H r g i)
 obtain⟨t,ao⟩: ∃t:Nat,t=up.natAbs:=⟨_,rfl⟩;have a8:0<dqD x*10^ (-up).toNat:=Nat.mul_pos i3 (Nat.pow_pos (by omega));have S:(Dg.dg 65536 (dqN x*10^up.toNat)).length≤4000:=a0 _ _ (Nat.le_of_lt Q) (by omega);have l3:(Dg.dg 65536 (dqD x*10^ (-up).toNat)).length≤4000:=a0 _ _ R (by omega);have an:(Dg.dg 65536 (dqN x*10^up.toNat % (dqD x*10^ (-up).toNat))).length≤4000:=Nat.le_trans (aH 65536 _ _ (by omega) (Nat.mod_le _ _)) S;have al:(Dg.dg 65536 (dqN x*10^up.toNat/(dqD x*10^ (-up).toNat))).length≤4000:=Nat.le_trans (aH 65536 _ _ (by omega) (Nat.div_le_self _ _)) S;have a6:(Dg.dg 65536 (prQ (dcH x) (dcC x) k)).length≤100:=by
  obtain⟨b,hb⟩: ∃b,b=244:=⟨_,rfl⟩;exact UI (k:=b) (Nat.le_trans hQ (Nat.le_trans (ten_two4 k) (Nat.pow_le_pow_right (by omega) (by omega)))) (by omega)
 have hS:((oW (prQ (dcH x) (dcC x) k)).size≤1000∧((k< (oW (prQ (dcH x) (dcC x) k)).size∧dgS x k=(oW (prQ (dcH x) (dcC x) k)).extract 0 k∧prN (dcH x) (dcC x) (dcP x) k=dcP x+1)∨((oW (prQ (dcH x) (dcC x) k)).size≤k∧dgS x k=oW (prQ (dcH x) (dcC x) k)∧prN (dcH x) (dcC x) (dcP x) k=dcP x))):=by
  refine⟨by omega, ?_⟩;unfold dgS prN
  by_cases h:k< (oW (prQ (dcH x) (dcC x) k)).size
  ·exact .inl ⟨h,if_pos h,if_pos h⟩
  ·exact .inr ⟨by omega,if_neg h,if_neg h⟩
 have q4:(((bitLen (dqN x):Int)-(bitLen (dqD x):Int)-1)*30).tdiv 100≤5400∧ -5400≤(((bitLen (dqN x):Int)-(bitLen (dqD x):Int)-1)*30).tdiv 100:=(tdiv_in (by omega) (by omega)).symm;refine digitsOf_W x (dqN x) (dqD x) (dqN x*10^up.toNat) (dqD x*10^ (-up).toNat) (10^t) (2^c) _ (dqN x*10^up.toNat % (dqD x*10^ (-up).toNat)) (dqN x*10^up.toNat % (dqD x*10^ (-up).toNat)*2) (prQ (dcH x) (dcC x) k) k (dcP x) ((((bitLen (dqN x):Int)-(bitLen (dqD x):Int)-1)*30).tdiv 100-2) ((bitLen (dqN x):Int)-(bitLen (dqD x):Int)) ((bitLen (dqN x):Int)-(bitLen (dqD x):Int)-1) (((bitLen (dqN x):Int)-(bitLen (dqD x):Int)-1)*30) ((((bitLen (dqN x):Int)-(bitLen (dqD x):Int)-1)*30).tdiv 100) (bitLen (dqN x):Int) (bitLen (dqD x):Int) ((k:Int)-1) up (t:Int) (-x.e) _ _ _ _ U T w rx ?_ ?_ ?_ ?_ ?_ ?_ ?_ ?_ ⟨a2,a3⟩ ?_ ?_ ?_ ?_ hr a1 hS ?_ ?_ ?_ ?_ HO ?_ ?_ ?_ ?_ ?_ ?_ ?_
 ·by_cases P:0≤x.e
  ·exact .inl ⟨P,by unfold dqD;rw[show(-x.e).toNat=0 by omega,Nat.pow_zero]⟩
  ·exact .inr ⟨P,by unfold dqN;rw[show x.e.toNat=0 by omega,Nat.pow_zero,Nat.mul_one]⟩
 ·intro _
  exact IntWalk.i64_in _ ⟨by omega,by omega⟩
 ·exact IntWalk.i64_in _ ⟨by omega,by omega⟩
 ·exact IntWalk.i64_in _ ⟨by omega,by omega⟩
 ·exact IntWalk.i64_in _ ⟨by omega,by omega⟩
 ·exact IntWalk.i64_in _ ⟨by omega,by omega⟩
 ·exact IntWalk.i64_in _ ⟨by omega,by omega⟩
 ·exact⟨by omega,by omega,by omega,by omega⟩
 ·exact IntWalk.i64_in _ ⟨by omega,by omega⟩
 ·rw[a4]
  exact IntWalk.i64_in _ ⟨by omega,by omega⟩
 ·by_cases hu:0≤up
  ·exact .inl ⟨hu,by omega,by rw[show(-up).toNat=0 by omega,Nat.pow_zero,Nat.mul_one],by rw[show up.toNat=t by omega]⟩
  ·exact .inr ⟨hu,by rw[IntWalk.i64_in _ ⟨by omega,by omega⟩];omega,by rw[show up.toNat=0 by omega,Nat.pow_zero,Nat.mul_one],by rw[show(-up).toNat=t by omega]⟩
 ·exact⟨Nat.le_of_lt Q,R⟩
 ·intro P U T d _ h
  have:=kD _ _ x.e.toNat d h (Dg.small_dg _ _ (by omega)) (by omega) (by omega);rw[Dg.vl_dg _ _ (by omega),show((x.e.toNat:Nat):Int)=x.e by omega] at this
  exact this
 ·intro P d _
  have:=pf (-x.e).toNat ((-x.e).toNat/16) ((-x.e).toNat % 16) d (by omega) (by omega) (by omega);rw[show(((-x.e).toNat:Nat):Int)= -x.e by omega] at this
  exact this
 ·intro no j d _ h
  exact vK _ _ d h (by omega)
 ·intro no j d _ h
  exact vK _ _ d h (by omega)
 ·intro d _
  exact power10_any t d (by omega)
 ·intro m I H G F d hm _ g i
  exact X _ _ I H G F d (Nat.le_trans (UI (L:=2000) hm (by omega)) (by omega)) (by have:=Y t (by omega);omega) g i
 ·intro no j o l d _ g i
  exact qM _ _ _ _ d g i (by omega) (by omega) a8
 ·intro ro rc q d _ g A
  have:=fN _ _ _ _ d g (rd_two A) (Dg.small_dg _ _ (by omega)) (Dg.small_dg _ _ (by omega)) (by omega) (by decide)
  rwa [Dg.vl_dg _ _ (by omega),Dg.vl_dg _ _ (by omega)] at this
 ·intro so sc o l d _ g i
  exact W _ _ so sc o l d g i
 ·intro go gc b d _ h A
  have:=ew _ _ _ _ d h (rd_onE A) (Dg.small_dg _ _ (by omega)) (Dg.small_dg _ _ (by omega)) (Dg.norm_dg _ _ (by omega)) (Dg.norm_dg _ _ (by omega)) (by omega) (by decide)
  rwa [Dg.vl_dg _ _ (by omega),Dg.vl_dg _ _ (by omega)] at this
 ·intro go gc d _ h
  exact Kc _ _ 100 d h a6 (by omega)
end Go.Proofs.YtlhkndcmbpcpgaaGreatDoor
