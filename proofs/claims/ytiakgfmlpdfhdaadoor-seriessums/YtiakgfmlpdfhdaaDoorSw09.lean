/-
  Texts laid together: Sp8.
-/
import Derived.Test.YtiakgfmlpdfhdaaDoorSw08
namespace Go.Proofs.YtiakgfmlpdfhdaaDoor
open Go.RowKit
def fourT (a b p q:ak):Nat→ak
 |0=>aK a p
 |1=>aK a q
 |2=>aK b p
 |_=>aK b q
def four' {α:Type}(a b c d:α):Nat→α
 |0=>a
 |1=>b
 |2=>c
 |_=>d
theorem stimes_any (v u:Value)(a b p q:ak)(w:World)(hv:SpanV w v a b)(hu:SpanV w u p q)(fa:FitsT a)(fb:FitsT b)(fp:FitsT p)(fq:FitsT q)(hx: ∀j,FitsT (fourT a b p q j)):
  yC 56 #[v,u] w (aeT w (loT (fourT a b p q) 3) (hiT (fourT a b p q) 3)):=by
 obtain⟨s1,s2,rfl,r1,r2⟩:=hv;obtain⟨s3,s4,rfl,r3,r4⟩:=hu;obtain⟨ao,ac,rfl⟩:=r1.shape;obtain⟨bo,bc,rfl⟩:=r2.shape;obtain⟨po,pc,rfl⟩:=r3.shape;obtain⟨qo,qc,rfl⟩:=r4.shape;have la:=fa.len;have lb:=fb.len;have lp':=fp.len;have lq:=fq.len;obtain⟨-,a1,a2⟩:=fa;obtain⟨-,b1,b2⟩:=fb;obtain⟨-,p1,p2⟩:=fp;obtain⟨-,q1,q2⟩:=fq;refine spanTimes_W a b p q _ _ _ _ _ _ _ _ (aK a p) (aK a q) (aK b p) (aK b q) _ _ w
  (fun w1 hb=>(Ac _ _ a p w1 ⟨_,rfl,r1.l hb⟩ ⟨_,rfl,r3.l hb⟩ (by omega) (by omega) (by omega) (by omega) (by omega) (by omega)).mono fun _ _ h=>h.vres)
  (fun w1 hb=>(Ac _ _ a q w1 ⟨_,rfl,r1.l hb⟩ ⟨_,rfl,r4.l hb⟩ (by omega) (by omega) (by omega) (by omega) (by omega) (by omega)).mono fun _ _ h=>h.vres)
  (fun w1 hb=>(Ac _ _ b p w1 ⟨_,rfl,r2.l hb⟩ ⟨_,rfl,r3.l hb⟩ (by omega) (by omega) (by omega) (by omega) (by omega) (by omega)).mono fun _ _ h=>h.vres)
  (fun w1 hb=>(Ac _ _ b q w1 ⟨_,rfl,r2.l hb⟩ ⟨_,rfl,r4.l hb⟩ (by omega) (by omega) (by omega) (by omega) (by omega) (by omega)).mono fun _ _ h=>h.vres) ?_
 intro pb x0o x1o x2o x3o x0c x1c x2c x3c w1 hb hl k0 k1 k2 k3;have hr: ∀j,j<4→Rd w1 .u32 (.slice (four' x0o x1o x2o x3o j) (Dg.dg 4294967296 (fourT a b p q j).n).length (four' x0c x1c x2c x3c j)) (Dg.dg 4294967296 (fourT a b p q j).n):=by
  intro j hj
  match j,hj with
  |0,_=>exact k0
  |1,_=>exact k1
  |2,_=>exact k2
  |3,_=>exact k3
 have h:=FN pb 4 (fourT a b p q) (four' x0o x1o x2o x3o) (four' x0c x1c x2c x3c) w1 (by omega) (by omega) hl.lt
  (fun j hj=>by match j,hj with
   |0,_=>exact hl.c 0 rfl
   |1,_=>exact hl.c 3 rfl
   |2,_=>exact hl.c 6 rfl
   |3,_=>exact hl.c 9 rfl)
  (fun j hj=>by match j,hj with
   |0,_=>exact hl.c 1 rfl
   |1,_=>exact hl.c 4 rfl
   |2,_=>exact hl.c 7 rfl
   |3,_=>exact hl.c 10 rfl)
  (fun j hj=>by match j,hj with
   |0,_=>exact hl.c 2 rfl
   |1,_=>exact hl.c 5 rfl
   |2,_=>exact hl.c 8 rfl
   |3,_=>exact hl.c 11 rfl)
  (fun j k w2 hj hk q2=>by
   have l1:=(hx j).len;have l2:=(hx k).len;obtain⟨-,e1,e2⟩:=hx j;obtain⟨-,e3,e4⟩:=hx k;exact iE _ _ (fourT a b p q j) (fourT a b p q k) w2 ⟨_,rfl,(hr j hj).l q2⟩ ⟨_,rfl,(hr k hk).l q2⟩ (by omega) (by omega) (by omega) (by omega) (by omega) (by omega))
 refine h.mono ?_;rintro z w2 ⟨rfl,q2⟩;exact⟨_,_,rfl,(hr (loI (fourT a b p q) 3) (by have:=tB (fourT a b p q) 3;omega)).l q2,(hr (hiI (fourT a b p q) 3) (by have:=wN (fourT a b p q) 3;omega)).l q2,q2⟩
theorem V_by18 (k:Nat)(a:ak):V k (aK a ⟨false,18,0⟩)=18*V k a:=by
 rw[eV,eV]
 show sz (a.s != false) (a.n*18*2^ (a.e+0+(k:Int)).toNat)=_
 rw[show a.e+0+(k:Int)=a.e+(k:Int) by omega,Nat.mul_right_comm]
 generalize a.n*2^ (a.e+(k:Int)).toNat=m;unfold sz
 cases a.s<;>simp<;>omega
theorem four18 {k:Nat}{a b:ak}(ea: -(k:Int)≤a.e)(eb: -(k:Int)≤b.e)(h:V k a≤V k b):
  V k (loT (fourT a b ⟨false,18,0⟩ ⟨false,18,0⟩) 3)=18*V k a∧V k (hiT (fourT a b ⟨false,18,0⟩ ⟨false,18,0⟩) 3)=18*V k b:=by
 have he: ∀j,j≤3→ -(k:Int)≤(fourT a b ⟨false,18,0⟩ ⟨false,18,0⟩ j).e:=by
  intro j hj
  match j,hj with
  |0,_=>show _≤a.e+0;omega
  |1,_=>show _≤a.e+0;omega
  |2,_=>show _≤b.e+0;omega
  |3,_=>show _≤b.e+0;omega
 have hv: ∀j,j≤3→V k (fourT a b ⟨false,18,0⟩ ⟨false,18,0⟩ j)=18*V k a∨V k (fourT a b ⟨false,18,0⟩ ⟨false,18,0⟩ j)=18*V k b:=by
  intro j hj
  match j,hj with
  |0,_=>exact .inl (V_by18 k a)
  |1,_=>exact .inl (V_by18 k a)
  |2,_=>exact .inr (V_by18 k b)
  |3,_=>exact .inr (V_by18 k b)
 have l1:=Al (K:=k) _ 3 he 0 (by omega);have l2:=Ao (K:=k) _ 3 he 2 (by omega);rw[show fourT a b ⟨false,18,0⟩ ⟨false,18,0⟩ 0=aK a ⟨false,18,0⟩ from rfl,V_by18] at l1
 rw[show fourT a b ⟨false,18,0⟩ ⟨false,18,0⟩ 2=aK b ⟨false,18,0⟩ from rfl,V_by18] at l2
 obtain⟨j1,g1,g2⟩:=Po (fourT a b ⟨false,18,0⟩ ⟨false,18,0⟩) 3;obtain⟨j2,g3,g4⟩:=Pp (fourT a b ⟨false,18,0⟩ ⟨false,18,0⟩) 3;have m1:=hv j1 g1;have m2:=hv j2 g3;rw[←g2] at m1;rw[←g4] at m2;omega
theorem four_e {a b:ak}{E:Int}(ea:a.e=E)(eb:b.e=E):(loT (fourT a b ⟨false,18,0⟩ ⟨false,18,0⟩) 3).e=E∧(hiT (fourT a b ⟨false,18,0⟩ ⟨false,18,0⟩) 3).e=E:=by
 have he: ∀j,j≤3→(fourT a b ⟨false,18,0⟩ ⟨false,18,0⟩ j).e=E:=by
  intro j hj
  match j,hj with
  |0,_=>show a.e+0=E;omega
  |1,_=>show a.e+0=E;omega
  |2,_=>show b.e+0=E;omega
  |3,_=>show b.e+0=E;omega
 exact⟨kP _ 3 (fun t=>t.e=E) he,kQ _ 3 (fun t=>t.e=E) he⟩
end Go.Proofs.YtiakgfmlpdfhdaaDoor
