/-
  Texts laid together: Co3, Co17, Tx2, Co4, Gh5, Gh7, Eh2.
-/
import Derived.Test.YtlgkfdcmokchgaaGreatDoorUt30
import Derived.Test.YtlgkfdcmokchgaaGreatDoorUt31
set_option maxRecDepth 100000
set_option maxHeartbeats 3200000
namespace Go.Proofs.YtlgkfdcmokchgaaGreatDoor
open _root_.Go.Proofs.Tryz
open Go.RowKit
theorem uU (w:World):yC 79 #[yi 1] w (tC w 1 0):=
 kC 1 _ _ _ _ _ _ _ 1 _ _ _ w rfl (jk 1) jG (fun W=>by kernel_rfl)
theorem uV (w:World):yC 79 #[yi 2] w (tC w 2 0):=
 kC 2 _ _ _ _ _ _ _ 1 _ _ _ w rfl (jk 2) jG (fun W=>by kernel_rfl)
theorem uW (w:World):yC 79 #[yi 3] w (tC w 3 0):=
 kC 3 _ _ _ _ _ _ _ 1 _ _ _ w rfl (jk 3) jG (fun W=>by kernel_rfl)
theorem uX (w:World):yC 79 #[yi 4] w (tC w 4 0):=
 kC 4 _ _ _ _ _ _ _ 2 _ _ _ w rfl (jk 4) jG (fun W=>by kernel_rfl)
theorem uY (w:World):yC 79 #[yi 5] w (tC w 5 0):=
 kC 5 _ _ _ _ _ _ _ 2 _ _ _ w rfl (jk 5) jG (fun W=>by kernel_rfl)
theorem uZ (w:World):yC 79 #[yi 6] w (tC w 6 0):=
 kC 6 _ _ _ _ _ _ _ 3 _ _ _ w rfl (jk 6) jG (fun W=>by kernel_rfl)
theorem vf (w:World):yC 79 #[yi 7] w (tC w 7 0):=
 kC 7 _ _ _ _ _ _ _ 3 _ _ _ w rfl (jk 7) jG (fun W=>by kernel_rfl)
theorem vh (w:World):yC 79 #[yi 8] w (tC w 8 0):=
 kC 8 _ _ _ _ _ _ _ 3 _ _ _ w rfl (jk 8) jG (fun W=>by kernel_rfl)
theorem pU (k:Nat)(hk:1≤k∧k≤8)(w:World):yC 79 #[yi k] w (tC w k 0):=by
 rcases bO hk with rfl|rfl|rfl|rfl|rfl|rfl|rfl|rfl
 ·exact uU w
 ·exact uV w
 ·exact uW w
 ·exact uX w
 ·exact uY w
 ·exact uZ w
 ·exact vf w
 ·exact vh w
theorem tread_bad (tx rz ro af wh be:ByteArray)(ng po:Bool)(pw:Int)(w:World)(h4:tx.size≤400)
  (HP:yJ 102 #[.string tx,.string ⟨#[45]⟩] (.tuple #[.string rz,.bool ng]))
  (HE:yH w 103 #[.string rz,.string ⟨#[101]⟩] (.tuple #[.string ro,.string af,.bool true]))
  (HR:yJ 104 #[.string af] (.tuple #[yi pw,.bool false]))
  (HQ:yH w 103 #[.string ro,.string ⟨#[46]⟩] (.tuple #[.string wh,.string be,.bool po])):
  yC 73 #[.string tx] w (yR w (.tuple #[.agg #[.bool false,.string ⟨#[]⟩,yi 0],yi 1])):=by
 replace HP:Hid _:=HP;replace HE:Hid _:=HE;replace HR:Hid _:=HR;replace HQ:Hid _:=HQ;obtain⟨W3,hW4,q1,b2⟩:=cA w [.bool false,.string ⟨#[]⟩,yi 0] 136;replace hW4:Hid _:=hW4
 go_enter func73,ntmps73
 go_upto_region 1 with fail
 rw[hW4.out];clear hW4
 go_wp2_with fail
 refine(HP.out _).mono ?_;rintro zz w5 ⟨rfl,bb6⟩;have q7:=q1.l bb6;have b8:=aa b2 bb6;clear q1 b2 bb6 HP
 go_wp2_with fail
 refine(HE.out _ b8).mono ?_;rintro zz w9 ⟨rfl,bb10⟩;have q11:=q7.l bb10;have b12:=aa b8 bb10;clear q7 b8 bb10 HE
 go_wp2_with fail
 refine(HR.out _).mono ?_;rintro zz w13 ⟨rfl,bb14⟩;have q15:=q11.l bb14;have b16:=aa b12 bb14;clear q11 b12 bb14 HR
 go_wp2_with fail
 refine(HQ.out _ b16).mono ?_;rintro zz w17 ⟨rfl,bb18⟩;have q19:=q15.l bb18;have b20:=aa b16 bb18;clear q15 b16 bb18 HQ;have hf:=afy (P:=Tryz.prog) q19 b20 (by omega) underlying136 rfl (by kernel_rfl) (.bool false) (.string ⟨#[]⟩) (yi 0);have HH:Hid (_∧_):=⟨hf.1,hf.2.1⟩;obtain⟨⟨z0,z1,z2⟩,y0,y1,y2⟩:=afA q19;clear hf q19 b20
 go_wp2
 obtain⟨hl,bR⟩:=HH.out;exact bodyPost_ret (aj results73 rfl rfl hl) rfl ⟨rfl,bR⟩
theorem tread_dig_n (tx rz ro af wh be:ByteArray)(ng po:Bool)(w:World)(h4:tx.size≤400)(hsz:wh.size+be.size≤400)
  (HP:yJ 102 #[.string tx,.string ⟨#[45]⟩] (.tuple #[.string rz,.bool ng]))
  (HE:yH w 103 #[.string rz,.string ⟨#[101]⟩] (.tuple #[.string ro,.string af,.bool false]))
  (HQ:yH w 103 #[.string ro,.string ⟨#[46]⟩] (.tuple #[.string wh,.string be,.bool po]))
  (HD:yJ 105 #[.string (wh++be)] (.bool false)):
  yC 73 #[.string tx] w (yR w (.tuple #[.agg #[.bool false,.string ⟨#[]⟩,yi 0],yi 1])):=by
 replace HP:Hid _:=HP;replace HE:Hid _:=HE;replace HQ:Hid _:=HQ;replace HD:Hid _:=HD;obtain⟨W3,hW4,q1,b2⟩:=cA w [.bool false,.string ⟨#[]⟩,yi 0] 136;replace hW4:Hid _:=hW4
 go_enter func73,ntmps73
 go_upto_region 1 with fail
 rw[hW4.out];clear hW4
 go_wp2_with fail
 refine(HP.out _).mono ?_;rintro zz w5 ⟨rfl,bb6⟩;have q7:=q1.l bb6;have b8:=aa b2 bb6;clear q1 b2 bb6 HP
 go_wp2_with fail
 refine(HE.out _ b8).mono ?_;rintro zz w9 ⟨rfl,bb10⟩;have q11:=q7.l bb10;have b12:=aa b8 bb10;clear q7 b8 bb10 HE
 go_wp2_with fail
 refine(HQ.out _ b12).mono ?_;rintro zz w13 ⟨rfl,bb14⟩;have q15:=q11.l bb14;have b16:=aa b12 bb14;clear q11 b12 bb14 HQ
 go_wp2_with fail
 refine(HD.out _).mono ?_;rintro zz w17 ⟨rfl,bb18⟩;have q19:=q15.l bb18;have b20:=aa b16 bb18;clear q15 b16 bb18 HD;have hf:=afy (P:=Tryz.prog) q19 b20 (by omega) underlying136 rfl (by kernel_rfl) (.bool false) (.string ⟨#[]⟩) (yi 0);have HH:Hid (_∧_):=⟨hf.1,hf.2.1⟩;obtain⟨⟨z0,z1,z2⟩,y0,y1,y2⟩:=afA q19;clear hf q19 b20
 go_wp2
 obtain⟨hl,bR⟩:=HH.out;exact bodyPost_ret (aj results73 rfl rfl hl) rfl ⟨rfl,bR⟩
theorem tread_dig_e (tx rz ro af wh be:ByteArray)(ng po:Bool)(pw:Int)(w:World)(h4:tx.size≤400)(hsz:wh.size+be.size≤400)
  (HP:yJ 102 #[.string tx,.string ⟨#[45]⟩] (.tuple #[.string rz,.bool ng]))
  (HE:yH w 103 #[.string rz,.string ⟨#[101]⟩] (.tuple #[.string ro,.string af,.bool true]))
  (HR:yJ 104 #[.string af] (.tuple #[yi pw,.bool true]))
  (HQ:yH w 103 #[.string ro,.string ⟨#[46]⟩] (.tuple #[.string wh,.string be,.bool po]))
  (HD:yJ 105 #[.string (wh++be)] (.bool false)):
  yC 73 #[.string tx] w (yR w (.tuple #[.agg #[.bool false,.string ⟨#[]⟩,yi 0],yi 1])):=by
 replace HP:Hid _:=HP;replace HE:Hid _:=HE;replace HR:Hid _:=HR;replace HQ:Hid _:=HQ;replace HD:Hid _:=HD;obtain⟨W3,hW4,q1,b2⟩:=cA w [.bool false,.string ⟨#[]⟩,yi 0] 136;replace hW4:Hid _:=hW4
 go_enter func73,ntmps73
 go_upto_region 1 with fail
 rw[hW4.out];clear hW4
 go_wp2_with fail
 refine(HP.out _).mono ?_;rintro zz w5 ⟨rfl,bb6⟩;have q7:=q1.l bb6;have b8:=aa b2 bb6;clear q1 b2 bb6 HP
 go_wp2_with fail
 refine(HE.out _ b8).mono ?_;rintro zz w9 ⟨rfl,bb10⟩;have q11:=q7.l bb10;have b12:=aa b8 bb10;clear q7 b8 bb10 HE
 go_wp2_with fail
 refine(HR.out _).mono ?_;rintro zz w13 ⟨rfl,bb14⟩;have q15:=q11.l bb14;have b16:=aa b12 bb14;clear q11 b12 bb14 HR
 go_wp2_with fail
 refine(HQ.out _ b16).mono ?_;rintro zz w17 ⟨rfl,bb18⟩;have q19:=q15.l bb18;have b20:=aa b16 bb18;clear q15 b16 bb18 HQ
 go_wp2_with fail
 refine(HD.out _).mono ?_;rintro zz w21 ⟨rfl,bb22⟩;have q23:=q19.l bb22;have b24:=aa b20 bb22;clear q19 b20 bb22 HD;have hf:=afy (P:=Tryz.prog) q23 b24 (by omega) underlying136 rfl (by kernel_rfl) (.bool false) (.string ⟨#[]⟩) (yi 0);have HH:Hid (_∧_):=⟨hf.1,hf.2.1⟩;obtain⟨⟨z0,z1,z2⟩,y0,y1,y2⟩:=afA q23;clear hf q23 b24
 go_wp2
 obtain⟨hl,bR⟩:=HH.out;exact bodyPost_ret (aj results73 rfl rfl hl) rfl ⟨rfl,bR⟩
theorem tread_pt_n (tx rz ro af wh:ByteArray)(ng:Bool)(w:World)(h4:tx.size≤400)(hsz:wh.size≤400)
  (HP:yJ 102 #[.string tx,.string ⟨#[45]⟩] (.tuple #[.string rz,.bool ng]))
  (HE:yH w 103 #[.string rz,.string ⟨#[101]⟩] (.tuple #[.string ro,.string af,.bool false]))
  (HQ:yH w 103 #[.string ro,.string ⟨#[46]⟩] (.tuple #[.string wh,.string ⟨#[]⟩,.bool true]))
  (HD:yJ 105 #[.string (wh++⟨#[]⟩)] (.bool true)):
  yC 73 #[.string tx] w (yR w (.tuple #[.agg #[.bool false,.string ⟨#[]⟩,yi 0],yi 1])):=by
 replace HP:Hid _:=HP;replace HE:Hid _:=HE;replace HQ:Hid _:=HQ;replace HD:Hid _:=HD;obtain⟨W3,hW4,q1,b2⟩:=cA w [.bool false,.string ⟨#[]⟩,yi 0] 136;replace hW4:Hid _:=hW4
 go_enter func73,ntmps73
 go_upto_region 1 with fail
 rw[hW4.out];clear hW4
 go_wp2_with fail
 refine(HP.out _).mono ?_;rintro zz w5 ⟨rfl,bb6⟩;have q7:=q1.l bb6;have b8:=aa b2 bb6;clear q1 b2 bb6 HP
 go_wp2_with fail
 refine(HE.out _ b8).mono ?_;rintro zz w9 ⟨rfl,bb10⟩;have q11:=q7.l bb10;have b12:=aa b8 bb10;clear q7 b8 bb10 HE
 go_wp2_with fail
 refine(HQ.out _ b12).mono ?_;rintro zz w13 ⟨rfl,bb14⟩;have q15:=q11.l bb14;have b16:=aa b12 bb14;clear q11 b12 bb14 HQ
 go_wp2_with fail
 refine(HD.out _).mono ?_;rintro zz w17 ⟨rfl,bb18⟩;have q19:=q15.l bb18;have b20:=aa b16 bb18;clear q15 b16 bb18 HD;have hf:=afy (P:=Tryz.prog) q19 b20 (by omega) underlying136 rfl (by kernel_rfl) (.bool false) (.string ⟨#[]⟩) (yi 0);have HH:Hid (_∧_):=⟨hf.1,hf.2.1⟩;obtain⟨⟨z0,z1,z2⟩,y0,y1,y2⟩:=afA q19;clear hf q19 b20
 go_wp2
 obtain⟨hl,bR⟩:=HH.out;exact bodyPost_ret (aj results73 rfl rfl hl) rfl ⟨rfl,bR⟩
theorem tread_pt_e (tx rz ro af wh:ByteArray)(ng:Bool)(pw:Int)(w:World)(h4:tx.size≤400)(hsz:wh.size≤400)
  (HP:yJ 102 #[.string tx,.string ⟨#[45]⟩] (.tuple #[.string rz,.bool ng]))
  (HE:yH w 103 #[.string rz,.string ⟨#[101]⟩] (.tuple #[.string ro,.string af,.bool true]))
  (HR:yJ 104 #[.string af] (.tuple #[yi pw,.bool true]))
  (HQ:yH w 103 #[.string ro,.string ⟨#[46]⟩] (.tuple #[.string wh,.string ⟨#[]⟩,.bool true]))
  (HD:yJ 105 #[.string (wh++⟨#[]⟩)] (.bool true)):
  yC 73 #[.string tx] w (yR w (.tuple #[.agg #[.bool false,.string ⟨#[]⟩,yi 0],yi 1])):=by
 replace HP:Hid _:=HP;replace HE:Hid _:=HE;replace HR:Hid _:=HR;replace HQ:Hid _:=HQ;replace HD:Hid _:=HD;obtain⟨W3,hW4,q1,b2⟩:=cA w [.bool false,.string ⟨#[]⟩,yi 0] 136;replace hW4:Hid _:=hW4
 go_enter func73,ntmps73
 go_upto_region 1 with fail
 rw[hW4.out];clear hW4
 go_wp2_with fail
 refine(HP.out _).mono ?_;rintro zz w5 ⟨rfl,bb6⟩;have q7:=q1.l bb6;have b8:=aa b2 bb6;clear q1 b2 bb6 HP
 go_wp2_with fail
 refine(HE.out _ b8).mono ?_;rintro zz w9 ⟨rfl,bb10⟩;have q11:=q7.l bb10;have b12:=aa b8 bb10;clear q7 b8 bb10 HE
 go_wp2_with fail
 refine(HR.out _).mono ?_;rintro zz w13 ⟨rfl,bb14⟩;have q15:=q11.l bb14;have b16:=aa b12 bb14;clear q11 b12 bb14 HR
 go_wp2_with fail
 refine(HQ.out _ b16).mono ?_;rintro zz w17 ⟨rfl,bb18⟩;have q19:=q15.l bb18;have b20:=aa b16 bb18;clear q15 b16 bb18 HQ
 go_wp2_with fail
 refine(HD.out _).mono ?_;rintro zz w21 ⟨rfl,bb22⟩;have q23:=q19.l bb22;have b24:=aa b20 bb22;clear q19 b20 bb22 HD;have hf:=afy (P:=Tryz.prog) q23 b24 (by omega) underlying136 rfl (by kernel_rfl) (.bool false) (.string ⟨#[]⟩) (yi 0);have HH:Hid (_∧_):=⟨hf.1,hf.2.1⟩;obtain⟨⟨z0,z1,z2⟩,y0,y1,y2⟩:=afA q23;clear hf q23 b24
 go_wp2
 obtain⟨hl,bR⟩:=HH.out;exact bodyPost_ret (aj results73 rfl rfl hl) rfl ⟨rfl,bR⟩
theorem tread_lof_e (pp:Int)(tx rz ro af wh be:ByteArray)(ng:Bool)(pw:Int)(w:World)(h4:tx.size≤400)(hsz:wh.size+be.size≤400)(hpp:IntKind.i64.wrap (pw-(be.size:Int))=pp)(hl:pp< -6000)
  (HP:yJ 102 #[.string tx,.string ⟨#[45]⟩] (.tuple #[.string rz,.bool ng]))
  (HE:yH w 103 #[.string rz,.string ⟨#[101]⟩] (.tuple #[.string ro,.string af,.bool true]))
  (HR:yJ 104 #[.string af] (.tuple #[yi pw,.bool true]))
  (HQ:yH w 103 #[.string ro,.string ⟨#[46]⟩] (.tuple #[.string wh,.string be,.bool false]))
  (HD:yJ 105 #[.string (wh++be)] (.bool true)):
  yC 73 #[.string tx] w (yR w (.tuple #[.agg #[.bool false,.string ⟨#[]⟩,yi 0],yi 3])):=by
 replace HP:Hid _:=HP;replace HE:Hid _:=HE;replace HR:Hid _:=HR;replace HQ:Hid _:=HQ;replace HD:Hid _:=HD;obtain⟨W3,hW4,q1,b2⟩:=cA w [.bool false,.string ⟨#[]⟩,yi 0] 136;replace hW4:Hid _:=hW4
 go_enter func73,ntmps73
 go_upto_region 1 with fail
 rw[hW4.out];clear hW4
 go_wp2_with fail
 refine(HP.out _).mono ?_;rintro zz w5 ⟨rfl,bb6⟩;have q7:=q1.l bb6;have b8:=aa b2 bb6;clear q1 b2 bb6 HP
 go_wp2_with fail
 refine(HE.out _ b8).mono ?_;rintro zz w9 ⟨rfl,bb10⟩;have q11:=q7.l bb10;have b12:=aa b8 bb10;clear q7 b8 bb10 HE
 go_wp2_with fail
 refine(HR.out _).mono ?_;rintro zz w13 ⟨rfl,bb14⟩;have q15:=q11.l bb14;have b16:=aa b12 bb14;clear q11 b12 bb14 HR
 go_wp2_with fail
 refine(HQ.out _ b16).mono ?_;rintro zz w17 ⟨rfl,bb18⟩;have q19:=q15.l bb18;have b20:=aa b16 bb18;clear q15 b16 bb18 HQ
 go_wp2_with fail
 refine(HD.out _).mono ?_;rintro zz w21 ⟨rfl,bb22⟩;have q23:=q19.l bb22;have b24:=aa b20 bb22;clear q19 b20 bb22 HD;have hf:=afy (P:=Tryz.prog) q23 b24 (by omega) underlying136 rfl (by kernel_rfl) (.bool false) (.string ⟨#[]⟩) (yi 0);have HH:Hid (_∧_):=⟨hf.1,hf.2.1⟩;obtain⟨⟨z0,z1,z2⟩,y0,y1,y2⟩:=afA q23;clear hf q23 b24
 go_wp2
 obtain⟨hl,bR⟩:=HH.out;exact bodyPost_ret (aj results73 rfl rfl hl) rfl ⟨rfl,bR⟩
theorem tread_hif_e (pp:Int)(tx rz ro af wh be:ByteArray)(ng:Bool)(pw:Int)(w:World)(h4:tx.size≤400)(hsz:wh.size+be.size≤400)(hpp:IntKind.i64.wrap (pw-(be.size:Int))=pp)(hl: ¬pp< -6000)(hh:6000<pp)
  (HP:yJ 102 #[.string tx,.string ⟨#[45]⟩] (.tuple #[.string rz,.bool ng]))
  (HE:yH w 103 #[.string rz,.string ⟨#[101]⟩] (.tuple #[.string ro,.string af,.bool true]))
  (HR:yJ 104 #[.string af] (.tuple #[yi pw,.bool true]))
  (HQ:yH w 103 #[.string ro,.string ⟨#[46]⟩] (.tuple #[.string wh,.string be,.bool false]))
  (HD:yJ 105 #[.string (wh++be)] (.bool true)):
  yC 73 #[.string tx] w (yR w (.tuple #[.agg #[.bool false,.string ⟨#[]⟩,yi 0],yi 3])):=by
 replace HP:Hid _:=HP;replace HE:Hid _:=HE;replace HR:Hid _:=HR;replace HQ:Hid _:=HQ;replace HD:Hid _:=HD;obtain⟨W3,hW4,q1,b2⟩:=cA w [.bool false,.string ⟨#[]⟩,yi 0] 136;replace hW4:Hid _:=hW4
 go_enter func73,ntmps73
 go_upto_region 1 with fail
 rw[hW4.out];clear hW4
 go_wp2_with fail
 refine(HP.out _).mono ?_;rintro zz w5 ⟨rfl,bb6⟩;have q7:=q1.l bb6;have b8:=aa b2 bb6;clear q1 b2 bb6 HP
 go_wp2_with fail
 refine(HE.out _ b8).mono ?_;rintro zz w9 ⟨rfl,bb10⟩;have q11:=q7.l bb10;have b12:=aa b8 bb10;clear q7 b8 bb10 HE
 go_wp2_with fail
 refine(HR.out _).mono ?_;rintro zz w13 ⟨rfl,bb14⟩;have q15:=q11.l bb14;have b16:=aa b12 bb14;clear q11 b12 bb14 HR
 go_wp2_with fail
 refine(HQ.out _ b16).mono ?_;rintro zz w17 ⟨rfl,bb18⟩;have q19:=q15.l bb18;have b20:=aa b16 bb18;clear q15 b16 bb18 HQ
 go_wp2_with fail
 refine(HD.out _).mono ?_;rintro zz w21 ⟨rfl,bb22⟩;have q23:=q19.l bb22;have b24:=aa b20 bb22;clear q19 b20 bb22 HD;have hf:=afy (P:=Tryz.prog) q23 b24 (by omega) underlying136 rfl (by kernel_rfl) (.bool false) (.string ⟨#[]⟩) (yi 0);have HH:Hid (_∧_):=⟨hf.1,hf.2.1⟩;obtain⟨⟨z0,z1,z2⟩,y0,y1,y2⟩:=afA q23;clear hf q23 b24
 go_wp2
 obtain⟨hl,bR⟩:=HH.out;exact bodyPost_ret (aj results73 rfl rfl hl) rfl ⟨rfl,bR⟩
theorem tread_okf_e (pp:Int)(tx rz ro af wh be:ByteArray)(ng:Bool)(pw:Int)(w:World)(h4:tx.size≤400)(hsz:wh.size+be.size≤400)(hpp:IntKind.i64.wrap (pw-(be.size:Int))=pp)(hl: ¬pp< -6000)(hh: ¬6000<pp)
  (HP:yJ 102 #[.string tx,.string ⟨#[45]⟩] (.tuple #[.string rz,.bool ng]))
  (HE:yH w 103 #[.string rz,.string ⟨#[101]⟩] (.tuple #[.string ro,.string af,.bool true]))
  (HR:yJ 104 #[.string af] (.tuple #[yi pw,.bool true]))
  (HQ:yH w 103 #[.string ro,.string ⟨#[46]⟩] (.tuple #[.string wh,.string be,.bool false]))
  (HD:yJ 105 #[.string (wh++be)] (.bool true)):
  yC 73 #[.string tx] w (yR w (.tuple #[.agg #[.bool ng,.string (wh++be),yi pp],yi 0])):=by
 replace HP:Hid _:=HP;replace HE:Hid _:=HE;replace HR:Hid _:=HR;replace HQ:Hid _:=HQ;replace HD:Hid _:=HD;obtain⟨W3,hW4,q1,b2⟩:=cA w [.bool false,.string ⟨#[]⟩,yi 0] 136;replace hW4:Hid _:=hW4
 go_enter func73,ntmps73
 go_upto_region 1 with fail
 rw[hW4.out];clear hW4
 go_wp2_with fail
 refine(HP.out _).mono ?_;rintro zz w5 ⟨rfl,bb6⟩;have q7:=q1.l bb6;have b8:=aa b2 bb6;clear q1 b2 bb6 HP
 go_wp2_with fail
 refine(HE.out _ b8).mono ?_;rintro zz w9 ⟨rfl,bb10⟩;have q11:=q7.l bb10;have b12:=aa b8 bb10;clear q7 b8 bb10 HE
 go_wp2_with fail
 refine(HR.out _).mono ?_;rintro zz w13 ⟨rfl,bb14⟩;have q15:=q11.l bb14;have b16:=aa b12 bb14;clear q11 b12 bb14 HR
 go_wp2_with fail
 refine(HQ.out _ b16).mono ?_;rintro zz w17 ⟨rfl,bb18⟩;have q19:=q15.l bb18;have b20:=aa b16 bb18;clear q15 b16 bb18 HQ
 go_wp2_with fail
 refine(HD.out _).mono ?_;rintro zz w21 ⟨rfl,bb22⟩;have q23:=q19.l bb22;have b24:=aa b20 bb22;clear q19 b20 bb22 HD;have hf:=afy (P:=Tryz.prog) q23 b24 (by omega) underlying136 rfl (by kernel_rfl) (.bool ng) (.string (wh++be)) (yi pp);have HH:Hid (_∧_):=⟨hf.1,hf.2.1⟩;obtain⟨⟨z0,z1,z2⟩,y0,y1,y2⟩:=afA q23;clear hf q23 b24
 go_wp2
 obtain⟨hl,bR⟩:=HH.out;exact bodyPost_ret (aj results73 rfl rfl hl) rfl ⟨rfl,bR⟩
theorem tread_okf_n (tx rz ro af wh be:ByteArray)(ng:Bool)(w:World)(h4:tx.size≤400)(hsz:wh.size+be.size≤400)
  (HP:yJ 102 #[.string tx,.string ⟨#[45]⟩] (.tuple #[.string rz,.bool ng]))
  (HE:yH w 103 #[.string rz,.string ⟨#[101]⟩] (.tuple #[.string ro,.string af,.bool false]))
  (HQ:yH w 103 #[.string ro,.string ⟨#[46]⟩] (.tuple #[.string wh,.string be,.bool false]))
  (HD:yJ 105 #[.string (wh++be)] (.bool true)):
  yC 73 #[.string tx] w (yR w (.tuple #[.agg #[.bool ng,.string (wh++be),yi (-(be.size:Int))],yi 0])):=by
 replace HP:Hid _:=HP;replace HE:Hid _:=HE;replace HQ:Hid _:=HQ;replace HD:Hid _:=HD;obtain⟨W3,hW4,q1,b2⟩:=cA w [.bool false,.string ⟨#[]⟩,yi 0] 136;replace hW4:Hid _:=hW4
 go_enter func73,ntmps73
 go_upto_region 1 with fail
 rw[hW4.out];clear hW4
 go_wp2_with fail
 refine(HP.out _).mono ?_;rintro zz w5 ⟨rfl,bb6⟩;have q7:=q1.l bb6;have b8:=aa b2 bb6;clear q1 b2 bb6 HP
 go_wp2_with fail
 refine(HE.out _ b8).mono ?_;rintro zz w9 ⟨rfl,bb10⟩;have q11:=q7.l bb10;have b12:=aa b8 bb10;clear q7 b8 bb10 HE
 go_wp2_with fail
 refine(HQ.out _ b12).mono ?_;rintro zz w13 ⟨rfl,bb14⟩;have q15:=q11.l bb14;have b16:=aa b12 bb14;clear q11 b12 bb14 HQ
 go_wp2_with fail
 refine(HD.out _).mono ?_;rintro zz w17 ⟨rfl,bb18⟩;have q19:=q15.l bb18;have b20:=aa b16 bb18;clear q15 b16 bb18 HD;have hf:=afy (P:=Tryz.prog) q19 b20 (by omega) underlying136 rfl (by kernel_rfl) (.bool ng) (.string (wh++be)) (yi (-(be.size:Int)));have HH:Hid (_∧_):=⟨hf.1,hf.2.1⟩;obtain⟨⟨z0,z1,z2⟩,y0,y1,y2⟩:=afA q19;clear hf q19 b20
 go_wp2
 obtain⟨hl,bR⟩:=HH.out;exact bodyPost_ret (aj results73 rfl rfl hl) rfl ⟨rfl,bR⟩
theorem tread_lot_e (pp:Int)(tx rz ro af wh be:ByteArray)(ng:Bool)(pw:Int)(w:World)(h4:tx.size≤400)(hsz:wh.size+be.size≤400)(hbe:be.toList.isEmpty=false)(hpp:IntKind.i64.wrap (pw-(be.size:Int))=pp)(hl:pp< -6000)
  (HP:yJ 102 #[.string tx,.string ⟨#[45]⟩] (.tuple #[.string rz,.bool ng]))
  (HE:yH w 103 #[.string rz,.string ⟨#[101]⟩] (.tuple #[.string ro,.string af,.bool true]))
  (HR:yJ 104 #[.string af] (.tuple #[yi pw,.bool true]))
  (HQ:yH w 103 #[.string ro,.string ⟨#[46]⟩] (.tuple #[.string wh,.string be,.bool true]))
  (HD:yJ 105 #[.string (wh++be)] (.bool true)):
  yC 73 #[.string tx] w (yR w (.tuple #[.agg #[.bool false,.string ⟨#[]⟩,yi 0],yi 3])):=by
 replace HP:Hid _:=HP;replace HE:Hid _:=HE;replace HR:Hid _:=HR;replace HQ:Hid _:=HQ;replace HD:Hid _:=HD;obtain⟨W3,hW4,q1,b2⟩:=cA w [.bool false,.string ⟨#[]⟩,yi 0] 136;replace hW4:Hid _:=hW4
 go_enter func73,ntmps73
 go_upto_region 1 with fail
 rw[hW4.out];clear hW4
 go_wp2_with fail
 refine(HP.out _).mono ?_;rintro zz w5 ⟨rfl,bb6⟩;have q7:=q1.l bb6;have b8:=aa b2 bb6;clear q1 b2 bb6 HP
 go_wp2_with fail
 refine(HE.out _ b8).mono ?_;rintro zz w9 ⟨rfl,bb10⟩;have q11:=q7.l bb10;have b12:=aa b8 bb10;clear q7 b8 bb10 HE
 go_wp2_with fail
 refine(HR.out _).mono ?_;rintro zz w13 ⟨rfl,bb14⟩;have q15:=q11.l bb14;have b16:=aa b12 bb14;clear q11 b12 bb14 HR
 go_wp2_with fail
 refine(HQ.out _ b16).mono ?_;rintro zz w17 ⟨rfl,bb18⟩;have q19:=q15.l bb18;have b20:=aa b16 bb18;clear q15 b16 bb18 HQ
 go_wp2_with fail
 refine(HD.out _).mono ?_;rintro zz w21 ⟨rfl,bb22⟩;have q23:=q19.l bb22;have b24:=aa b20 bb22;clear q19 b20 bb22 HD;have hf:=afy (P:=Tryz.prog) q23 b24 (by omega) underlying136 rfl (by kernel_rfl) (.bool false) (.string ⟨#[]⟩) (yi 0);have HH:Hid (_∧_):=⟨hf.1,hf.2.1⟩;obtain⟨⟨z0,z1,z2⟩,y0,y1,y2⟩:=afA q23;clear hf q23 b24
 go_wp2
 obtain⟨hl,bR⟩:=HH.out;exact bodyPost_ret (aj results73 rfl rfl hl) rfl ⟨rfl,bR⟩
theorem tread_hit_e (pp:Int)(tx rz ro af wh be:ByteArray)(ng:Bool)(pw:Int)(w:World)(h4:tx.size≤400)(hsz:wh.size+be.size≤400)(hbe:be.toList.isEmpty=false)(hpp:IntKind.i64.wrap (pw-(be.size:Int))=pp)(hl: ¬pp< -6000)(hh:6000<pp)
  (HP:yJ 102 #[.string tx,.string ⟨#[45]⟩] (.tuple #[.string rz,.bool ng]))
  (HE:yH w 103 #[.string rz,.string ⟨#[101]⟩] (.tuple #[.string ro,.string af,.bool true]))
  (HR:yJ 104 #[.string af] (.tuple #[yi pw,.bool true]))
  (HQ:yH w 103 #[.string ro,.string ⟨#[46]⟩] (.tuple #[.string wh,.string be,.bool true]))
  (HD:yJ 105 #[.string (wh++be)] (.bool true)):
  yC 73 #[.string tx] w (yR w (.tuple #[.agg #[.bool false,.string ⟨#[]⟩,yi 0],yi 3])):=by
 replace HP:Hid _:=HP;replace HE:Hid _:=HE;replace HR:Hid _:=HR;replace HQ:Hid _:=HQ;replace HD:Hid _:=HD;obtain⟨W3,hW4,q1,b2⟩:=cA w [.bool false,.string ⟨#[]⟩,yi 0] 136;replace hW4:Hid _:=hW4
 go_enter func73,ntmps73
 go_upto_region 1 with fail
 rw[hW4.out];clear hW4
 go_wp2_with fail
 refine(HP.out _).mono ?_;rintro zz w5 ⟨rfl,bb6⟩;have q7:=q1.l bb6;have b8:=aa b2 bb6;clear q1 b2 bb6 HP
 go_wp2_with fail
 refine(HE.out _ b8).mono ?_;rintro zz w9 ⟨rfl,bb10⟩;have q11:=q7.l bb10;have b12:=aa b8 bb10;clear q7 b8 bb10 HE
 go_wp2_with fail
 refine(HR.out _).mono ?_;rintro zz w13 ⟨rfl,bb14⟩;have q15:=q11.l bb14;have b16:=aa b12 bb14;clear q11 b12 bb14 HR
 go_wp2_with fail
 refine(HQ.out _ b16).mono ?_;rintro zz w17 ⟨rfl,bb18⟩;have q19:=q15.l bb18;have b20:=aa b16 bb18;clear q15 b16 bb18 HQ
 go_wp2_with fail
 refine(HD.out _).mono ?_;rintro zz w21 ⟨rfl,bb22⟩;have q23:=q19.l bb22;have b24:=aa b20 bb22;clear q19 b20 bb22 HD;have hf:=afy (P:=Tryz.prog) q23 b24 (by omega) underlying136 rfl (by kernel_rfl) (.bool false) (.string ⟨#[]⟩) (yi 0);have HH:Hid (_∧_):=⟨hf.1,hf.2.1⟩;obtain⟨⟨z0,z1,z2⟩,y0,y1,y2⟩:=afA q23;clear hf q23 b24
 go_wp2
 obtain⟨hl,bR⟩:=HH.out;exact bodyPost_ret (aj results73 rfl rfl hl) rfl ⟨rfl,bR⟩
theorem tread_okt_n (tx rz ro af wh be:ByteArray)(ng:Bool)(w:World)(h4:tx.size≤400)(hsz:wh.size+be.size≤400)(hbe:be.toList.isEmpty=false)
  (HP:yJ 102 #[.string tx,.string ⟨#[45]⟩] (.tuple #[.string rz,.bool ng]))
  (HE:yH w 103 #[.string rz,.string ⟨#[101]⟩] (.tuple #[.string ro,.string af,.bool false]))
  (HQ:yH w 103 #[.string ro,.string ⟨#[46]⟩] (.tuple #[.string wh,.string be,.bool true]))
  (HD:yJ 105 #[.string (wh++be)] (.bool true)):
  yC 73 #[.string tx] w (yR w (.tuple #[.agg #[.bool ng,.string (wh++be),yi (-(be.size:Int))],yi 0])):=by
 replace HP:Hid _:=HP;replace HE:Hid _:=HE;replace HQ:Hid _:=HQ;replace HD:Hid _:=HD;obtain⟨W3,hW4,q1,b2⟩:=cA w [.bool false,.string ⟨#[]⟩,yi 0] 136;replace hW4:Hid _:=hW4
 go_enter func73,ntmps73
 go_upto_region 1 with fail
 rw[hW4.out];clear hW4
 go_wp2_with fail
 refine(HP.out _).mono ?_;rintro zz w5 ⟨rfl,bb6⟩;have q7:=q1.l bb6;have b8:=aa b2 bb6;clear q1 b2 bb6 HP
 go_wp2_with fail
 refine(HE.out _ b8).mono ?_;rintro zz w9 ⟨rfl,bb10⟩;have q11:=q7.l bb10;have b12:=aa b8 bb10;clear q7 b8 bb10 HE
 go_wp2_with fail
 refine(HQ.out _ b12).mono ?_;rintro zz w13 ⟨rfl,bb14⟩;have q15:=q11.l bb14;have b16:=aa b12 bb14;clear q11 b12 bb14 HQ
 go_wp2_with fail
 refine(HD.out _).mono ?_;rintro zz w17 ⟨rfl,bb18⟩;have q19:=q15.l bb18;have b20:=aa b16 bb18;clear q15 b16 bb18 HD;have hf:=afy (P:=Tryz.prog) q19 b20 (by omega) underlying136 rfl (by kernel_rfl) (.bool ng) (.string (wh++be)) (yi (-(be.size:Int)));have HH:Hid (_∧_):=⟨hf.1,hf.2.1⟩;obtain⟨⟨z0,z1,z2⟩,y0,y1,y2⟩:=afA q19;clear hf q19 b20
 go_wp2
 obtain⟨hl,bR⟩:=HH.out;exact bodyPost_ret (aj results73 rfl rfl hl) rfl ⟨rfl,bR⟩
theorem SN (w:World):yC 42 #[yi 1] w (yR w (.tuple #[ygV 2 24 (-149) 104 true,yi 0])):=by
 have HL:Hid (yJ 79 #[yi 1] (.tuple #[.agg #[yi 2,yi 24,yi (-149),yi 104,.bool true,yi 4,yi 8,yi 1,.func (.func 154) #[] #[]],yi 0])):=fun w1=>uU w1
 have hsf:=cD;have hsn:=gn;have l0:=ah w (ygL 0 0 0 0 false) 82;have b0:=af w (.cells (ygA 0 0 0 0 false) 82)
 go_enter func42,ntmps42
 go_wp2_with fail
 refine(HL.out _).mono ?_;rintro z w2 ⟨rfl,b2⟩;have l3:=(l0.l b2).l (af w2 (.cells #[yi 2,yi 24,yi (-149),yi 104,.bool true,yi 4,yi 8,yi 1,.func (.func 154) #[] #[]] 110));have cR:au ((((((w2.alloc (.cells #[yi 2,yi 24,yi (-149),yi 104,.bool true,yi 4,yi 8,yi 1,.func (.func 154) #[] #[]] 110)).setCell ⟨w.heap.size,0,none⟩ (yi 2)).setCell ⟨w.heap.size,1,none⟩ (yi 24)).setCell ⟨w.heap.size,2,none⟩ (yi (-149))).setCell ⟨w.heap.size,3,none⟩ (yi 104)).setCell ⟨w.heap.size,4,none⟩ (.bool true)) w.heap.size 82 (ygL 2 24 (-149) 104 true):=(((((l3.set 0 (yi 2)).set 1 (yi 24)).set 2 (yi (-149))).set 3 (yi 104)).set 4 (.bool true));have bR:=(((((ag (w2.alloc (.cells #[yi 2,yi 24,yi (-149),yi 104,.bool true,yi 4,yi 8,yi 1,.func (.func 154) #[] #[]] 110)) w.heap.size 0 (yi 2)).trans (ag _ w.heap.size 1 (yi 24))).trans (ag _ w.heap.size 2 (yi (-149)))).trans (ag _ w.heap.size 3 (yi 104))).trans (ag _ w.heap.size 4 (.bool true))).below (aa (aa b0 b2) (af w2 (.cells #[yi 2,yi 24,yi (-149),yi 104,.bool true,yi 4,yi 8,yi 1,.func (.func 154) #[] #[]] 110))) (Nat.le_refl _);have hl:=run_loadVar_mid (P:=Tryz.prog) _ w.heap.size 0 82 (ygL 2 24 (-149) 104 true) _ cR.range underlying82 rfl (by kernel_rfl);have HH:Hid (_∧_):=⟨hl,bR⟩;have x0:=l3.c 0 rfl;have f0:=l3.f 0;have x1:=l3.c 1 rfl;have f1:=l3.f 1;have x2:=l3.c 2 rfl;have f2:=l3.f 2;have x3:=l3.c 3 rfl;have f3:=l3.f 3;have x4:=l3.c 4 rfl;have f4:=l3.f 4;have hne:w2.heap.size≠w.heap.size:=Nat.ne_of_gt (l0.l b2).lt;clear hl bR cR l0 l3 b0 b2 HL
 go_wp2
 obtain⟨hl,bR⟩:=HH.out;exact bodyPost_ret (aj results42 rfl rfl hl) rfl ⟨rfl,bR⟩
theorem SO (w:World):yC 42 #[yi 2] w (yR w (.tuple #[ygV 2 53 (-1074) 971 true,yi 0])):=by
 have HL:Hid (yJ 79 #[yi 2] (.tuple #[.agg #[yi 2,yi 53,yi (-1074),yi 971,.bool true,yi 8,yi 11,yi 1,.func (.func 154) #[] #[]],yi 0])):=fun w1=>uV w1
 have hsf:=cD;have hsn:=gn;have l0:=ah w (ygL 0 0 0 0 false) 82;have b0:=af w (.cells (ygA 0 0 0 0 false) 82)
 go_enter func42,ntmps42
 go_wp2_with fail
 refine(HL.out _).mono ?_;rintro z w2 ⟨rfl,b2⟩;have l3:=(l0.l b2).l (af w2 (.cells #[yi 2,yi 53,yi (-1074),yi 971,.bool true,yi 8,yi 11,yi 1,.func (.func 154) #[] #[]] 110));have cR:au ((((((w2.alloc (.cells #[yi 2,yi 53,yi (-1074),yi 971,.bool true,yi 8,yi 11,yi 1,.func (.func 154) #[] #[]] 110)).setCell ⟨w.heap.size,0,none⟩ (yi 2)).setCell ⟨w.heap.size,1,none⟩ (yi 53)).setCell ⟨w.heap.size,2,none⟩ (yi (-1074))).setCell ⟨w.heap.size,3,none⟩ (yi 971)).setCell ⟨w.heap.size,4,none⟩ (.bool true)) w.heap.size 82 (ygL 2 53 (-1074) 971 true):=(((((l3.set 0 (yi 2)).set 1 (yi 53)).set 2 (yi (-1074))).set 3 (yi 971)).set 4 (.bool true));have bR:=(((((ag (w2.alloc (.cells #[yi 2,yi 53,yi (-1074),yi 971,.bool true,yi 8,yi 11,yi 1,.func (.func 154) #[] #[]] 110)) w.heap.size 0 (yi 2)).trans (ag _ w.heap.size 1 (yi 53))).trans (ag _ w.heap.size 2 (yi (-1074)))).trans (ag _ w.heap.size 3 (yi 971))).trans (ag _ w.heap.size 4 (.bool true))).below (aa (aa b0 b2) (af w2 (.cells #[yi 2,yi 53,yi (-1074),yi 971,.bool true,yi 8,yi 11,yi 1,.func (.func 154) #[] #[]] 110))) (Nat.le_refl _);have hl:=run_loadVar_mid (P:=Tryz.prog) _ w.heap.size 0 82 (ygL 2 53 (-1074) 971 true) _ cR.range underlying82 rfl (by kernel_rfl);have HH:Hid (_∧_):=⟨hl,bR⟩;have x0:=l3.c 0 rfl;have f0:=l3.f 0;have x1:=l3.c 1 rfl;have f1:=l3.f 1;have x2:=l3.c 2 rfl;have f2:=l3.f 2;have x3:=l3.c 3 rfl;have f3:=l3.f 3;have x4:=l3.c 4 rfl;have f4:=l3.f 4;have hne:w2.heap.size≠w.heap.size:=Nat.ne_of_gt (l0.l b2).lt;clear hl bR cR l0 l3 b0 b2 HL
 go_wp2
 obtain⟨hl,bR⟩:=HH.out;exact bodyPost_ret (aj results42 rfl rfl hl) rfl ⟨rfl,bR⟩
theorem SP (w:World):yC 42 #[yi 3] w (yR w (.tuple #[ygV 2 64 (-16445) 16320 true,yi 0])):=by
 have HL:Hid (yJ 79 #[yi 3] (.tuple #[.agg #[yi 2,yi 64,yi (-16445),yi 16320,.bool true,yi 10,yi 15,yi 1,.func (.func 155) #[] #[]],yi 0])):=fun w1=>uW w1
 have hsf:=cD;have hsn:=gn;have l0:=ah w (ygL 0 0 0 0 false) 82;have b0:=af w (.cells (ygA 0 0 0 0 false) 82)
 go_enter func42,ntmps42
 go_wp2_with fail
 refine(HL.out _).mono ?_;rintro z w2 ⟨rfl,b2⟩;have l3:=(l0.l b2).l (af w2 (.cells #[yi 2,yi 64,yi (-16445),yi 16320,.bool true,yi 10,yi 15,yi 1,.func (.func 155) #[] #[]] 110));have cR:au ((((((w2.alloc (.cells #[yi 2,yi 64,yi (-16445),yi 16320,.bool true,yi 10,yi 15,yi 1,.func (.func 155) #[] #[]] 110)).setCell ⟨w.heap.size,0,none⟩ (yi 2)).setCell ⟨w.heap.size,1,none⟩ (yi 64)).setCell ⟨w.heap.size,2,none⟩ (yi (-16445))).setCell ⟨w.heap.size,3,none⟩ (yi 16320)).setCell ⟨w.heap.size,4,none⟩ (.bool true)) w.heap.size 82 (ygL 2 64 (-16445) 16320 true):=(((((l3.set 0 (yi 2)).set 1 (yi 64)).set 2 (yi (-16445))).set 3 (yi 16320)).set 4 (.bool true));have bR:=(((((ag (w2.alloc (.cells #[yi 2,yi 64,yi (-16445),yi 16320,.bool true,yi 10,yi 15,yi 1,.func (.func 155) #[] #[]] 110)) w.heap.size 0 (yi 2)).trans (ag _ w.heap.size 1 (yi 64))).trans (ag _ w.heap.size 2 (yi (-16445)))).trans (ag _ w.heap.size 3 (yi 16320))).trans (ag _ w.heap.size 4 (.bool true))).below (aa (aa b0 b2) (af w2 (.cells #[yi 2,yi 64,yi (-16445),yi 16320,.bool true,yi 10,yi 15,yi 1,.func (.func 155) #[] #[]] 110))) (Nat.le_refl _);have hl:=run_loadVar_mid (P:=Tryz.prog) _ w.heap.size 0 82 (ygL 2 64 (-16445) 16320 true) _ cR.range underlying82 rfl (by kernel_rfl);have HH:Hid (_∧_):=⟨hl,bR⟩;have x0:=l3.c 0 rfl;have f0:=l3.f 0;have x1:=l3.c 1 rfl;have f1:=l3.f 1;have x2:=l3.c 2 rfl;have f2:=l3.f 2;have x3:=l3.c 3 rfl;have f3:=l3.f 3;have x4:=l3.c 4 rfl;have f4:=l3.f 4;have hne:w2.heap.size≠w.heap.size:=Nat.ne_of_gt (l0.l b2).lt;clear hl bR cR l0 l3 b0 b2 HL
 go_wp2
 obtain⟨hl,bR⟩:=HH.out;exact bodyPost_ret (aj results42 rfl rfl hl) rfl ⟨rfl,bR⟩
theorem SR (w:World):yC 42 #[yi 5] w (yR w (.tuple #[ygV 16 14 (-78) 49 false,yi 0])):=by
 have HL:Hid (yJ 79 #[yi 5] (.tuple #[.agg #[yi 16,yi 14,yi (-78),yi 49,.bool false,yi 8,yi 7,yi 2,.func (.func 154) #[] #[]],yi 0])):=fun w1=>uY w1
 have hsf:=cD;have hsn:=gn;have l0:=ah w (ygL 0 0 0 0 false) 82;have b0:=af w (.cells (ygA 0 0 0 0 false) 82)
 go_enter func42,ntmps42
 go_wp2_with fail
 refine(HL.out _).mono ?_;rintro z w2 ⟨rfl,b2⟩;have l3:=(l0.l b2).l (af w2 (.cells #[yi 16,yi 14,yi (-78),yi 49,.bool false,yi 8,yi 7,yi 2,.func (.func 154) #[] #[]] 110));have cR:au ((((((w2.alloc (.cells #[yi 16,yi 14,yi (-78),yi 49,.bool false,yi 8,yi 7,yi 2,.func (.func 154) #[] #[]] 110)).setCell ⟨w.heap.size,0,none⟩ (yi 16)).setCell ⟨w.heap.size,1,none⟩ (yi 14)).setCell ⟨w.heap.size,2,none⟩ (yi (-78))).setCell ⟨w.heap.size,3,none⟩ (yi 49)).setCell ⟨w.heap.size,4,none⟩ (.bool false)) w.heap.size 82 (ygL 16 14 (-78) 49 false):=(((((l3.set 0 (yi 16)).set 1 (yi 14)).set 2 (yi (-78))).set 3 (yi 49)).set 4 (.bool false));have bR:=(((((ag (w2.alloc (.cells #[yi 16,yi 14,yi (-78),yi 49,.bool false,yi 8,yi 7,yi 2,.func (.func 154) #[] #[]] 110)) w.heap.size 0 (yi 16)).trans (ag _ w.heap.size 1 (yi 14))).trans (ag _ w.heap.size 2 (yi (-78)))).trans (ag _ w.heap.size 3 (yi 49))).trans (ag _ w.heap.size 4 (.bool false))).below (aa (aa b0 b2) (af w2 (.cells #[yi 16,yi 14,yi (-78),yi 49,.bool false,yi 8,yi 7,yi 2,.func (.func 154) #[] #[]] 110))) (Nat.le_refl _);have hl:=run_loadVar_mid (P:=Tryz.prog) _ w.heap.size 0 82 (ygL 16 14 (-78) 49 false) _ cR.range underlying82 rfl (by kernel_rfl);have HH:Hid (_∧_):=⟨hl,bR⟩;have x0:=l3.c 0 rfl;have f0:=l3.f 0;have x1:=l3.c 1 rfl;have f1:=l3.f 1;have x2:=l3.c 2 rfl;have f2:=l3.f 2;have x3:=l3.c 3 rfl;have f3:=l3.f 3;have x4:=l3.c 4 rfl;have f4:=l3.f 4;have hne:w2.heap.size≠w.heap.size:=Nat.ne_of_gt (l0.l b2).lt;clear hl bR cR l0 l3 b0 b2 HL
 go_wp2
 obtain⟨hl,bR⟩:=HH.out;exact bodyPost_ret (aj results42 rfl rfl hl) rfl ⟨rfl,bR⟩
theorem SS (w:World):yC 42 #[yi 6] w (yR w (.tuple #[ygV 2 24 (-151) 103 false,yi 0])):=by
 have HL:Hid (yJ 79 #[yi 6] (.tuple #[.agg #[yi 2,yi 24,yi (-151),yi 103,.bool false,yi 4,yi 8,yi 3,.func (.func 156) #[] #[]],yi 0])):=fun w1=>uZ w1
 have hsf:=cD;have hsn:=gn;have l0:=ah w (ygL 0 0 0 0 false) 82;have b0:=af w (.cells (ygA 0 0 0 0 false) 82)
 go_enter func42,ntmps42
 go_wp2_with fail
 refine(HL.out _).mono ?_;rintro z w2 ⟨rfl,b2⟩;have l3:=(l0.l b2).l (af w2 (.cells #[yi 2,yi 24,yi (-151),yi 103,.bool false,yi 4,yi 8,yi 3,.func (.func 156) #[] #[]] 110));have cR:au ((((((w2.alloc (.cells #[yi 2,yi 24,yi (-151),yi 103,.bool false,yi 4,yi 8,yi 3,.func (.func 156) #[] #[]] 110)).setCell ⟨w.heap.size,0,none⟩ (yi 2)).setCell ⟨w.heap.size,1,none⟩ (yi 24)).setCell ⟨w.heap.size,2,none⟩ (yi (-151))).setCell ⟨w.heap.size,3,none⟩ (yi 103)).setCell ⟨w.heap.size,4,none⟩ (.bool false)) w.heap.size 82 (ygL 2 24 (-151) 103 false):=(((((l3.set 0 (yi 2)).set 1 (yi 24)).set 2 (yi (-151))).set 3 (yi 103)).set 4 (.bool false));have bR:=(((((ag (w2.alloc (.cells #[yi 2,yi 24,yi (-151),yi 103,.bool false,yi 4,yi 8,yi 3,.func (.func 156) #[] #[]] 110)) w.heap.size 0 (yi 2)).trans (ag _ w.heap.size 1 (yi 24))).trans (ag _ w.heap.size 2 (yi (-151)))).trans (ag _ w.heap.size 3 (yi 103))).trans (ag _ w.heap.size 4 (.bool false))).below (aa (aa b0 b2) (af w2 (.cells #[yi 2,yi 24,yi (-151),yi 103,.bool false,yi 4,yi 8,yi 3,.func (.func 156) #[] #[]] 110))) (Nat.le_refl _);have hl:=run_loadVar_mid (P:=Tryz.prog) _ w.heap.size 0 82 (ygL 2 24 (-151) 103 false) _ cR.range underlying82 rfl (by kernel_rfl);have HH:Hid (_∧_):=⟨hl,bR⟩;have x0:=l3.c 0 rfl;have f0:=l3.f 0;have x1:=l3.c 1 rfl;have f1:=l3.f 1;have x2:=l3.c 2 rfl;have f2:=l3.f 2;have x3:=l3.c 3 rfl;have f3:=l3.f 3;have x4:=l3.c 4 rfl;have f4:=l3.f 4;have hne:w2.heap.size≠w.heap.size:=Nat.ne_of_gt (l0.l b2).lt;clear hl bR cR l0 l3 b0 b2 HL
 go_wp2
 obtain⟨hl,bR⟩:=HH.out;exact bodyPost_ret (aj results42 rfl rfl hl) rfl ⟨rfl,bR⟩
theorem SU (w:World):yC 42 #[yi 8] w (yR w (.tuple #[ygV 2 53 (-1076) 970 false,yi 0])):=by
 have HL:Hid (yJ 79 #[yi 8] (.tuple #[.agg #[yi 2,yi 53,yi (-1076),yi 970,.bool false,yi 8,yi 11,yi 3,.func (.func 156) #[] #[]],yi 0])):=fun w1=>vh w1
 have hsf:=cD;have hsn:=gn;have l0:=ah w (ygL 0 0 0 0 false) 82;have b0:=af w (.cells (ygA 0 0 0 0 false) 82)
 go_enter func42,ntmps42
 go_wp2_with fail
 refine(HL.out _).mono ?_;rintro z w2 ⟨rfl,b2⟩;have l3:=(l0.l b2).l (af w2 (.cells #[yi 2,yi 53,yi (-1076),yi 970,.bool false,yi 8,yi 11,yi 3,.func (.func 156) #[] #[]] 110));have cR:au ((((((w2.alloc (.cells #[yi 2,yi 53,yi (-1076),yi 970,.bool false,yi 8,yi 11,yi 3,.func (.func 156) #[] #[]] 110)).setCell ⟨w.heap.size,0,none⟩ (yi 2)).setCell ⟨w.heap.size,1,none⟩ (yi 53)).setCell ⟨w.heap.size,2,none⟩ (yi (-1076))).setCell ⟨w.heap.size,3,none⟩ (yi 970)).setCell ⟨w.heap.size,4,none⟩ (.bool false)) w.heap.size 82 (ygL 2 53 (-1076) 970 false):=(((((l3.set 0 (yi 2)).set 1 (yi 53)).set 2 (yi (-1076))).set 3 (yi 970)).set 4 (.bool false));have bR:=(((((ag (w2.alloc (.cells #[yi 2,yi 53,yi (-1076),yi 970,.bool false,yi 8,yi 11,yi 3,.func (.func 156) #[] #[]] 110)) w.heap.size 0 (yi 2)).trans (ag _ w.heap.size 1 (yi 53))).trans (ag _ w.heap.size 2 (yi (-1076)))).trans (ag _ w.heap.size 3 (yi 970))).trans (ag _ w.heap.size 4 (.bool false))).below (aa (aa b0 b2) (af w2 (.cells #[yi 2,yi 53,yi (-1076),yi 970,.bool false,yi 8,yi 11,yi 3,.func (.func 156) #[] #[]] 110))) (Nat.le_refl _);have hl:=run_loadVar_mid (P:=Tryz.prog) _ w.heap.size 0 82 (ygL 2 53 (-1076) 970 false) _ cR.range underlying82 rfl (by kernel_rfl);have HH:Hid (_∧_):=⟨hl,bR⟩;have x0:=l3.c 0 rfl;have f0:=l3.f 0;have x1:=l3.c 1 rfl;have f1:=l3.f 1;have x2:=l3.c 2 rfl;have f2:=l3.f 2;have x3:=l3.c 3 rfl;have f3:=l3.f 3;have x4:=l3.c 4 rfl;have f4:=l3.f 4;have hne:w2.heap.size≠w.heap.size:=Nat.ne_of_gt (l0.l b2).lt;clear hl bR cR l0 l3 b0 b2 HL
 go_wp2
 obtain⟨hl,bR⟩:=HH.out;exact bodyPost_ret (aj results42 rfl rfl hl) rfl ⟨rfl,bR⟩
theorem Ja (R D L G:Int)(gr s:Bool)(ao:Option Addr)(ca:Nat)(xs:List Nat)(e:Int)(w:World)(hr:Rd w .u32 (.slice ao xs.length ca) xs)(sa:Dg.Small 4294967296 xs)(hT:Tab w):
  yC 83 #[ydV s (.slice ao xs.length ca) e,ygV R D L G gr] w (DM w (um xs e R D L G gr) (Zo xs e R D L G gr) (Zp xs e R D L G gr) (onC (aS xs e) (bk R D L G))):=by
 have herr: ¬onC (aS xs e) (bk R D L G)=0→um xs e R D L G gr=false∧Zo xs e R D L G gr=0∧Zp xs e R D L G gr=0:=fun h=>⟨if_neg h,if_neg h,if_neg h⟩
 refine acT R D L G gr s ao _ ca e (aS xs e) (bk R D L G) _ _ _ _ w ?_ ?_ ?_ ?_ ?_ ?_ ?_
 ·intro h
  have h1:onC (aS xs e) (bk R D L G)=aS xs e:=if_neg h;obtain⟨a,b,c⟩:=herr (by rw[h1];exact h);exact⟨a,b,c,h1⟩
 ·intro h h2
  have h1:onC (aS xs e) (bk R D L G)=bk R D L G:=if_pos h;obtain⟨a,b,c⟩:=herr (by rw[h1];exact h2);exact⟨a,b,c,h1⟩
 ·intro h h2
  exact(if_pos h).trans h2
 ·intro w1 b
  exact nS s ao ca xs e w1 (hr.l b)
 ·intro w1
  exact vE R D L G gr w1
 ·intro w1
  exact iK s ao _ ca e w1
 ·intro h h2 w1 b
  have h1:onC (aS xs e) (bk R D L G)=0:=(if_pos h).trans h2;rw[show um xs e R D L G gr=_ from if_pos h1,show Zo xs e R D L G gr=_ from if_pos h1,show Zp xs e R D L G gr=_ from if_pos h1]
  obtain⟨c1,e1,e2⟩:=bL h;obtain⟨n1,l1⟩:=aF c1;have ex:Dg.dg 4294967296 (Dg.vl 4294967296 xs)=xs:=Dg.dg_vl _ (by omega) _ sa n1;have:=VU R D L G gr s ao ca (Dg.vl 4294967296 xs) e w1 h2 (by rw[ex];exact hr.l b) (by rw[ex];exact l1) e1 e2 (hT.l b)
  rwa [ex] at this
theorem qR (R D L G:Int)(gr s:Bool)(ao:Option Addr)(ca:Nat)(xs:List Nat)(e:Int)(w:World)(hr:Rd w .u32 (.slice ao xs.length ca) xs)(sa:Dg.Small 4294967296 xs)(hT:Tab w):
  yC 44 #[ydV s (.slice ao xs.length ca) e,ygV R D L G gr] w (yR w (.tuple #[.bool (um xs e R D L G gr),yi (onC (aS xs e) (bk R D L G))])):=
 aa8 R D L G gr s ao _ ca e _ _ _ _ w (fun w1 b=>Ja R D L G gr s ao ca xs e w1 (hr.l b) sa (hT.l b))
theorem cnumber_W (R D L G p:Int)(gr:Bool)(ao:Option Addr)(la ac:Nat)(t:ak)(w:World)
  (HW: ∀w1,yB w w1→yC 84 #[yvV 2 false (.slice ao la ac) p,ygV R D L G gr] w1 (acy w1 t)):
  yC 80 #[ygV R D L G gr,.slice ao la ac,yi p] w (acy w t):=by
 replace HW:Hid _:=HW;obtain⟨W4,hW5,q1,q2,b3⟩:=iG w (ygL R D L G gr) 82 (ydL false yN 0) 78;replace hW5:Hid _:=hW5
 go_enter func80,ntmps80
 go_upto_region 1 with fail
 rw[hW5.out];clear hW5;obtain⟨c6,c7,c8,c9,c10⟩:=q1.cs5
 go_wp2_with fail
 refine(HW.out _ b3).mono ?_;rintro zz w11 ⟨v1x13,rfl,r1x14,ff1,bb12⟩;have ff:=ff1.mono b3.size;clear ff1;have q15:=q2.l bb12;have b16:=aa b3 bb12;obtain⟨xo,xc,hv⟩:=r1x14.shape;subst hv;clear q1 q2 b3 bb12 HW c6 c7 c8 c9 c10;have hf:=afy (P:=Tryz.prog) q15 b16 (by omega) underlying78 rfl (by kernel_rfl) (.bool t.s) (yT xo t.n xc) (yi t.e);have HH:Hid (_∧_∧_):=⟨hf.1,hf.2.2.rd r1x14 (aX r1x14 q15 (by simp)),hf.2.1⟩;obtain⟨⟨z0,z1,z2⟩,y0,y1,y2⟩:=afA q15;clear hf q15 r1x14 b16
 go_wp2
 obtain⟨hl,rRx,bR⟩:=HH.out;exact bodyPost_ret (br results80 rfl hl) rfl ⟨_,rfl,rRx,ff,bR⟩
end Go.Proofs.YtlgkfdcmokchgaaGreatDoor
