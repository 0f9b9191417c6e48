/-
  Texts laid together: Se8, Sr7.
-/
import Derived.Test.YtiakgfmlpdfhdaaDoorSy04
import Derived.Test.YtiakgfmlpdfhdaaDoorSy05
set_option maxRecDepth 100000
set_option maxHeartbeats 6400000
namespace Go.Proofs.YtiakgfmlpdfhdaaDoor
open Go.RowKit
theorem nested_000 (p1 q1 p2 q2 p3 q3 p4 q4 p5 q5 p6 q6:ak)(xa xb n:Int)(w:World)
  (HB:yH w 8 #[] (.bool true))
  (H0: ∀w1,yB w w1→yC 7 #[yi xa] w1 (BRd w1 p1 q1 0))
  (H1: ∀w1,yB w w1→yC 7 #[yi xb] w1 (BRd w1 p2 q2 0))
  (H2: ∀w1,yB w w1→yC 13 #[yi xa] w1 (BRd w1 p3 q3 0))
  (H3: ∀w1,yB w w1→yC 13 #[yi xb] w1 (BRd w1 p4 q4 0))
  (H4: ∀w1,yB w w1→yC 16 #[yi n,yi xa] w1 (BRd w1 p5 q5 0))
  (H5: ∀w1,yB w w1→yC 16 #[yi n,yi xb] w1 (BRd w1 p6 q6 0))
  (M0: ∀p1o p1c q1o q1c p2o p2c q2o q2c w1,yB w w1→Rd w1 .u32 (yT p1o p1.n p1c) (Dg.dg 4294967296 p1.n)→Rd w1 .u32 (yT q1o q1.n q1c) (Dg.dg 4294967296 q1.n)→Rd w1 .u32 (yT p2o p2.n p2c) (Dg.dg 4294967296 p2.n)→Rd w1 .u32 (yT q2o q2.n q2c) (Dg.dg 4294967296 q2.n)→yC 18 #[.agg #[.bool p1.s,yT p1o p1.n p1c,yi p1.e,.bool q1.s,yT q1o q1.n q1c,yi q1.e],.agg #[.bool p2.s,yT p2o p2.n p2c,yi p2.e,.bool q2.s,yT q2o q2.n q2c,yi q2.e]] w1 (yR w1 (.bool true)))
  (M1: ∀p3o p3c q3o q3c p4o p4c q4o q4c w1,yB w w1→Rd w1 .u32 (yT p3o p3.n p3c) (Dg.dg 4294967296 p3.n)→Rd w1 .u32 (yT q3o q3.n q3c) (Dg.dg 4294967296 q3.n)→Rd w1 .u32 (yT p4o p4.n p4c) (Dg.dg 4294967296 p4.n)→Rd w1 .u32 (yT q4o q4.n q4c) (Dg.dg 4294967296 q4.n)→yC 18 #[.agg #[.bool p3.s,yT p3o p3.n p3c,yi p3.e,.bool q3.s,yT q3o q3.n q3c,yi q3.e],.agg #[.bool p4.s,yT p4o p4.n p4c,yi p4.e,.bool q4.s,yT q4o q4.n q4c,yi q4.e]] w1 (yR w1 (.bool true)))
  (M2: ∀p5o p5c q5o q5c p6o p6c q6o q6c w1,yB w w1→Rd w1 .u32 (yT p5o p5.n p5c) (Dg.dg 4294967296 p5.n)→Rd w1 .u32 (yT q5o q5.n q5c) (Dg.dg 4294967296 q5.n)→Rd w1 .u32 (yT p6o p6.n p6c) (Dg.dg 4294967296 p6.n)→Rd w1 .u32 (yT q6o q6.n q6c) (Dg.dg 4294967296 q6.n)→yC 18 #[.agg #[.bool p5.s,yT p5o p5.n p5c,yi p5.e,.bool q5.s,yT q5o q5.n q5c,yi q5.e],.agg #[.bool p6.s,yT p6o p6.n p6c,yi p6.e,.bool q6.s,yT q6o q6.n q6c,yi q6.e]] w1 (yR w1 (.bool true))):
  yC 6 #[yi xa,yi xb,yi n] w (yR w (.bool true)):=by
 replace HB:Hid _:=HB;replace H0:Hid _:=H0;replace H1:Hid _:=H1;replace H2:Hid _:=H2;replace H3:Hid _:=H3;replace H4:Hid _:=H4;replace H5:Hid _:=H5;replace M0:Hid _:=M0;replace M1:Hid _:=M1;replace M2:Hid _:=M2
 go_enter Tryd.func6,Tryd.ntmps6
 have b0:=Below.refl w.heap.size w
 go_wp2_with fail
 refine(HB.out _ b0).mono ?_;rintro zz w1 ⟨rfl,bb2⟩;have b3:=aa b0 bb2;clear b0 bb2 HB
 go_wp2_with fail
 refine(H0.out _ b3).mono ?_;rintro zz w4 ⟨v1x6,v2x7,rfl,r1x8,r2x9,bb5⟩;have b10:=aa b3 bb5;obtain⟨p1o,p1c,hv⟩:=r1x8.shape;subst hv;obtain⟨q1o,q1c,hv⟩:=r2x9.shape;subst hv;clear b3 bb5 H0;obtain⟨W13,hW12,q14,al11⟩:=cA w4 [.bool p1.s,yT p1o p1.n p1c,yi p1.e,.bool q1.s,yT q1o q1.n q1c,yi q1.e] 27;replace hW12:Hid _:=hW12;have hl15:w.heap.size≤w4.heap.size:=b10.size;have r16:=r1x8.l al11;have r17:=r2x9.l al11;have b18:=aa b10 al11;clear r1x8 r2x9 b10 al11
 go_upto_region 4 with fail
 rw[hW12.out];clear hW12
 go_wp2_with fail
 refine(H1.out _ b18).mono ?_;rintro zz w19 ⟨v1x21,v2x22,rfl,r1x23,r2x24,bb20⟩;have q25:=q14.l bb20;have r26:=r16.l bb20;have r27:=r17.l bb20;have b28:=aa b18 bb20;obtain⟨p2o,p2c,hv⟩:=r1x23.shape;subst hv;obtain⟨q2o,q2c,hv⟩:=r2x24.shape;subst hv;clear q14 r16 r17 b18 bb20 H1;obtain⟨W31,hW30,q32,al29⟩:=cA w19 [.bool p2.s,yT p2o p2.n p2c,yi p2.e,.bool q2.s,yT q2o q2.n q2c,yi q2.e] 27;replace hW30:Hid _:=hW30;have hl33:w.heap.size≤w19.heap.size:=b28.size;have hl34:=q25.lt;have q35:=q25.l al29;have r36:=r26.l al29;have r37:=r27.l al29;have r38:=r1x23.l al29;have r39:=r2x24.l al29;have b40:=aa b28 al29;clear q25 r26 r27 r1x23 r2x24 b28 al29
 go_upto_region 5 with fail
 rw[hW30.out];clear hW30
 go_wp2_with fail
 refine(H2.out _ b40).mono ?_;rintro zz w41 ⟨v1x43,v2x44,rfl,r1x45,r2x46,bb42⟩;have q47:=q35.l bb42;have q48:=q32.l bb42;have r49:=r36.l bb42;have r50:=r37.l bb42;have r51:=r38.l bb42;have r52:=r39.l bb42;have b53:=aa b40 bb42;obtain⟨p3o,p3c,hv⟩:=r1x45.shape;subst hv;obtain⟨q3o,q3c,hv⟩:=r2x46.shape;subst hv;clear q35 q32 r36 r37 r38 r39 b40 bb42 H2;obtain⟨W56,hW55,q57,al54⟩:=cA w41 [.bool p3.s,yT p3o p3.n p3c,yi p3.e,.bool q3.s,yT q3o q3.n q3c,yi q3.e] 27;replace hW55:Hid _:=hW55;have hl58:w.heap.size≤w41.heap.size:=b53.size;have hl59:=q47.lt;have hl60:=q48.lt;have q61:=q47.l al54;have q62:=q48.l al54;have r63:=r49.l al54;have r64:=r50.l al54;have r65:=r51.l al54;have r66:=r52.l al54;have r67:=r1x45.l al54;have r68:=r2x46.l al54;have b69:=aa b53 al54;clear q47 q48 r49 r50 r51 r52 r1x45 r2x46 b53 al54
 go_upto_region 6 with fail
 rw[hW55.out];clear hW55
 go_wp2_with fail
 refine(H3.out _ b69).mono ?_;rintro zz w70 ⟨v1x72,v2x73,rfl,r1x74,r2x75,bb71⟩;have q76:=q61.l bb71;have q77:=q62.l bb71;have q78:=q57.l bb71;have r79:=r63.l bb71;have r80:=r64.l bb71;have r81:=r65.l bb71;have r82:=r66.l bb71;have r83:=r67.l bb71;have r84:=r68.l bb71;have b85:=aa b69 bb71;obtain⟨p4o,p4c,hv⟩:=r1x74.shape;subst hv;obtain⟨q4o,q4c,hv⟩:=r2x75.shape;subst hv;clear q61 q62 q57 r63 r64 r65 r66 r67 r68 b69 bb71 H3;obtain⟨W88,hW87,q89,al86⟩:=cA w70 [.bool p4.s,yT p4o p4.n p4c,yi p4.e,.bool q4.s,yT q4o q4.n q4c,yi q4.e] 27;replace hW87:Hid _:=hW87;have hl90:w.heap.size≤w70.heap.size:=b85.size;have hl91:=q76.lt;have hl92:=q77.lt;have hl93:=q78.lt;have q94:=q76.l al86;have q95:=q77.l al86;have q96:=q78.l al86;have r97:=r79.l al86;have r98:=r80.l al86;have r99:=r81.l al86;have r100:=r82.l al86;have r101:=r83.l al86;have r102:=r84.l al86;have r103:=r1x74.l al86;have r104:=r2x75.l al86;have b105:=aa b85 al86;clear q76 q77 q78 r79 r80 r81 r82 r83 r84 r1x74 r2x75 b85 al86
 go_upto_region 7 with fail
 rw[hW87.out];clear hW87
 go_wp2_with fail
 refine(H4.out _ b105).mono ?_;rintro zz w106 ⟨v1x108,v2x109,rfl,r1x110,r2x111,bb107⟩;have q112:=q94.l bb107;have q113:=q95.l bb107;have q114:=q96.l bb107;have q115:=q89.l bb107;have r116:=r97.l bb107;have r117:=r98.l bb107;have r118:=r99.l bb107;have r119:=r100.l bb107;have r120:=r101.l bb107;have r121:=r102.l bb107;have r122:=r103.l bb107;have r123:=r104.l bb107;have b124:=aa b105 bb107;obtain⟨p5o,p5c,hv⟩:=r1x110.shape;subst hv;obtain⟨q5o,q5c,hv⟩:=r2x111.shape;subst hv;clear q94 q95 q96 q89 r97 r98 r99 r100 r101 r102 r103 r104 b105 bb107 H4;obtain⟨W127,hW126,q128,al125⟩:=cA w106 [.bool p5.s,yT p5o p5.n p5c,yi p5.e,.bool q5.s,yT q5o q5.n q5c,yi q5.e] 27;replace hW126:Hid _:=hW126;have hl129:w.heap.size≤w106.heap.size:=b124.size;have hl130:=q112.lt;have hl131:=q113.lt;have hl132:=q114.lt;have hl133:=q115.lt;have q134:=q112.l al125;have q135:=q113.l al125;have q136:=q114.l al125;have q137:=q115.l al125;have r138:=r116.l al125;have r139:=r117.l al125;have r140:=r118.l al125;have r141:=r119.l al125;have r142:=r120.l al125;have r143:=r121.l al125;have r144:=r122.l al125;have r145:=r123.l al125;have r146:=r1x110.l al125;have r147:=r2x111.l al125;have b148:=aa b124 al125;clear q112 q113 q114 q115 r116 r117 r118 r119 r120 r121 r122 r123 r1x110 r2x111 b124 al125
 go_upto_region 8 with fail
 rw[hW126.out];clear hW126
 go_wp2_with fail
 refine(H5.out _ b148).mono ?_;rintro zz w149 ⟨v1x151,v2x152,rfl,r1x153,r2x154,bb150⟩;have q155:=q134.l bb150;have q156:=q135.l bb150;have q157:=q136.l bb150;have q158:=q137.l bb150;have q159:=q128.l bb150;have r160:=r138.l bb150;have r161:=r139.l bb150;have r162:=r140.l bb150;have r163:=r141.l bb150;have r164:=r142.l bb150;have r165:=r143.l bb150;have r166:=r144.l bb150;have r167:=r145.l bb150;have r168:=r146.l bb150;have r169:=r147.l bb150;have b170:=aa b148 bb150;obtain⟨p6o,p6c,hv⟩:=r1x153.shape;subst hv;obtain⟨q6o,q6c,hv⟩:=r2x154.shape;subst hv;clear q134 q135 q136 q137 q128 r138 r139 r140 r141 r142 r143 r144 r145 r146 r147 b148 bb150 H5;obtain⟨W173,hW172,q174,al171⟩:=cA w149 [.bool p6.s,yT p6o p6.n p6c,yi p6.e,.bool q6.s,yT q6o q6.n q6c,yi q6.e] 27;replace hW172:Hid _:=hW172;have hl175:w.heap.size≤w149.heap.size:=b170.size;have hl176:=q155.lt;have hl177:=q156.lt;have hl178:=q157.lt;have hl179:=q158.lt;have hl180:=q159.lt;have q181:=q155.l al171;have q182:=q156.l al171;have q183:=q157.l al171;have q184:=q158.l al171;have q185:=q159.l al171;have r186:=r160.l al171;have r187:=r161.l al171;have r188:=r162.l al171;have r189:=r163.l al171;have r190:=r164.l al171;have r191:=r165.l al171;have r192:=r166.l al171;have r193:=r167.l al171;have r194:=r168.l al171;have r195:=r169.l al171;have r196:=r1x153.l al171;have r197:=r2x154.l al171;have b198:=aa b170 al171;clear q155 q156 q157 q158 q159 r160 r161 r162 r163 r164 r165 r166 r167 r168 r169 r1x153 r2x154 b170 al171
 go_upto_region 9 with fail
 rw[hW172.out];clear hW172;obtain⟨c199,c200,c201,c202,c203,c204⟩:=q181.cs6;obtain⟨c205,c206,c207,c208,c209,c210⟩:=q182.cs6
 go_wp2_with fail
 refine(M0.out _ _ _ _ _ _ _ _ _ b198 r186 r187 r188 r189).mono ?_;rintro zz w211 ⟨rfl,bb212⟩;have q213:=q183.l bb212;have q214:=q184.l bb212;have q215:=q185.l bb212;have q216:=q174.l bb212;have r217:=r190.l bb212;have r218:=r191.l bb212;have r219:=r192.l bb212;have r220:=r193.l bb212;have r221:=r194.l bb212;have r222:=r195.l bb212;have r223:=r196.l bb212;have r224:=r197.l bb212;have b225:=aa b198 bb212;clear q181 q182 q183 q184 q185 q174 r186 r187 r188 r189 r190 r191 r192 r193 r194 r195 r196 r197 b198 bb212 M0 c199 c200 c201 c202 c203 c204 c205 c206 c207 c208 c209 c210;obtain⟨c226,c227,c228,c229,c230,c231⟩:=q213.cs6;obtain⟨c232,c233,c234,c235,c236,c237⟩:=q214.cs6
 go_wp2_with fail
 refine(M1.out _ _ _ _ _ _ _ _ _ b225 r217 r218 r219 r220).mono ?_;rintro zz w238 ⟨rfl,bb239⟩;have q240:=q215.l bb239;have q241:=q216.l bb239;have r242:=r221.l bb239;have r243:=r222.l bb239;have r244:=r223.l bb239;have r245:=r224.l bb239;have b246:=aa b225 bb239;clear q213 q214 q215 q216 r217 r218 r219 r220 r221 r222 r223 r224 b225 bb239 M1 c226 c227 c228 c229 c230 c231 c232 c233 c234 c235 c236 c237;obtain⟨c247,c248,c249,c250,c251,c252⟩:=q240.cs6;obtain⟨c253,c254,c255,c256,c257,c258⟩:=q241.cs6
 go_wp2_with fail
 refine(M2.out _ _ _ _ _ _ _ _ _ b246 r242 r243 r244 r245).mono ?_;rintro zz w259 ⟨rfl,bb260⟩;have b261:=aa b246 bb260;clear q240 q241 r242 r243 r244 r245 b246 bb260 M2 c247 c248 c249 c250 c251 c252 c253 c254 c255 c256 c257 c258
 go_wp2
 go_ret
 exact⟨by simp,b261⟩
theorem nested_003 (p1 q1 p2 q2 p3 q3 p4 q4 p5 q5 p6 q6:ak)(xa xb n:Int)(w:World)
  (HB:yH w 8 #[] (.bool true))
  (H0: ∀w1,yB w w1→yC 7 #[yi xa] w1 (BRd w1 p1 q1 0))
  (H1: ∀w1,yB w w1→yC 7 #[yi xb] w1 (BRd w1 p2 q2 0))
  (H2: ∀w1,yB w w1→yC 13 #[yi xa] w1 (BRd w1 p3 q3 0))
  (H3: ∀w1,yB w w1→yC 13 #[yi xb] w1 (BRd w1 p4 q4 0))
  (H4: ∀w1,yB w w1→yC 16 #[yi n,yi xa] w1 (BRd w1 p5 q5 3))
  (H5: ∀w1,yB w w1→yC 16 #[yi n,yi xb] w1 (BRd w1 p6 q6 3))
  (M0: ∀p1o p1c q1o q1c p2o p2c q2o q2c w1,yB w w1→Rd w1 .u32 (yT p1o p1.n p1c) (Dg.dg 4294967296 p1.n)→Rd w1 .u32 (yT q1o q1.n q1c) (Dg.dg 4294967296 q1.n)→Rd w1 .u32 (yT p2o p2.n p2c) (Dg.dg 4294967296 p2.n)→Rd w1 .u32 (yT q2o q2.n q2c) (Dg.dg 4294967296 q2.n)→yC 18 #[.agg #[.bool p1.s,yT p1o p1.n p1c,yi p1.e,.bool q1.s,yT q1o q1.n q1c,yi q1.e],.agg #[.bool p2.s,yT p2o p2.n p2c,yi p2.e,.bool q2.s,yT q2o q2.n q2c,yi q2.e]] w1 (yR w1 (.bool true)))
  (M1: ∀p3o p3c q3o q3c p4o p4c q4o q4c w1,yB w w1→Rd w1 .u32 (yT p3o p3.n p3c) (Dg.dg 4294967296 p3.n)→Rd w1 .u32 (yT q3o q3.n q3c) (Dg.dg 4294967296 q3.n)→Rd w1 .u32 (yT p4o p4.n p4c) (Dg.dg 4294967296 p4.n)→Rd w1 .u32 (yT q4o q4.n q4c) (Dg.dg 4294967296 q4.n)→yC 18 #[.agg #[.bool p3.s,yT p3o p3.n p3c,yi p3.e,.bool q3.s,yT q3o q3.n q3c,yi q3.e],.agg #[.bool p4.s,yT p4o p4.n p4c,yi p4.e,.bool q4.s,yT q4o q4.n q4c,yi q4.e]] w1 (yR w1 (.bool true))):
  yC 6 #[yi xa,yi xb,yi n] w (yR w (.bool true)):=by
 replace HB:Hid _:=HB;replace H0:Hid _:=H0;replace H1:Hid _:=H1;replace H2:Hid _:=H2;replace H3:Hid _:=H3;replace H4:Hid _:=H4;replace H5:Hid _:=H5;replace M0:Hid _:=M0;replace M1:Hid _:=M1
 go_enter Tryd.func6,Tryd.ntmps6
 have b0:=Below.refl w.heap.size w
 go_wp2_with fail
 refine(HB.out _ b0).mono ?_;rintro zz w1 ⟨rfl,bb2⟩;have b3:=aa b0 bb2;clear b0 bb2 HB
 go_wp2_with fail
 refine(H0.out _ b3).mono ?_;rintro zz w4 ⟨v1x6,v2x7,rfl,r1x8,r2x9,bb5⟩;have b10:=aa b3 bb5;obtain⟨p1o,p1c,hv⟩:=r1x8.shape;subst hv;obtain⟨q1o,q1c,hv⟩:=r2x9.shape;subst hv;clear b3 bb5 H0;obtain⟨W13,hW12,q14,al11⟩:=cA w4 [.bool p1.s,yT p1o p1.n p1c,yi p1.e,.bool q1.s,yT q1o q1.n q1c,yi q1.e] 27;replace hW12:Hid _:=hW12;have hl15:w.heap.size≤w4.heap.size:=b10.size;have r16:=r1x8.l al11;have r17:=r2x9.l al11;have b18:=aa b10 al11;clear r1x8 r2x9 b10 al11
 go_upto_region 4 with fail
 rw[hW12.out];clear hW12
 go_wp2_with fail
 refine(H1.out _ b18).mono ?_;rintro zz w19 ⟨v1x21,v2x22,rfl,r1x23,r2x24,bb20⟩;have q25:=q14.l bb20;have r26:=r16.l bb20;have r27:=r17.l bb20;have b28:=aa b18 bb20;obtain⟨p2o,p2c,hv⟩:=r1x23.shape;subst hv;obtain⟨q2o,q2c,hv⟩:=r2x24.shape;subst hv;clear q14 r16 r17 b18 bb20 H1;obtain⟨W31,hW30,q32,al29⟩:=cA w19 [.bool p2.s,yT p2o p2.n p2c,yi p2.e,.bool q2.s,yT q2o q2.n q2c,yi q2.e] 27;replace hW30:Hid _:=hW30;have hl33:w.heap.size≤w19.heap.size:=b28.size;have hl34:=q25.lt;have q35:=q25.l al29;have r36:=r26.l al29;have r37:=r27.l al29;have r38:=r1x23.l al29;have r39:=r2x24.l al29;have b40:=aa b28 al29;clear q25 r26 r27 r1x23 r2x24 b28 al29
 go_upto_region 5 with fail
 rw[hW30.out];clear hW30
 go_wp2_with fail
 refine(H2.out _ b40).mono ?_;rintro zz w41 ⟨v1x43,v2x44,rfl,r1x45,r2x46,bb42⟩;have q47:=q35.l bb42;have q48:=q32.l bb42;have r49:=r36.l bb42;have r50:=r37.l bb42;have r51:=r38.l bb42;have r52:=r39.l bb42;have b53:=aa b40 bb42;obtain⟨p3o,p3c,hv⟩:=r1x45.shape;subst hv;obtain⟨q3o,q3c,hv⟩:=r2x46.shape;subst hv;clear q35 q32 r36 r37 r38 r39 b40 bb42 H2;obtain⟨W56,hW55,q57,al54⟩:=cA w41 [.bool p3.s,yT p3o p3.n p3c,yi p3.e,.bool q3.s,yT q3o q3.n q3c,yi q3.e] 27;replace hW55:Hid _:=hW55;have hl58:w.heap.size≤w41.heap.size:=b53.size;have hl59:=q47.lt;have hl60:=q48.lt;have q61:=q47.l al54;have q62:=q48.l al54;have r63:=r49.l al54;have r64:=r50.l al54;have r65:=r51.l al54;have r66:=r52.l al54;have r67:=r1x45.l al54;have r68:=r2x46.l al54;have b69:=aa b53 al54;clear q47 q48 r49 r50 r51 r52 r1x45 r2x46 b53 al54
 go_upto_region 6 with fail
 rw[hW55.out];clear hW55
 go_wp2_with fail
 refine(H3.out _ b69).mono ?_;rintro zz w70 ⟨v1x72,v2x73,rfl,r1x74,r2x75,bb71⟩;have q76:=q61.l bb71;have q77:=q62.l bb71;have q78:=q57.l bb71;have r79:=r63.l bb71;have r80:=r64.l bb71;have r81:=r65.l bb71;have r82:=r66.l bb71;have r83:=r67.l bb71;have r84:=r68.l bb71;have b85:=aa b69 bb71;obtain⟨p4o,p4c,hv⟩:=r1x74.shape;subst hv;obtain⟨q4o,q4c,hv⟩:=r2x75.shape;subst hv;clear q61 q62 q57 r63 r64 r65 r66 r67 r68 b69 bb71 H3;obtain⟨W88,hW87,q89,al86⟩:=cA w70 [.bool p4.s,yT p4o p4.n p4c,yi p4.e,.bool q4.s,yT q4o q4.n q4c,yi q4.e] 27;replace hW87:Hid _:=hW87;have hl90:w.heap.size≤w70.heap.size:=b85.size;have hl91:=q76.lt;have hl92:=q77.lt;have hl93:=q78.lt;have q94:=q76.l al86;have q95:=q77.l al86;have q96:=q78.l al86;have r97:=r79.l al86;have r98:=r80.l al86;have r99:=r81.l al86;have r100:=r82.l al86;have r101:=r83.l al86;have r102:=r84.l al86;have r103:=r1x74.l al86;have r104:=r2x75.l al86;have b105:=aa b85 al86;clear q76 q77 q78 r79 r80 r81 r82 r83 r84 r1x74 r2x75 b85 al86
 go_upto_region 7 with fail
 rw[hW87.out];clear hW87
 go_wp2_with fail
 refine(H4.out _ b105).mono ?_;rintro zz w106 ⟨v1x108,v2x109,rfl,r1x110,r2x111,bb107⟩;have q112:=q94.l bb107;have q113:=q95.l bb107;have q114:=q96.l bb107;have q115:=q89.l bb107;have r116:=r97.l bb107;have r117:=r98.l bb107;have r118:=r99.l bb107;have r119:=r100.l bb107;have r120:=r101.l bb107;have r121:=r102.l bb107;have r122:=r103.l bb107;have r123:=r104.l bb107;have b124:=aa b105 bb107;obtain⟨p5o,p5c,hv⟩:=r1x110.shape;subst hv;obtain⟨q5o,q5c,hv⟩:=r2x111.shape;subst hv;clear q94 q95 q96 q89 r97 r98 r99 r100 r101 r102 r103 r104 b105 bb107 H4;obtain⟨W127,hW126,q128,al125⟩:=cA w106 [.bool p5.s,yT p5o p5.n p5c,yi p5.e,.bool q5.s,yT q5o q5.n q5c,yi q5.e] 27;replace hW126:Hid _:=hW126;have hl129:w.heap.size≤w106.heap.size:=b124.size;have hl130:=q112.lt;have hl131:=q113.lt;have hl132:=q114.lt;have hl133:=q115.lt;have q134:=q112.l al125;have q135:=q113.l al125;have q136:=q114.l al125;have q137:=q115.l al125;have r138:=r116.l al125;have r139:=r117.l al125;have r140:=r118.l al125;have r141:=r119.l al125;have r142:=r120.l al125;have r143:=r121.l al125;have r144:=r122.l al125;have r145:=r123.l al125;have b146:=aa b124 al125;clear q112 q113 q114 q115 r116 r117 r118 r119 r120 r121 r122 r123 r1x110 r2x111 b124 al125 q128
 go_upto_region 8 with fail
 rw[hW126.out];clear hW126
 go_wp2_with fail
 refine(H5.out _ b146).mono ?_;rintro zz w147 ⟨v1x149,v2x150,rfl,r1x151,r2x152,bb148⟩;have q153:=q134.l bb148;have q154:=q135.l bb148;have q155:=q136.l bb148;have q156:=q137.l bb148;have r157:=r138.l bb148;have r158:=r139.l bb148;have r159:=r140.l bb148;have r160:=r141.l bb148;have r161:=r142.l bb148;have r162:=r143.l bb148;have r163:=r144.l bb148;have r164:=r145.l bb148;have b165:=aa b146 bb148;obtain⟨p6o,p6c,hv⟩:=r1x151.shape;subst hv;obtain⟨q6o,q6c,hv⟩:=r2x152.shape;subst hv;clear q134 q135 q136 q137 r138 r139 r140 r141 r142 r143 r144 r145 b146 bb148 H5;obtain⟨W168,hW167,q169,al166⟩:=cA w147 [.bool p6.s,yT p6o p6.n p6c,yi p6.e,.bool q6.s,yT q6o q6.n q6c,yi q6.e] 27;replace hW167:Hid _:=hW167;have hl170:w.heap.size≤w147.heap.size:=b165.size;have hl171:=q153.lt;have hl172:=q154.lt;have hl173:=q155.lt;have hl174:=q156.lt;have q175:=q153.l al166;have q176:=q154.l al166;have q177:=q155.l al166;have q178:=q156.l al166;have r179:=r157.l al166;have r180:=r158.l al166;have r181:=r159.l al166;have r182:=r160.l al166;have r183:=r161.l al166;have r184:=r162.l al166;have r185:=r163.l al166;have r186:=r164.l al166;have b187:=aa b165 al166;clear q153 q154 q155 q156 r157 r158 r159 r160 r161 r162 r163 r164 r1x151 r2x152 b165 al166 q169
 go_upto_region 9 with fail
 rw[hW167.out];clear hW167;obtain⟨c188,c189,c190,c191,c192,c193⟩:=q175.cs6;obtain⟨c194,c195,c196,c197,c198,c199⟩:=q176.cs6
 go_wp2_with fail
 refine(M0.out _ _ _ _ _ _ _ _ _ b187 r179 r180 r181 r182).mono ?_;rintro zz w200 ⟨rfl,bb201⟩;have q202:=q177.l bb201;have q203:=q178.l bb201;have r204:=r183.l bb201;have r205:=r184.l bb201;have r206:=r185.l bb201;have r207:=r186.l bb201;have b208:=aa b187 bb201;clear q175 q176 q177 q178 r179 r180 r181 r182 r183 r184 r185 r186 b187 bb201 M0 c188 c189 c190 c191 c192 c193 c194 c195 c196 c197 c198 c199;obtain⟨c209,c210,c211,c212,c213,c214⟩:=q202.cs6;obtain⟨c215,c216,c217,c218,c219,c220⟩:=q203.cs6
 go_wp2_with fail
 refine(M1.out _ _ _ _ _ _ _ _ _ b208 r204 r205 r206 r207).mono ?_;rintro zz w221 ⟨rfl,bb222⟩;have b223:=aa b208 bb222;clear q202 q203 r204 r205 r206 r207 b208 bb222 M1 c209 c210 c211 c212 c213 c214 c215 c216 c217 c218 c219 c220
 go_wp2
 go_ret
 exact⟨by simp,b223⟩
theorem nested_030 (p1 q1 p2 q2 p3 q3 p4 q4 p5 q5 p6 q6:ak)(xa xb n:Int)(w:World)
  (HB:yH w 8 #[] (.bool true))
  (H0: ∀w1,yB w w1→yC 7 #[yi xa] w1 (BRd w1 p1 q1 0))
  (H1: ∀w1,yB w w1→yC 7 #[yi xb] w1 (BRd w1 p2 q2 3))
  (H2: ∀w1,yB w w1→yC 13 #[yi xa] w1 (BRd w1 p3 q3 0))
  (H3: ∀w1,yB w w1→yC 13 #[yi xb] w1 (BRd w1 p4 q4 3))
  (H4: ∀w1,yB w w1→yC 16 #[yi n,yi xa] w1 (BRd w1 p5 q5 0))
  (H5: ∀w1,yB w w1→yC 16 #[yi n,yi xb] w1 (BRd w1 p6 q6 3)):
  yC 6 #[yi xa,yi xb,yi n] w (yR w (.bool true)):=by
 replace HB:Hid _:=HB;replace H0:Hid _:=H0;replace H1:Hid _:=H1;replace H2:Hid _:=H2;replace H3:Hid _:=H3;replace H4:Hid _:=H4;replace H5:Hid _:=H5
 go_enter Tryd.func6,Tryd.ntmps6
 have b0:=Below.refl w.heap.size w
 go_wp2_with fail
 refine(HB.out _ b0).mono ?_;rintro zz w1 ⟨rfl,bb2⟩;have b3:=aa b0 bb2;clear b0 bb2 HB
 go_wp2_with fail
 refine(H0.out _ b3).mono ?_;rintro zz w4 ⟨v1x6,v2x7,rfl,r1x8,r2x9,bb5⟩;have b10:=aa b3 bb5;obtain⟨p1o,p1c,hv⟩:=r1x8.shape;subst hv;obtain⟨q1o,q1c,hv⟩:=r2x9.shape;subst hv;clear b3 bb5 H0;obtain⟨W13,hW12,q14,al11⟩:=cA w4 [.bool p1.s,yT p1o p1.n p1c,yi p1.e,.bool q1.s,yT q1o q1.n q1c,yi q1.e] 27;replace hW12:Hid _:=hW12;have hl15:w.heap.size≤w4.heap.size:=b10.size;have b16:=aa b10 al11;clear r1x8 r2x9 b10 al11 q14
 go_upto_region 4 with fail
 rw[hW12.out];clear hW12
 go_wp2_with fail
 refine(H1.out _ b16).mono ?_;rintro zz w17 ⟨v1x19,v2x20,rfl,r1x21,r2x22,bb18⟩;have b23:=aa b16 bb18;obtain⟨p2o,p2c,hv⟩:=r1x21.shape;subst hv;obtain⟨q2o,q2c,hv⟩:=r2x22.shape;subst hv;clear b16 bb18 H1;obtain⟨W26,hW25,q27,al24⟩:=cA w17 [.bool p2.s,yT p2o p2.n p2c,yi p2.e,.bool q2.s,yT q2o q2.n q2c,yi q2.e] 27;replace hW25:Hid _:=hW25;have hl28:w.heap.size≤w17.heap.size:=b23.size;have b29:=aa b23 al24;clear r1x21 r2x22 b23 al24 q27
 go_upto_region 5 with fail
 rw[hW25.out];clear hW25
 go_wp2_with fail
 refine(H2.out _ b29).mono ?_;rintro zz w30 ⟨v1x32,v2x33,rfl,r1x34,r2x35,bb31⟩;have b36:=aa b29 bb31;obtain⟨p3o,p3c,hv⟩:=r1x34.shape;subst hv;obtain⟨q3o,q3c,hv⟩:=r2x35.shape;subst hv;clear b29 bb31 H2;obtain⟨W39,hW38,q40,al37⟩:=cA w30 [.bool p3.s,yT p3o p3.n p3c,yi p3.e,.bool q3.s,yT q3o q3.n q3c,yi q3.e] 27;replace hW38:Hid _:=hW38;have hl41:w.heap.size≤w30.heap.size:=b36.size;have b42:=aa b36 al37;clear r1x34 r2x35 b36 al37 q40
 go_upto_region 6 with fail
 rw[hW38.out];clear hW38
 go_wp2_with fail
 refine(H3.out _ b42).mono ?_;rintro zz w43 ⟨v1x45,v2x46,rfl,r1x47,r2x48,bb44⟩;have b49:=aa b42 bb44;obtain⟨p4o,p4c,hv⟩:=r1x47.shape;subst hv;obtain⟨q4o,q4c,hv⟩:=r2x48.shape;subst hv;clear b42 bb44 H3;obtain⟨W52,hW51,q53,al50⟩:=cA w43 [.bool p4.s,yT p4o p4.n p4c,yi p4.e,.bool q4.s,yT q4o q4.n q4c,yi q4.e] 27;replace hW51:Hid _:=hW51;have hl54:w.heap.size≤w43.heap.size:=b49.size;have b55:=aa b49 al50;clear r1x47 r2x48 b49 al50 q53
 go_upto_region 7 with fail
 rw[hW51.out];clear hW51
 go_wp2_with fail
 refine(H4.out _ b55).mono ?_;rintro zz w56 ⟨v1x58,v2x59,rfl,r1x60,r2x61,bb57⟩;have b62:=aa b55 bb57;obtain⟨p5o,p5c,hv⟩:=r1x60.shape;subst hv;obtain⟨q5o,q5c,hv⟩:=r2x61.shape;subst hv;clear b55 bb57 H4;obtain⟨W65,hW64,q66,al63⟩:=cA w56 [.bool p5.s,yT p5o p5.n p5c,yi p5.e,.bool q5.s,yT q5o q5.n q5c,yi q5.e] 27;replace hW64:Hid _:=hW64;have hl67:w.heap.size≤w56.heap.size:=b62.size;have b68:=aa b62 al63;clear r1x60 r2x61 b62 al63 q66
 go_upto_region 8 with fail
 rw[hW64.out];clear hW64
 go_wp2_with fail
 refine(H5.out _ b68).mono ?_;rintro zz w69 ⟨v1x71,v2x72,rfl,r1x73,r2x74,bb70⟩;have b75:=aa b68 bb70;obtain⟨p6o,p6c,hv⟩:=r1x73.shape;subst hv;obtain⟨q6o,q6c,hv⟩:=r2x74.shape;subst hv;clear b68 bb70 H5;obtain⟨W78,hW77,q79,al76⟩:=cA w69 [.bool p6.s,yT p6o p6.n p6c,yi p6.e,.bool q6.s,yT q6o q6.n q6c,yi q6.e] 27;replace hW77:Hid _:=hW77;have hl80:w.heap.size≤w69.heap.size:=b75.size;have b81:=aa b75 al76;clear r1x73 r2x74 b75 al76 q79
 go_upto_region 9 with fail
 rw[hW77.out];clear hW77
 go_wp2
 go_ret
 exact⟨by simp,b81⟩
theorem nested_033 (p1 q1 p2 q2 p3 q3 p4 q4 p5 q5 p6 q6:ak)(xa xb n:Int)(w:World)
  (HB:yH w 8 #[] (.bool true))
  (H0: ∀w1,yB w w1→yC 7 #[yi xa] w1 (BRd w1 p1 q1 0))
  (H1: ∀w1,yB w w1→yC 7 #[yi xb] w1 (BRd w1 p2 q2 3))
  (H2: ∀w1,yB w w1→yC 13 #[yi xa] w1 (BRd w1 p3 q3 0))
  (H3: ∀w1,yB w w1→yC 13 #[yi xb] w1 (BRd w1 p4 q4 3))
  (H4: ∀w1,yB w w1→yC 16 #[yi n,yi xa] w1 (BRd w1 p5 q5 3))
  (H5: ∀w1,yB w w1→yC 16 #[yi n,yi xb] w1 (BRd w1 p6 q6 3)):
  yC 6 #[yi xa,yi xb,yi n] w (yR w (.bool true)):=by
 replace HB:Hid _:=HB;replace H0:Hid _:=H0;replace H1:Hid _:=H1;replace H2:Hid _:=H2;replace H3:Hid _:=H3;replace H4:Hid _:=H4;replace H5:Hid _:=H5
 go_enter Tryd.func6,Tryd.ntmps6
 have b0:=Below.refl w.heap.size w
 go_wp2_with fail
 refine(HB.out _ b0).mono ?_;rintro zz w1 ⟨rfl,bb2⟩;have b3:=aa b0 bb2;clear b0 bb2 HB
 go_wp2_with fail
 refine(H0.out _ b3).mono ?_;rintro zz w4 ⟨v1x6,v2x7,rfl,r1x8,r2x9,bb5⟩;have b10:=aa b3 bb5;obtain⟨p1o,p1c,hv⟩:=r1x8.shape;subst hv;obtain⟨q1o,q1c,hv⟩:=r2x9.shape;subst hv;clear b3 bb5 H0;obtain⟨W13,hW12,q14,al11⟩:=cA w4 [.bool p1.s,yT p1o p1.n p1c,yi p1.e,.bool q1.s,yT q1o q1.n q1c,yi q1.e] 27;replace hW12:Hid _:=hW12;have hl15:w.heap.size≤w4.heap.size:=b10.size;have b16:=aa b10 al11;clear r1x8 r2x9 b10 al11 q14
 go_upto_region 4 with fail
 rw[hW12.out];clear hW12
 go_wp2_with fail
 refine(H1.out _ b16).mono ?_;rintro zz w17 ⟨v1x19,v2x20,rfl,r1x21,r2x22,bb18⟩;have b23:=aa b16 bb18;obtain⟨p2o,p2c,hv⟩:=r1x21.shape;subst hv;obtain⟨q2o,q2c,hv⟩:=r2x22.shape;subst hv;clear b16 bb18 H1;obtain⟨W26,hW25,q27,al24⟩:=cA w17 [.bool p2.s,yT p2o p2.n p2c,yi p2.e,.bool q2.s,yT q2o q2.n q2c,yi q2.e] 27;replace hW25:Hid _:=hW25;have hl28:w.heap.size≤w17.heap.size:=b23.size;have b29:=aa b23 al24;clear r1x21 r2x22 b23 al24 q27
 go_upto_region 5 with fail
 rw[hW25.out];clear hW25
 go_wp2_with fail
 refine(H2.out _ b29).mono ?_;rintro zz w30 ⟨v1x32,v2x33,rfl,r1x34,r2x35,bb31⟩;have b36:=aa b29 bb31;obtain⟨p3o,p3c,hv⟩:=r1x34.shape;subst hv;obtain⟨q3o,q3c,hv⟩:=r2x35.shape;subst hv;clear b29 bb31 H2;obtain⟨W39,hW38,q40,al37⟩:=cA w30 [.bool p3.s,yT p3o p3.n p3c,yi p3.e,.bool q3.s,yT q3o q3.n q3c,yi q3.e] 27;replace hW38:Hid _:=hW38;have hl41:w.heap.size≤w30.heap.size:=b36.size;have b42:=aa b36 al37;clear r1x34 r2x35 b36 al37 q40
 go_upto_region 6 with fail
 rw[hW38.out];clear hW38
 go_wp2_with fail
 refine(H3.out _ b42).mono ?_;rintro zz w43 ⟨v1x45,v2x46,rfl,r1x47,r2x48,bb44⟩;have b49:=aa b42 bb44;obtain⟨p4o,p4c,hv⟩:=r1x47.shape;subst hv;obtain⟨q4o,q4c,hv⟩:=r2x48.shape;subst hv;clear b42 bb44 H3;obtain⟨W52,hW51,q53,al50⟩:=cA w43 [.bool p4.s,yT p4o p4.n p4c,yi p4.e,.bool q4.s,yT q4o q4.n q4c,yi q4.e] 27;replace hW51:Hid _:=hW51;have hl54:w.heap.size≤w43.heap.size:=b49.size;have b55:=aa b49 al50;clear r1x47 r2x48 b49 al50 q53
 go_upto_region 7 with fail
 rw[hW51.out];clear hW51
 go_wp2_with fail
 refine(H4.out _ b55).mono ?_;rintro zz w56 ⟨v1x58,v2x59,rfl,r1x60,r2x61,bb57⟩;have b62:=aa b55 bb57;obtain⟨p5o,p5c,hv⟩:=r1x60.shape;subst hv;obtain⟨q5o,q5c,hv⟩:=r2x61.shape;subst hv;clear b55 bb57 H4;obtain⟨W65,hW64,q66,al63⟩:=cA w56 [.bool p5.s,yT p5o p5.n p5c,yi p5.e,.bool q5.s,yT q5o q5.n q5c,yi q5.e] 27;replace hW64:Hid _:=hW64;have hl67:w.heap.size≤w56.heap.size:=b62.size;have b68:=aa b62 al63;clear r1x60 r2x61 b62 al63 q66
 go_upto_region 8 with fail
 rw[hW64.out];clear hW64
 go_wp2_with fail
 refine(H5.out _ b68).mono ?_;rintro zz w69 ⟨v1x71,v2x72,rfl,r1x73,r2x74,bb70⟩;have b75:=aa b68 bb70;obtain⟨p6o,p6c,hv⟩:=r1x73.shape;subst hv;obtain⟨q6o,q6c,hv⟩:=r2x74.shape;subst hv;clear b68 bb70 H5;obtain⟨W78,hW77,q79,al76⟩:=cA w69 [.bool p6.s,yT p6o p6.n p6c,yi p6.e,.bool q6.s,yT q6o q6.n q6c,yi q6.e] 27;replace hW77:Hid _:=hW77;have hl80:w.heap.size≤w69.heap.size:=b75.size;have b81:=aa b75 al76;clear r1x73 r2x74 b75 al76 q79
 go_upto_region 9 with fail
 rw[hW77.out];clear hW77
 go_wp2
 go_ret
 exact⟨by simp,b81⟩
theorem nested_300 (p1 q1 p2 q2 p3 q3 p4 q4 p5 q5 p6 q6:ak)(xa xb n:Int)(w:World)
  (HB:yH w 8 #[] (.bool true))
  (H0: ∀w1,yB w w1→yC 7 #[yi xa] w1 (BRd w1 p1 q1 3))
  (H1: ∀w1,yB w w1→yC 7 #[yi xb] w1 (BRd w1 p2 q2 0))
  (H2: ∀w1,yB w w1→yC 13 #[yi xa] w1 (BRd w1 p3 q3 3))
  (H3: ∀w1,yB w w1→yC 13 #[yi xb] w1 (BRd w1 p4 q4 0))
  (H4: ∀w1,yB w w1→yC 16 #[yi n,yi xa] w1 (BRd w1 p5 q5 3))
  (H5: ∀w1,yB w w1→yC 16 #[yi n,yi xb] w1 (BRd w1 p6 q6 0)):
  yC 6 #[yi xa,yi xb,yi n] w (yR w (.bool true)):=by
 replace HB:Hid _:=HB;replace H0:Hid _:=H0;replace H1:Hid _:=H1;replace H2:Hid _:=H2;replace H3:Hid _:=H3;replace H4:Hid _:=H4;replace H5:Hid _:=H5
 go_enter Tryd.func6,Tryd.ntmps6
 have b0:=Below.refl w.heap.size w
 go_wp2_with fail
 refine(HB.out _ b0).mono ?_;rintro zz w1 ⟨rfl,bb2⟩;have b3:=aa b0 bb2;clear b0 bb2 HB
 go_wp2_with fail
 refine(H0.out _ b3).mono ?_;rintro zz w4 ⟨v1x6,v2x7,rfl,r1x8,r2x9,bb5⟩;have b10:=aa b3 bb5;obtain⟨p1o,p1c,hv⟩:=r1x8.shape;subst hv;obtain⟨q1o,q1c,hv⟩:=r2x9.shape;subst hv;clear b3 bb5 H0;obtain⟨W13,hW12,q14,al11⟩:=cA w4 [.bool p1.s,yT p1o p1.n p1c,yi p1.e,.bool q1.s,yT q1o q1.n q1c,yi q1.e] 27;replace hW12:Hid _:=hW12;have hl15:w.heap.size≤w4.heap.size:=b10.size;have b16:=aa b10 al11;clear r1x8 r2x9 b10 al11 q14
 go_upto_region 4 with fail
 rw[hW12.out];clear hW12
 go_wp2_with fail
 refine(H1.out _ b16).mono ?_;rintro zz w17 ⟨v1x19,v2x20,rfl,r1x21,r2x22,bb18⟩;have b23:=aa b16 bb18;obtain⟨p2o,p2c,hv⟩:=r1x21.shape;subst hv;obtain⟨q2o,q2c,hv⟩:=r2x22.shape;subst hv;clear b16 bb18 H1;obtain⟨W26,hW25,q27,al24⟩:=cA w17 [.bool p2.s,yT p2o p2.n p2c,yi p2.e,.bool q2.s,yT q2o q2.n q2c,yi q2.e] 27;replace hW25:Hid _:=hW25;have hl28:w.heap.size≤w17.heap.size:=b23.size;have b29:=aa b23 al24;clear r1x21 r2x22 b23 al24 q27
 go_upto_region 5 with fail
 rw[hW25.out];clear hW25
 go_wp2_with fail
 refine(H2.out _ b29).mono ?_;rintro zz w30 ⟨v1x32,v2x33,rfl,r1x34,r2x35,bb31⟩;have b36:=aa b29 bb31;obtain⟨p3o,p3c,hv⟩:=r1x34.shape;subst hv;obtain⟨q3o,q3c,hv⟩:=r2x35.shape;subst hv;clear b29 bb31 H2;obtain⟨W39,hW38,q40,al37⟩:=cA w30 [.bool p3.s,yT p3o p3.n p3c,yi p3.e,.bool q3.s,yT q3o q3.n q3c,yi q3.e] 27;replace hW38:Hid _:=hW38;have hl41:w.heap.size≤w30.heap.size:=b36.size;have b42:=aa b36 al37;clear r1x34 r2x35 b36 al37 q40
 go_upto_region 6 with fail
 rw[hW38.out];clear hW38
 go_wp2_with fail
 refine(H3.out _ b42).mono ?_;rintro zz w43 ⟨v1x45,v2x46,rfl,r1x47,r2x48,bb44⟩;have b49:=aa b42 bb44;obtain⟨p4o,p4c,hv⟩:=r1x47.shape;subst hv;obtain⟨q4o,q4c,hv⟩:=r2x48.shape;subst hv;clear b42 bb44 H3;obtain⟨W52,hW51,q53,al50⟩:=cA w43 [.bool p4.s,yT p4o p4.n p4c,yi p4.e,.bool q4.s,yT q4o q4.n q4c,yi q4.e] 27;replace hW51:Hid _:=hW51;have hl54:w.heap.size≤w43.heap.size:=b49.size;have b55:=aa b49 al50;clear r1x47 r2x48 b49 al50 q53
 go_upto_region 7 with fail
 rw[hW51.out];clear hW51
 go_wp2_with fail
 refine(H4.out _ b55).mono ?_;rintro zz w56 ⟨v1x58,v2x59,rfl,r1x60,r2x61,bb57⟩;have b62:=aa b55 bb57;obtain⟨p5o,p5c,hv⟩:=r1x60.shape;subst hv;obtain⟨q5o,q5c,hv⟩:=r2x61.shape;subst hv;clear b55 bb57 H4;obtain⟨W65,hW64,q66,al63⟩:=cA w56 [.bool p5.s,yT p5o p5.n p5c,yi p5.e,.bool q5.s,yT q5o q5.n q5c,yi q5.e] 27;replace hW64:Hid _:=hW64;have hl67:w.heap.size≤w56.heap.size:=b62.size;have b68:=aa b62 al63;clear r1x60 r2x61 b62 al63 q66
 go_upto_region 8 with fail
 rw[hW64.out];clear hW64
 go_wp2_with fail
 refine(H5.out _ b68).mono ?_;rintro zz w69 ⟨v1x71,v2x72,rfl,r1x73,r2x74,bb70⟩;have b75:=aa b68 bb70;obtain⟨p6o,p6c,hv⟩:=r1x73.shape;subst hv;obtain⟨q6o,q6c,hv⟩:=r2x74.shape;subst hv;clear b68 bb70 H5;obtain⟨W78,hW77,q79,al76⟩:=cA w69 [.bool p6.s,yT p6o p6.n p6c,yi p6.e,.bool q6.s,yT q6o q6.n q6c,yi q6.e] 27;replace hW77:Hid _:=hW77;have hl80:w.heap.size≤w69.heap.size:=b75.size;have b81:=aa b75 al76;clear r1x73 r2x74 b75 al76 q79
 go_upto_region 9 with fail
 rw[hW77.out];clear hW77
 go_wp2
 go_ret
 exact⟨by simp,b81⟩
theorem nested_303 (p1 q1 p2 q2 p3 q3 p4 q4 p5 q5 p6 q6:ak)(xa xb n:Int)(w:World)
  (HB:yH w 8 #[] (.bool true))
  (H0: ∀w1,yB w w1→yC 7 #[yi xa] w1 (BRd w1 p1 q1 3))
  (H1: ∀w1,yB w w1→yC 7 #[yi xb] w1 (BRd w1 p2 q2 0))
  (H2: ∀w1,yB w w1→yC 13 #[yi xa] w1 (BRd w1 p3 q3 3))
  (H3: ∀w1,yB w w1→yC 13 #[yi xb] w1 (BRd w1 p4 q4 0))
  (H4: ∀w1,yB w w1→yC 16 #[yi n,yi xa] w1 (BRd w1 p5 q5 3))
  (H5: ∀w1,yB w w1→yC 16 #[yi n,yi xb] w1 (BRd w1 p6 q6 3)):
  yC 6 #[yi xa,yi xb,yi n] w (yR w (.bool true)):=by
 replace HB:Hid _:=HB;replace H0:Hid _:=H0;replace H1:Hid _:=H1;replace H2:Hid _:=H2;replace H3:Hid _:=H3;replace H4:Hid _:=H4;replace H5:Hid _:=H5
 go_enter Tryd.func6,Tryd.ntmps6
 have b0:=Below.refl w.heap.size w
 go_wp2_with fail
 refine(HB.out _ b0).mono ?_;rintro zz w1 ⟨rfl,bb2⟩;have b3:=aa b0 bb2;clear b0 bb2 HB
 go_wp2_with fail
 refine(H0.out _ b3).mono ?_;rintro zz w4 ⟨v1x6,v2x7,rfl,r1x8,r2x9,bb5⟩;have b10:=aa b3 bb5;obtain⟨p1o,p1c,hv⟩:=r1x8.shape;subst hv;obtain⟨q1o,q1c,hv⟩:=r2x9.shape;subst hv;clear b3 bb5 H0;obtain⟨W13,hW12,q14,al11⟩:=cA w4 [.bool p1.s,yT p1o p1.n p1c,yi p1.e,.bool q1.s,yT q1o q1.n q1c,yi q1.e] 27;replace hW12:Hid _:=hW12;have hl15:w.heap.size≤w4.heap.size:=b10.size;have b16:=aa b10 al11;clear r1x8 r2x9 b10 al11 q14
 go_upto_region 4 with fail
 rw[hW12.out];clear hW12
 go_wp2_with fail
 refine(H1.out _ b16).mono ?_;rintro zz w17 ⟨v1x19,v2x20,rfl,r1x21,r2x22,bb18⟩;have b23:=aa b16 bb18;obtain⟨p2o,p2c,hv⟩:=r1x21.shape;subst hv;obtain⟨q2o,q2c,hv⟩:=r2x22.shape;subst hv;clear b16 bb18 H1;obtain⟨W26,hW25,q27,al24⟩:=cA w17 [.bool p2.s,yT p2o p2.n p2c,yi p2.e,.bool q2.s,yT q2o q2.n q2c,yi q2.e] 27;replace hW25:Hid _:=hW25;have hl28:w.heap.size≤w17.heap.size:=b23.size;have b29:=aa b23 al24;clear r1x21 r2x22 b23 al24 q27
 go_upto_region 5 with fail
 rw[hW25.out];clear hW25
 go_wp2_with fail
 refine(H2.out _ b29).mono ?_;rintro zz w30 ⟨v1x32,v2x33,rfl,r1x34,r2x35,bb31⟩;have b36:=aa b29 bb31;obtain⟨p3o,p3c,hv⟩:=r1x34.shape;subst hv;obtain⟨q3o,q3c,hv⟩:=r2x35.shape;subst hv;clear b29 bb31 H2;obtain⟨W39,hW38,q40,al37⟩:=cA w30 [.bool p3.s,yT p3o p3.n p3c,yi p3.e,.bool q3.s,yT q3o q3.n q3c,yi q3.e] 27;replace hW38:Hid _:=hW38;have hl41:w.heap.size≤w30.heap.size:=b36.size;have b42:=aa b36 al37;clear r1x34 r2x35 b36 al37 q40
 go_upto_region 6 with fail
 rw[hW38.out];clear hW38
 go_wp2_with fail
 refine(H3.out _ b42).mono ?_;rintro zz w43 ⟨v1x45,v2x46,rfl,r1x47,r2x48,bb44⟩;have b49:=aa b42 bb44;obtain⟨p4o,p4c,hv⟩:=r1x47.shape;subst hv;obtain⟨q4o,q4c,hv⟩:=r2x48.shape;subst hv;clear b42 bb44 H3;obtain⟨W52,hW51,q53,al50⟩:=cA w43 [.bool p4.s,yT p4o p4.n p4c,yi p4.e,.bool q4.s,yT q4o q4.n q4c,yi q4.e] 27;replace hW51:Hid _:=hW51;have hl54:w.heap.size≤w43.heap.size:=b49.size;have b55:=aa b49 al50;clear r1x47 r2x48 b49 al50 q53
 go_upto_region 7 with fail
 rw[hW51.out];clear hW51
 go_wp2_with fail
 refine(H4.out _ b55).mono ?_;rintro zz w56 ⟨v1x58,v2x59,rfl,r1x60,r2x61,bb57⟩;have b62:=aa b55 bb57;obtain⟨p5o,p5c,hv⟩:=r1x60.shape;subst hv;obtain⟨q5o,q5c,hv⟩:=r2x61.shape;subst hv;clear b55 bb57 H4;obtain⟨W65,hW64,q66,al63⟩:=cA w56 [.bool p5.s,yT p5o p5.n p5c,yi p5.e,.bool q5.s,yT q5o q5.n q5c,yi q5.e] 27;replace hW64:Hid _:=hW64;have hl67:w.heap.size≤w56.heap.size:=b62.size;have b68:=aa b62 al63;clear r1x60 r2x61 b62 al63 q66
 go_upto_region 8 with fail
 rw[hW64.out];clear hW64
 go_wp2_with fail
 refine(H5.out _ b68).mono ?_;rintro zz w69 ⟨v1x71,v2x72,rfl,r1x73,r2x74,bb70⟩;have b75:=aa b68 bb70;obtain⟨p6o,p6c,hv⟩:=r1x73.shape;subst hv;obtain⟨q6o,q6c,hv⟩:=r2x74.shape;subst hv;clear b68 bb70 H5;obtain⟨W78,hW77,q79,al76⟩:=cA w69 [.bool p6.s,yT p6o p6.n p6c,yi p6.e,.bool q6.s,yT q6o q6.n q6c,yi q6.e] 27;replace hW77:Hid _:=hW77;have hl80:w.heap.size≤w69.heap.size:=b75.size;have b81:=aa b75 al76;clear r1x73 r2x74 b75 al76 q79
 go_upto_region 9 with fail
 rw[hW77.out];clear hW77
 go_wp2
 go_ret
 exact⟨by simp,b81⟩
theorem nested_330 (p1 q1 p2 q2 p3 q3 p4 q4 p5 q5 p6 q6:ak)(xa xb n:Int)(w:World)
  (HB:yH w 8 #[] (.bool true))
  (H0: ∀w1,yB w w1→yC 7 #[yi xa] w1 (BRd w1 p1 q1 3))
  (H1: ∀w1,yB w w1→yC 7 #[yi xb] w1 (BRd w1 p2 q2 3))
  (H2: ∀w1,yB w w1→yC 13 #[yi xa] w1 (BRd w1 p3 q3 3))
  (H3: ∀w1,yB w w1→yC 13 #[yi xb] w1 (BRd w1 p4 q4 3))
  (H4: ∀w1,yB w w1→yC 16 #[yi n,yi xa] w1 (BRd w1 p5 q5 3))
  (H5: ∀w1,yB w w1→yC 16 #[yi n,yi xb] w1 (BRd w1 p6 q6 3)):
  yC 6 #[yi xa,yi xb,yi n] w (yR w (.bool true)):=by
 replace HB:Hid _:=HB;replace H0:Hid _:=H0;replace H1:Hid _:=H1;replace H2:Hid _:=H2;replace H3:Hid _:=H3;replace H4:Hid _:=H4;replace H5:Hid _:=H5
 go_enter Tryd.func6,Tryd.ntmps6
 have b0:=Below.refl w.heap.size w
 go_wp2_with fail
 refine(HB.out _ b0).mono ?_;rintro zz w1 ⟨rfl,bb2⟩;have b3:=aa b0 bb2;clear b0 bb2 HB
 go_wp2_with fail
 refine(H0.out _ b3).mono ?_;rintro zz w4 ⟨v1x6,v2x7,rfl,r1x8,r2x9,bb5⟩;have b10:=aa b3 bb5;obtain⟨p1o,p1c,hv⟩:=r1x8.shape;subst hv;obtain⟨q1o,q1c,hv⟩:=r2x9.shape;subst hv;clear b3 bb5 H0;obtain⟨W13,hW12,q14,al11⟩:=cA w4 [.bool p1.s,yT p1o p1.n p1c,yi p1.e,.bool q1.s,yT q1o q1.n q1c,yi q1.e] 27;replace hW12:Hid _:=hW12;have hl15:w.heap.size≤w4.heap.size:=b10.size;have b16:=aa b10 al11;clear r1x8 r2x9 b10 al11 q14
 go_upto_region 4 with fail
 rw[hW12.out];clear hW12
 go_wp2_with fail
 refine(H1.out _ b16).mono ?_;rintro zz w17 ⟨v1x19,v2x20,rfl,r1x21,r2x22,bb18⟩;have b23:=aa b16 bb18;obtain⟨p2o,p2c,hv⟩:=r1x21.shape;subst hv;obtain⟨q2o,q2c,hv⟩:=r2x22.shape;subst hv;clear b16 bb18 H1;obtain⟨W26,hW25,q27,al24⟩:=cA w17 [.bool p2.s,yT p2o p2.n p2c,yi p2.e,.bool q2.s,yT q2o q2.n q2c,yi q2.e] 27;replace hW25:Hid _:=hW25;have hl28:w.heap.size≤w17.heap.size:=b23.size;have b29:=aa b23 al24;clear r1x21 r2x22 b23 al24 q27
 go_upto_region 5 with fail
 rw[hW25.out];clear hW25
 go_wp2_with fail
 refine(H2.out _ b29).mono ?_;rintro zz w30 ⟨v1x32,v2x33,rfl,r1x34,r2x35,bb31⟩;have b36:=aa b29 bb31;obtain⟨p3o,p3c,hv⟩:=r1x34.shape;subst hv;obtain⟨q3o,q3c,hv⟩:=r2x35.shape;subst hv;clear b29 bb31 H2;obtain⟨W39,hW38,q40,al37⟩:=cA w30 [.bool p3.s,yT p3o p3.n p3c,yi p3.e,.bool q3.s,yT q3o q3.n q3c,yi q3.e] 27;replace hW38:Hid _:=hW38;have hl41:w.heap.size≤w30.heap.size:=b36.size;have b42:=aa b36 al37;clear r1x34 r2x35 b36 al37 q40
 go_upto_region 6 with fail
 rw[hW38.out];clear hW38
 go_wp2_with fail
 refine(H3.out _ b42).mono ?_;rintro zz w43 ⟨v1x45,v2x46,rfl,r1x47,r2x48,bb44⟩;have b49:=aa b42 bb44;obtain⟨p4o,p4c,hv⟩:=r1x47.shape;subst hv;obtain⟨q4o,q4c,hv⟩:=r2x48.shape;subst hv;clear b42 bb44 H3;obtain⟨W52,hW51,q53,al50⟩:=cA w43 [.bool p4.s,yT p4o p4.n p4c,yi p4.e,.bool q4.s,yT q4o q4.n q4c,yi q4.e] 27;replace hW51:Hid _:=hW51;have hl54:w.heap.size≤w43.heap.size:=b49.size;have b55:=aa b49 al50;clear r1x47 r2x48 b49 al50 q53
 go_upto_region 7 with fail
 rw[hW51.out];clear hW51
 go_wp2_with fail
 refine(H4.out _ b55).mono ?_;rintro zz w56 ⟨v1x58,v2x59,rfl,r1x60,r2x61,bb57⟩;have b62:=aa b55 bb57;obtain⟨p5o,p5c,hv⟩:=r1x60.shape;subst hv;obtain⟨q5o,q5c,hv⟩:=r2x61.shape;subst hv;clear b55 bb57 H4;obtain⟨W65,hW64,q66,al63⟩:=cA w56 [.bool p5.s,yT p5o p5.n p5c,yi p5.e,.bool q5.s,yT q5o q5.n q5c,yi q5.e] 27;replace hW64:Hid _:=hW64;have hl67:w.heap.size≤w56.heap.size:=b62.size;have b68:=aa b62 al63;clear r1x60 r2x61 b62 al63 q66
 go_upto_region 8 with fail
 rw[hW64.out];clear hW64
 go_wp2_with fail
 refine(H5.out _ b68).mono ?_;rintro zz w69 ⟨v1x71,v2x72,rfl,r1x73,r2x74,bb70⟩;have b75:=aa b68 bb70;obtain⟨p6o,p6c,hv⟩:=r1x73.shape;subst hv;obtain⟨q6o,q6c,hv⟩:=r2x74.shape;subst hv;clear b68 bb70 H5;obtain⟨W78,hW77,q79,al76⟩:=cA w69 [.bool p6.s,yT p6o p6.n p6c,yi p6.e,.bool q6.s,yT q6o q6.n q6c,yi q6.e] 27;replace hW77:Hid _:=hW77;have hl80:w.heap.size≤w69.heap.size:=b75.size;have b81:=aa b75 al76;clear r1x73 r2x74 b75 al76 q79
 go_upto_region 9 with fail
 rw[hW77.out];clear hW77
 go_wp2
 go_ret
 exact⟨by simp,b81⟩
theorem meet_any {X b d:Nat}{p q u v:ak}(hG:GoodB X b p q)(hH:GoodB X d u v)(po pc qo qc uo uc vo vc)(w:World)
  (rp:Rd w .u32 (yT po p.n pc) (Dg.dg 4294967296 p.n)) (rq:Rd w .u32 (yT qo q.n qc) (Dg.dg 4294967296 q.n)) (ru:Rd w .u32 (yT uo u.n uc) (Dg.dg 4294967296 u.n)) (rv:Rd w .u32 (yT vo v.n vc) (Dg.dg 4294967296 v.n)):
  yC 18 #[.agg #[.bool p.s,yT po p.n pc,yi p.e,.bool q.s,yT qo q.n qc,yi q.e],.agg #[.bool u.s,yT uo u.n uc,yi u.e,.bool v.s,yT vo v.n vc,yi v.e]] w (yR w (.bool true)):=by
 obtain⟨bp,bq,⟨p1,p2,p3⟩,⟨q1,q2,q3⟩,g1,g2,g3,g4⟩:=hG;obtain⟨bu,bv,⟨u1,u2,u3⟩,⟨v1,v2,v3⟩,k1,k2,k3,k4⟩:=hH;have mp:=dyad_len16 p3;have mq:=dyad_len16 q3;have mu:=dyad_len16 u3;have mv:=dyad_len16 v3;have b1:=(cmp_le (K:=1120) bp bv (by omega) (by omega)).1 (by omega);have b2:=(cmp_le (K:=1120) bu bq (by omega) (by omega)).1 (by omega);exact meet_W p q u v _ _ _ _ _ _ _ _ p q u v _ _ w b1 b2
  (fun w1 h1=>ie _ _ _ _ _ _ _ _ _ _ p q w1 (fun w2 h2=>ofDyad_good bp p3 p1 p2 po pc w2 ((rp.l h1).l h2)) (fun w2 h2=>ofDyad_good bq q3 q1 q2 qo qc w2 ((rq.l h1).l h2)))
  (fun w1 h1=>ie _ _ _ _ _ _ _ _ _ _ u v w1 (fun w2 h2=>ofDyad_good bu u3 u1 u2 uo uc w2 ((ru.l h1).l h2)) (fun w2 h2=>ofDyad_good bv v3 v1 v2 vo vc w2 ((rv.l h1).l h2)))
  (fun xo xc yo yc w1 _ rx ry=>gQ _ _ p v w1 ⟨_,rfl,rx⟩ ⟨_,rfl,ry⟩ (by omega) (by omega) (by omega) (by omega) (by omega) (by omega))
  (fun xo xc yo yc w1 _ rx ry=>gQ _ _ u q w1 ⟨_,rfl,rx⟩ ⟨_,rfl,ry⟩ (by omega) (by omega) (by omega) (by omega) (by omega) (by omega))
theorem seriesNested_walk (a b n:Int)(w:World)(hT:Tab w):yC 6 #[yi a,yi b,yi n] w (yR w (.bool true)):=by
 have HB:yH w 8 #[] (.bool true):=fun w1 h=>serBegun_any w1 (hT.l h)
 have one: ∀x:Int,(x<10∨1000<x)∨ ∃k:Nat,x=(k:Int)∧10≤k∧k≤1000:=fun x=>by
  by_cases c:x<10∨1000<x
  ·exact .inl c
  ·exact .inr ⟨x.toNat,by omega,by omega,by omega⟩
 have two:(n<2∨1000<n)∨ ∃k:Nat,n=(k:Int)∧2≤k∧k≤1000:=by
  by_cases c:n<2∨1000<n
  ·exact .inl c
  ·exact .inr ⟨n.toNat,by omega,by omega,by omega⟩
 rcases one a with ca| ⟨i,rfl,i1,i2⟩<;>rcases one b with cb| ⟨j,rfl,j1,j2⟩
 ·exact nested_330 _ _ _ _ _ _ _ _ _ _ _ _ a b n w HB (fun w1 _=>serPi_out a w1 ca) (fun w1 _=>serPi_out b w1 cb) (fun w1 _=>serLn_out a w1 ca) (fun w1 _=>serLn_out b w1 cb) (fun w1 _=>serAtan_out n a w1 (by omega)) (fun w1 _=>serAtan_out n b w1 (by omega))
 ·obtain⟨l2,h2,-,P2⟩:=serPi_ex j ⟨j1,j2⟩ chk_pi log_pi'
  obtain⟨l4,h4,-,P4⟩:=serLn_ex j ⟨j1,j2⟩ chk_ln log_ln'
  rcases two with cn| ⟨m,rfl,m1,m2⟩
  ·exact nested_303 _ _ l2 h2 _ _ l4 h4 _ _ _ _ a (j:Int) n w HB (fun w1 _=>serPi_out a w1 ca) (fun w1 q=>P2 w1 (hT.l q)) (fun w1 _=>serLn_out a w1 ca) (fun w1 q=>P4 w1 (hT.l q)) (fun w1 _=>serAtan_out n a w1 (by omega)) (fun w1 _=>serAtan_out n (j:Int) w1 (by omega))
  ·obtain⟨l6,h6,-,P6⟩:=serAtan_ex m j ⟨m1,m2⟩ ⟨j1,j2⟩ (chk_tan ⟨m1,m2⟩)
   exact nested_300 _ _ l2 h2 _ _ l4 h4 _ _ l6 h6 a (j:Int) (m:Int) w HB (fun w1 _=>serPi_out a w1 ca) (fun w1 q=>P2 w1 (hT.l q)) (fun w1 _=>serLn_out a w1 ca) (fun w1 q=>P4 w1 (hT.l q)) (fun w1 _=>serAtan_out (m:Int) a w1 (by omega)) (fun w1 q=>P6 w1 (hT.l q))
 ·obtain⟨l1,h1,-,P1⟩:=serPi_ex i ⟨i1,i2⟩ chk_pi log_pi'
  obtain⟨l3,h3,-,P3⟩:=serLn_ex i ⟨i1,i2⟩ chk_ln log_ln'
  rcases two with cn| ⟨m,rfl,m1,m2⟩
  ·exact nested_033 l1 h1 _ _ l3 h3 _ _ _ _ _ _ (i:Int) b n w HB (fun w1 q=>P1 w1 (hT.l q)) (fun w1 _=>serPi_out b w1 cb) (fun w1 q=>P3 w1 (hT.l q)) (fun w1 _=>serLn_out b w1 cb) (fun w1 _=>serAtan_out n (i:Int) w1 (by omega)) (fun w1 _=>serAtan_out n b w1 (by omega))
  ·obtain⟨l5,h5,-,P5⟩:=serAtan_ex m i ⟨m1,m2⟩ ⟨i1,i2⟩ (chk_tan ⟨m1,m2⟩)
   exact nested_030 l1 h1 _ _ l3 h3 _ _ l5 h5 _ _ (i:Int) b (m:Int) w HB (fun w1 q=>P1 w1 (hT.l q)) (fun w1 _=>serPi_out b w1 cb) (fun w1 q=>P3 w1 (hT.l q)) (fun w1 _=>serLn_out b w1 cb) (fun w1 q=>P5 w1 (hT.l q)) (fun w1 _=>serAtan_out (m:Int) b w1 (by omega))
 ·obtain⟨l1,h1,g1,P1⟩:=serPi_ex i ⟨i1,i2⟩ chk_pi log_pi'
  obtain⟨l3,h3,g3,P3⟩:=serLn_ex i ⟨i1,i2⟩ chk_ln log_ln';obtain⟨l2,h2,g2,P2⟩:=serPi_ex j ⟨j1,j2⟩ chk_pi log_pi';obtain⟨l4,h4,g4,P4⟩:=serLn_ex j ⟨j1,j2⟩ chk_ln log_ln'
  rcases two with cn| ⟨m,rfl,m1,m2⟩
  ·exact nested_003 l1 h1 l2 h2 l3 h3 l4 h4 _ _ _ _ (i:Int) (j:Int) n w HB (fun w1 q=>P1 w1 (hT.l q)) (fun w1 q=>P2 w1 (hT.l q)) (fun w1 q=>P3 w1 (hT.l q)) (fun w1 q=>P4 w1 (hT.l q)) (fun w1 _=>serAtan_out n (i:Int) w1 (by omega)) (fun w1 _=>serAtan_out n (j:Int) w1 (by omega))
    (fun _ _ _ _ _ _ _ _ w1 _ r1 r2 r3 r4=>meet_any g1 g2 _ _ _ _ _ _ _ _ w1 r1 r2 r3 r4) (fun _ _ _ _ _ _ _ _ w1 _ r1 r2 r3 r4=>meet_any g3 g4 _ _ _ _ _ _ _ _ w1 r1 r2 r3 r4)
  ·obtain⟨l5,h5,g5,P5⟩:=serAtan_ex m i ⟨m1,m2⟩ ⟨i1,i2⟩ (chk_tan ⟨m1,m2⟩)
   obtain⟨l6,h6,g6,P6⟩:=serAtan_ex m j ⟨m1,m2⟩ ⟨j1,j2⟩ (chk_tan ⟨m1,m2⟩);exact nested_000 l1 h1 l2 h2 l3 h3 l4 h4 l5 h5 l6 h6 (i:Int) (j:Int) (m:Int) w HB (fun w1 q=>P1 w1 (hT.l q)) (fun w1 q=>P2 w1 (hT.l q)) (fun w1 q=>P3 w1 (hT.l q)) (fun w1 q=>P4 w1 (hT.l q)) (fun w1 q=>P5 w1 (hT.l q)) (fun w1 q=>P6 w1 (hT.l q))
    (fun _ _ _ _ _ _ _ _ w1 _ r1 r2 r3 r4=>meet_any g1 g2 _ _ _ _ _ _ _ _ w1 r1 r2 r3 r4) (fun _ _ _ _ _ _ _ _ w1 _ r1 r2 r3 r4=>meet_any g3 g4 _ _ _ _ _ _ _ _ w1 r1 r2 r3 r4) (fun _ _ _ _ _ _ _ _ w1 _ r1 r2 r3 r4=>meet_any g5 g6 _ _ _ _ _ _ _ _ w1 r1 r2 r3 r4)
end Go.Proofs.YtiakgfmlpdfhdaaDoor
