/- Parts of the proof. -/
import Derived.Test.YtmopekkhmhhcaaaGreatFL
import Derived.Test.YtmopekkhmhhcaaaGreatFK13
set_option maxRecDepth 100000
set_option maxHeartbeats 16000000
namespace Go.Proofs.YtmopekkhmhhcaaaGreat
open Go.Proofs.Tryz
namespace Wd
open Go.RowKit Pv Kc
attribute [local go_sem ↓] z2E z1Y z4N z0K z0q z1t z1f
theorem j8U(g:Nat)(x:Wo)(v:WoV)(P:Nat->Prop)(w:World)(i:Nat)(hi:i<2)(k:Int)(hC:CAt 98 w g (wdC x v))(hI:WIn P w x v)(hg:¬ P g)(hq88:x.p.q.length * 88<=140737488351232) :
  Calls prog 72 #[.pointer (some ⟨g,0,none⟩),.int .i64 (i:Int),.bool false,.int .i64 k] w (q2W P w g (z9E x i false k)):=by
 have hD:z9E x i false k=if Ln.z6b (x.p.L i).out k (x.p.L i).h1 (x.p.L i).h3=0 then (q3C (z1M x i false (Ln.z7d (x.p.L i).out k (x.p.L i).h1 (x.p.L i).h3)) i,0) else (x,Ln.z6b (x.p.L i).out k (x.p.L i).h1 (x.p.L i).h3):=rfl;have hpq:∀ dl,(z1M x i false dl).p.q=x.p.q:=fun dl=>rfl;have hlt:=hC.lt;have hi2:(i:Int)<2:=by omega
 have hi0:(0:Int)<=(i:Int):=by omega
 have hr1:z0I P w (v.p.l i).said 1 16 (txC (x.p.L i).out.S):=(hI.p.lk i hi).said;have hr2:z0I P w (v.p.l i).due 1 8 (inC (x.p.L i).out.D):=(hI.p.lk i hi).due;have HLN:=hide (fun (wx:World) (hb:Below w.heap.size w wx)=>(q1u x v hi (x.p.L i).out (v.p.l i).said (v.p.l i).due).part (hC.over hb));have HEX:=hide (fun (w4 wx:World) (h4:Below w.heap.size w w4) (hb:Below w4.heap.size w4 wx)=>q8S (x.p.L i).out k (x.p.L i).h1 (x.p.L i).h3 (v.p.l i).said (v.p.l i).due (fun b=>P b/\b<w4.heap.size) wx ((((hr1.over h4).mono (P':=fun b=>P b/\b<w4.heap.size) fun b hl hp=>⟨hp,hl⟩).over hb)) ((((hr2.over h4).mono (P':=fun b=>P b/\b<w4.heap.size) fun b hl hp=>⟨hp,hl⟩).over hb)));have HLX:=hide (fun (wx:World) (hb:Below w.heap.size w wx)=>(show (z2I (.pointer (some ⟨g,68+i * 14+6,none⟩))).run prog wx=.ok (.agg #[(v.p.l i).said,(v.p.l i).due,.int .i64 (x.p.L i).out.g,.bool (x.p.L i).out.cl]) wx/\wx.cell? ⟨g,68+i * 14+10+1,none⟩=some (.int .i64 (x.p.L i).h1)/\wx.cell? ⟨g,68+i * 14+10+3,none⟩=some (.int .i64 (x.p.L i).h3) from⟨z6u (HLN.out wx hb) rfl,(q0m (hC.over hb) hi).1,(q0m (hC.over hb) hi).2.2⟩));have HWY:=hide (q0I g i hi w);have HC:=hide hC;have HI:=hide hI;have HQ:=hide hq88;clear hC hI hr1 hr2 HLN hq88;generalize z9E x i false k=D at *;generalize Ln.z6b (x.p.L i).out k (x.p.L i).h1 (x.p.L i).h3=de at *;generalize Ln.z7d (x.p.L i).out k (x.p.L i).h1 (x.p.L i).h3=dl at *;generalize Value.agg #[(v.p.l i).said,(v.p.l i).due,.int .i64 (x.p.L i).out.g,.bool (x.p.L i).out.cl]=V0 at *;generalize (x.p.L i).h1=tm at *;generalize (x.p.L i).h3=gt at *;have HD:=hide hD;have HPQ:=hide (hpq dl);clear hD hpq
 go_enter func72,ntmps72
 go_upto_region 2 with (go_at_call 90;refine HWY.out.mono ?_;rintro e w1⟨rfl,hb1⟩;obtain⟨w4,s2,K2,bS⟩:=q0u w1 (.pointer (some ⟨g,68+i * 14+6,none⟩)) (.pointer (some ⟨g,68+i * 14+10,none⟩)) (.pointer (some ⟨g,99+i * 22+18,none⟩)) (by simp[Value.oneCell']);have HK2:=hide (show _/\_ from⟨K2,zbt hb1 bS⟩);have hs1:=hb1.size;clear K2 bS hb1)
 clear s2 HWY;obtain⟨gy,hgy⟩:∃ y,y=w1.heap.size:=⟨_,rfl⟩;rw[← hgy]at HK2 hs1 ⊢;clear hgy;have hgg:g≠gy:=by omega
 have HB4:=hide HK2.out.2;have HK4:=hide HK2.out.1;have hzy:=HK4.out.lt;clear HK2;have hz4:=HB4.out.size;have HEN:=hide (fun (wx:World) (hb:Below w4.heap.size w4 wx)=>HEX.out w4 wx HB4.out hb);have HLF:Hid (∀ (wx:World),Below w4.heap.size w4 wx->wx.cell? ⟨gy,0,none⟩=some (.pointer (some ⟨g,68+i * 14+6,none⟩))/\wx.cell? ⟨gy,1,none⟩=some (.pointer (some ⟨g,68+i * 14+10,none⟩))/\(z2I (.pointer (some ⟨g,68+i * 14+6,none⟩))).run prog wx=.ok V0 wx/\wx.cell? ⟨g,68+i * 14+10+1,none⟩=some (.int .i64 tm)/\wx.cell? ⟨g,68+i * 14+10+3,none⟩=some (.int .i64 gt)):=fun wx hb=>⟨(HK4.out.over hb).cell 0,(HK4.out.over hb).cell 1,HLX.out wx (zbt HB4.out hb)⟩;have HALd:Hid (Below w4.heap.size w4 (w4.alloc (.cells Z4' 47)).drew):=(znw w4 _).drew;have HACd:Hid (CAt 47 (w4.alloc (.cells Z4' 47)).drew w4.heap.size Z4'):=CAt.new 47 w4 Z4';unfold Z4' at HALd;clear HEX HLX;apply q1t (fun (gn:Nat) (ts:Array Value) w'=>j7F P w4 dl gn ts w')
 ·skip;refine wp_region_noPanic ?_;refine wp_region_held_drew (S:=fun wx=>Below w4.heap.size w4 wx) (by kernel_rfl) (Below.refl _ _).drew (fun hS=>?_)
  refine O.G 0 (.pointer (some ⟨gy,0,none⟩)) 17 rfl rfl hS ?_;refine O.Z 1 (.pointer (some ⟨g,68+i * 14+6,none⟩)) 18 rfl rfl hS (fun wx hSw=>by obtain⟨k0,k1,l3,l4,l5⟩:=HLF.out wx hSw;go_simp) ?_
  refine O.G 2 (.pointer (some ⟨g,68+i * 14+6,none⟩)) 19 rfl rfl hS ?_;refine O.Z 3 V0 20 rfl rfl hS (fun wx hSw=>by obtain⟨k0,k1,l3,l4,l5⟩:=HLF.out wx hSw;go_simp) ?_
  refine O.G 4 (.int .i64 k) 21 rfl rfl hS ?_;refine O.G 5 (.pointer (some ⟨gy,1,none⟩)) 22 rfl rfl hS ?_;refine O.Z 6 (.pointer (some ⟨g,68+i * 14+10,none⟩)) 23 rfl rfl hS (fun wx hSw=>by obtain⟨k0,k1,l3,l4,l5⟩:=HLF.out wx hSw;go_simp) ?_
  refine O.G 7 (.pointer (some ⟨g,68+i * 14+10,none⟩)) 24 rfl rfl hS ?_;refine O.G 8 (.pointer (some ⟨g,68+i * 14+10+1,none⟩)) 25 rfl rfl hS ?_;refine O.Z 9 (.int .i64 tm) 26 rfl rfl hS (fun wx hSw=>by obtain⟨k0,k1,l3,l4,l5⟩:=HLF.out wx hSw;go_simp) ?_
  refine O.G 10 (.pointer (some ⟨gy,1,none⟩)) 27 rfl rfl hS ?_;refine O.Z 11 (.pointer (some ⟨g,68+i * 14+10,none⟩)) 28 rfl rfl hS (fun wx hSw=>by obtain⟨k0,k1,l3,l4,l5⟩:=HLF.out wx hSw;go_simp) ?_
  refine O.G 12 (.pointer (some ⟨g,68+i * 14+10,none⟩)) 29 rfl rfl hS ?_;refine O.G 13 (.pointer (some ⟨g,68+i * 14+10+3,none⟩)) 30 rfl rfl hS ?_;refine O.Z 14 (.int .i64 gt) 31 rfl rfl hS (fun wx hSw=>by obtain⟨k0,k1,l3,l4,l5⟩:=HLF.out wx hSw;go_simp) ?_
  refine O.z4m (i:=15) (j:=19) (by kernel_rfl) rfl rfl rfl rfl (fun K hK=>?_) (fun K hK=>?_)
  ·go_simp
   go_at_call 95
   refine (HEN.out _ (by with_reducible exact (Below.refl w4.heap.size w4).drew)).mono ?_
   rintro e w3⟨u1,u2,rfl,U1,U2,hb3⟩;skip;have hb:=(Below.refl w4.heap.size w4).drew.trans (hb3.mono (Below.refl w4.heap.size w4).drew.size);obtain⟨ts,hts⟩:∃ y:Array Value,y=#[u1,u2,.int .i64 dl.g,.bool dl.cl]:=⟨_,rfl⟩;dsimp only;rw[← hts];have HT:=hide hts;clear hts;refine hK _ _ hb ?_;clear hK K;refine O.Z 16 (.tuple #[.agg ts,(.int .i64 de)]) 16 rfl rfl hb (fun wx hSw=>?_) ?_
   ·go_simp
   refine O.Z 17 (.agg ts) 33 rfl rfl hb (fun wx hSw=>?_) ?_
   ·go_simp
   refine O.Z 18 (.int .i64 de) 34 rfl rfl hb (fun wx hSw=>?_) ?_
   ·go_simp
   refine O.z1e (i:=19) (by kernel_rfl) rfl rfl (fun K hK=>?_)
   go_simp;refine hK _ _ (hb.alloc hb.size _) ?_;clear hK K;have q2:ts.all (fun x=>x.oneCell')=true:=by rw[HT.out];exact z3b U1 U2 _ _
   have HST:=z7p (l:=dl) U1 U2 (by rfl) hb
   rw[← HT.out]at HST;change wpAnyH _ _ _ _ _ _ _ _ (w3.alloc (.cells Z4' 47));refine O.z0A (i:=20) (by kernel_rfl) rfl rfl 47 _ _ rfl rfl w3.heap.size 0 ts rfl rfl ((CAt.new 47 w3 Z4').there 0 _ (by rw[HT.out];exact Nat.le_of_eq rfl)) (by rw[HT.out,z4r];rfl) q2 HST.bel ?_
   refine O.Z 21 (.int .i64 de) 11 rfl rfl HST.bel (fun wx hSw=>?_) ?_
   ·go_simp
   refine wpAnyH_done (by kernel_rfl) ?_ _
   obtain⟨gn,hgn⟩:∃ y,y=w3.heap.size:=⟨_,rfl⟩;rw[← hgn]at HST ⊢;simp only[O.pp,O.pb,O.pc];exact NoPanic.normal ⟨gn,ts,rfl,rfl,HST⟩
  ·go_simp;refine hK _ _ (hS.alloc hS.size _) ?_;clear hK K;refine O.z1e (i:=15) (by kernel_rfl) rfl rfl (fun K hK=>?_)
   go_simp
   go_at_call 95
   refine (HEN.out _ (by with_reducible exact HALd.out)).mono ?_
   rintro e w3⟨u1,u2,rfl,U1,U2,hb3⟩;skip;have hb:=zbt HALd.out hb3;obtain⟨ts,hts⟩:∃ y:Array Value,y=#[u1,u2,.int .i64 dl.g,.bool dl.cl]:=⟨_,rfl⟩;dsimp only;rw[← hts];have HT:=hide hts;clear hts;refine hK _ _ hb ?_;clear hK K;refine O.Z 16 (.tuple #[.agg ts,(.int .i64 de)]) 16 rfl rfl hb (fun wx hSw=>?_) ?_
   ·go_simp
   refine O.Z 17 (.agg ts) 33 rfl rfl hb (fun wx hSw=>?_) ?_
   ·go_simp
   refine O.Z 18 (.int .i64 de) 34 rfl rfl hb (fun wx hSw=>?_) ?_
   ·go_simp
   have q2:ts.all (fun x=>x.oneCell')=true:=by rw[HT.out];exact z3b U1 U2 _ _
   have R3:=HACd.out.over hb3;have HST:=z7m (l:=dl) U1 U2 (by simp) hb R3
   rw[← HT.out]at HST;refine O.z0A (i:=20) (by kernel_rfl) rfl rfl 47 _ _ rfl rfl w4.heap.size 0 ts rfl rfl (R3.there 0 _ (by rw[HT.out];exact Nat.le_of_eq rfl)) (by rw[HT.out,z4r];rfl) q2 HST.bel ?_
   refine O.Z 21 (.int .i64 de) 11 rfl rfl HST.bel (fun wx hSw=>?_) ?_
   ·go_simp
   refine wpAnyH_done (by kernel_rfl) ?_ _
   obtain⟨gn,hgn⟩:∃ y,y=w4.heap.size:=⟨_,rfl⟩;rw[← hgn]at HST ⊢;simp only[O.pp,O.pb,O.pc];exact NoPanic.normal ⟨gn,ts,rfl,rfl,HST⟩
 rintro gn ts w5 S5;have HS5:=hide S5;have hle:=S5.le;have hlt5:=S5.cat.lt;have HB5:=hide (zbt HB4.out S5.bel);have HK5:=hide (HK4.out.over S5.bel);clear S5 HLF HEN HALd HACd HK4;have hgn:g≠gn:=by omega
 simp only[Exit.then];apply_assumption
 by_cases hE:de=0
 case neg =>
  replace HD:=hide (HD.out.trans (if_neg hE));have hE':(de != 0)=true:=by simpa using hE
  go_wp2;go_ret;rw[HD.out];exact⟨rfl,.same (HC.out.over HB5.out) HI.out hg (Alt.of HB5.out)⟩
 subst hE;replace HD:=hide (HD.out.trans (if_pos rfl));obtain⟨u1,u2,hu0,hu1,hu2⟩:=HS5.out.ex;have HU:=hide (show _/\_/\_ from⟨hu0,hu1,hu2⟩);clear hu0 hu1 hu2;have hng:¬ New P w 0 g:=Pv.z0N hg hlt
 have key:∀ b,b<w5.heap.size->(New P w4 0 b/\b≠gn)->New P w 0 b:=fun b _ hb=>by
  rcases hb.1 with⟨hb,hl⟩ | hb
  ·by_cases hw:b<w.heap.size
   ·exact .inl ⟨hb,hw⟩
   ·exact .inr (by omega)
  ·exact .inr (by omega)
 have C5:=HC.out.over HB5.out;have I5:=HI.out.new hg (Alt.of (g:=g) HB5.out) 0;have R1:=HU.out.2.1.mono key;have R2:=HU.out.2.2.mono key;have y0:w5.cell? ⟨gy,0,none⟩=some (.pointer (some ⟨g,68+i * 14+6,none⟩)):=HK5.out.cell 0
 have l5:(z2I (.pointer (some ⟨gn,0,none⟩))).run prog w5=.ok (.agg ts) w5:=by
  have h:=z6u HS5.out.cat.range (by rw[HU.out.1];rfl)
  simpa using h
 have s5:=q2s ((q1u x v hi dl u1 u2).there C5) rfl (by have h:=z3b R1 R2 dl.g dl.cl;simpa [lnL] using h)
 have Z7:=q7o I5 hng C5 hi R1 R2;change (z3k (.pointer (some ⟨g,68+i * 14+6,none⟩)) (.agg #[u1,u2,.int .i64 dl.g,.bool dl.cl])).run prog w5=_ at s5;rw[← HU.out.1]at s5;have HX:=hide (z1a.trans (Alt.of (g:=g) HB5.out) Z7);have hz5y:=HK5.out.lt;have hz5g:=C5.lt;clear Z7 C5 I5 R1 R2 key;generalize w5.setCells g (68+i * 14+6) (lnL dl u1 u2)=w7 at *;generalize z1M x i false dl=y7 at *
 go_upto_region 6 with fail
 clear y0 l5 s5;obtain⟨v7,C7,I7,A7⟩:=HX.out;have m7:=j1T ((z8y y7 v7 y7.p v7.p).part C7) (z0a _ _);have HRM:=hide (z8q y7.p v7.p (New P w 0) w7 (i:Int) I7.p (by rw[HPQ.out];exact HQ.out))
 have hlt7:=C7.lt;have H7:=hide (show _/\_/\_ from⟨C7,I7,A7⟩);clear C7 I7 A7 HX;have HW8:Hid (∀ (w8:World) (u8:PrV),Below w7.heap.size w7 w8->(prC (z0u y7.p i) u8).all (·.oneCell')=true->∃ wS,wS=w8.setCells g 2 (prC (z0u y7.p i) u8).toList/\(z5P (.pointer (some ⟨g,2,none⟩)) (.agg (prC (z0u y7.p i) u8))).run prog w8=.ok () wS):=fun w8 u8 b8 h8=>⟨_,rfl,j9w ((z8y y7 v7 (z0u y7.p i) u8).there (H7.out.1.over b8)) (z0a _ _) h8⟩;generalize Value.agg (prC y7.p v7.p)=V7 at m7 HRM
 go_upto_region 7 with (go_at_call 96;refine HRM.out.mono ?_;rintro e w8⟨u8,rfl,U8,b8⟩;clear m7;obtain⟨wS,hwS,sS8⟩:=HW8.out w8 u8 b8 (z1c U8);have HwS:=hide hwS;clear hwS)
 have Z8:=q0Y H7.out.2.1 hng (Below.refl _ w7) H7.out.1 hlt7 b8 U8;rw[← HwS.out]at Z8;have Z8':=z1a.trans H7.out.2.2 Z8;clear sS8 HW8 HRM;obtain⟨y8,hy8⟩:∃ y8:Wo,y8={ y7 with p:=z0u y7.p i }:=⟨_,rfl⟩
 rw[← hy8]at Z8';clear Z8 HwS b8 U8;obtain⟨v8,C8,I8,A8⟩:=Z8';generalize Value.agg (prC (z0u y7.p i) u8)=V9;clear u8;generalize wS=w8 at *;have hc8:y8.c=y7.c:=by rw[hy8]
 have hd8:=(Below.refl w8.heap.size w8).drew;have HS:(z7k (.pointer (some ⟨g,99+i * 22,none⟩))).run prog w8.drew=.ok (.agg (csC (y8.c i) (v8.c i))) w8.drew:=j4Y ((q1L y8 v8 hi (y8.c i) (v8.c i)).part (C8.over hd8)) (z0p _ _);have hcr:=z7B (y8.c i) (v8.c i) (New P w 0) w8.drew ((I8.c i hi).over hd8);rw[hc8]at HS hcr;have HRC:=hide hcr;have hlt8:=C8.lt;have H8:=hide (show _/\_/\_/\_ from⟨C8,I8,A8,hy8⟩);clear C8 I8 A8 hy8 hcr hc8 hd8;generalize Value.agg (csC (y7.c i) (v8.c i))=V8 at HS HRC;refine O.z1m (c:=8) (S:=fun wx=>wx=w8.drew) (by kernel_rfl) ?_
 have hS:w8.drew=w8.drew:=rfl;refine O.z0w (i:=0) (v:=(.pointer (some ⟨g,0,none⟩))) (some 51) rfl rfl (by kernel_rfl) (by kernel_rfl) (by kernel_rfl) (by decide) (fun _ _ _ h=>h) (Or.inl ⟨by rfl,?_⟩) hS ?_
 ·intro wx;go_simp
 refine O.z0w (i:=1) (v:=(.int .i64 (i:Int))) (some 52) rfl rfl (by kernel_rfl) (by kernel_rfl) (by kernel_rfl) (by decide) (fun _ _ _ h=>h) (Or.inl ⟨by rfl,?_⟩) hS ?_
 ·intro wx;go_simp
 refine O.z0w (i:=9) (v:=(.pointer (some ⟨g,0,none⟩))) (some 60) rfl rfl (by kernel_rfl) (by kernel_rfl) (by kernel_rfl) (by decide) (fun _ _ _ h=>h) (Or.inl ⟨by rfl,?_⟩) hS ?_
 ·intro wx;go_simp
 refine O.z0w (i:=10) (v:=(.pointer (some ⟨g,99,none⟩))) (some 61) rfl rfl (by kernel_rfl) (by kernel_rfl) (by kernel_rfl) (by decide) (fun _ _ _ h=>h) (Or.inl ⟨by rfl,?_⟩) hS ?_
 ·intro wx;go_simp
 refine O.Y 2 (.pointer (some ⟨g,0,none⟩)) 53 rfl rfl hS ?_ ?_
 ·rintro wx rfl;go_simp
 refine O.Y 3 (.int .i64 (i:Int)) 54 rfl rfl hS ?_ ?_
 ·rintro wx rfl;go_simp
 refine O.Y 4 (.pointer (some ⟨g,0,none⟩)) 55 rfl rfl hS ?_ ?_
 ·rintro wx rfl;go_simp
 refine O.Y 5 (.pointer (some ⟨g,99,none⟩)) 56 rfl rfl hS ?_ ?_
 ·rintro wx rfl;go_simp
 refine O.Y 6 (.pointer (some ⟨g,99+i * 22,none⟩)) 57 rfl rfl hS ?_ ?_
 ·rintro wx rfl;go_simp
 refine O.Y 7 V8 58 rfl rfl hS ?_ ?_
 ·rintro wx rfl;have l:=HS;go_simp
 refine O.z2j (by kernel_rfl) rfl (fun K hK=>?_)
 refine z0E rfl ?_;go_simp;refine HRC.out.mono ?_;rintro e w9⟨u9,rfl,U9,hb9⟩;dsimp only;have b9:=(Below.refl w8.heap.size w8).drew.trans hb9;obtain⟨t9,ht9⟩:∃ y,y=csC (z1o (y7.c i)) u9:=⟨_,rfl⟩;rw[← ht9];have HT:=hide ht9;clear ht9;refine hK _ _ ?_;clear hK K;refine O.X 11 (.pointer (some ⟨g,99+i * 22,none⟩)) 62 rfl rfl ?_ ?_
 ·intro wx;go_simp
 have q1:(Option.map (fun x=>x.size) (prog.info? 63))=some t9.size:=by rw[HT.out,z3C];rfl
 have q2:t9.all (fun x=>x.oneCell')=true:=by rw[HT.out];exact z2k U9
 have q3:w9.there g (99+i * 22) t9.size:=by rw[HT.out];exact by simpa using (q1L y8 v8 hi (z1o (y7.c i)) u9).there (H8.out.1.over b9)
 refine O.z2n (i:=12) (by kernel_rfl) rfl rfl 63 _ _ rfl rfl g (99+i * 22) t9 rfl rfl q3 q1 q2 ?_
 refine wpAny_done (by kernel_rfl) ?_ _
 have U9':CIn (New (New P w 0) w8 0) w9 (z1o (y7.c i)) u9:=U9.mono fun b _ hb=>by
  rcases hb with⟨hb,hl⟩ | hb
  ·exact .inl ⟨hb,hl⟩
  ·exact .inr (by have:w8.drew.heap.size=w8.heap.size:=rfl;omega)
 have Z9:=q2c H8.out.2.1 hng (Below.refl _ w8) H8.out.1 hlt8 b9 hi U9';rw[← HT.out]at Z9;have HZ:=hide (z1a.trans H8.out.2.2.1 Z9);generalize w9.setCells g (99+i * 22) t9.toList=w10 at *;have hfin:({ y8 with c:=z2L y8.c i (z1o (y7.c i)) }:Wo)=q3C y7 i:=by rw[H8.out.2.2.2];rfl
 rw[hfin]at HZ;clear q1 q2 q3 HS hS U9 U9' hb9 HRC Z9 hfin;go_simp;go_wp2;go_ret;rw[HD.out];exact⟨rfl,HZ.out⟩
end Wd
end Go.Proofs.YtmopekkhmhhcaaaGreat
