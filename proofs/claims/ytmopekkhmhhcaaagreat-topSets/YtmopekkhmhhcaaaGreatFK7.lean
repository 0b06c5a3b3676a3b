/- Parts of the proof. -/
import Derived.Test.YtmopekkhmhhcaaaGreatFL
import Derived.Test.YtmopekkhmhhcaaaGreatFK6
import Derived.Test.YtmopekkhmhhcaaaGreatFK44
set_option maxRecDepth 100000
set_option maxHeartbeats 16000000
namespace Go.Proofs.YtmopekkhmhhcaaaGreat
open Go.Proofs.Tryz
namespace Wd
open Go.RowKit Pv Kc
attribute [local go_sem ↓] z0K z0q z1t z1f
theorem q4M(g:Nat)(x:Wo)(v:WoV)(P:Nat->Prop)(w:World)(i:Nat)(s:ByteArray)(hC:CAt 98 w g (wdC x v))(hI:WIn P w x v)(hg:¬ P g)(hs:s.size<=maxLen)(hq88:x.p.q.length * 88<=140737488351232) :
  Calls prog 94 #[.pointer (some ⟨g,0,none⟩),.int .i64 (i:Int),.bool true,.string s] w (q2W P w g (z1N x i true s)):=by
 have hD:z1N x i true s=({ x with p:=(z3L x.p i (Cd.bs s)).1 },(z3L x.p i (Cd.bs s)).2):=rfl
 rw[hD];clear hD;have hlt:=hC.lt;have m0:=j1T ((z8y x v x.p v.p).part hC) (z0a _ _);have HRD:=hide (q8A x.p v.p P w (i:Int) s hI.p hs hq88);have HI:=hide hI;have HC:=hide hC;clear hC hI hs hq88;generalize z3L x.p i (Cd.bs s)=r at *
 go_enter func94,ntmps94
 have HW3:Hid (∀ (w3:World) (u3:PrV),Below w.heap.size w w3->(prC r.1 u3).all (·.oneCell')=true->∃ wS,wS=w3.setCells g 2 (prC r.1 u3).toList/\(z5P (.pointer (some ⟨g,2,none⟩)) (.agg (prC r.1 u3))).run prog w3=.ok () wS):=fun w3 u3 b3 h3=>⟨_,rfl,j9w ((z8y x v r.1 u3).there (HC.out.over b3)) (z0a _ _) h3⟩
 go_wp2_with (go_at_call 131;refine HRD.out.mono ?_;rintro e w3⟨u3,rfl,U3,b3⟩;clear m0;obtain⟨wS,hwS,sS3⟩:=HW3.out w3 u3 b3 (z1c U3);have HwS:=hide hwS;clear hwS)
 go_ret;refine⟨rfl,?_⟩;rw[HwS.out];exact q0Y HI.out hg (Below.refl _ _) HC.out hlt b3 U3
theorem q2v(g:Nat)(x:Wo)(v:WoV)(P:Nat->Prop)(w:World)(i:Nat)(hi:i<2)(s:ByteArray)(hC:CAt 98 w g (wdC x v))(hI:WIn P w x v)(hg:¬ P g)(hs:s.size<=maxLen)(h80:(x.c i).pd.length * 80<=140737488351232) :
  Calls prog 94 #[.pointer (some ⟨g,0,none⟩),.int .i64 (i:Int),.bool false,.string s] w (q2W P w g (z1N x i false s)):=by
 have hD:z1N x i false s=({ x with c:=z2L x.c i (z3d (x.c i) (Cd.bs s)).1 },(z3d (x.c i) (Cd.bs s)).2):=rfl
 rw[hD];clear hD;obtain⟨w0,hw0⟩:∃ y,y=w:=⟨_,rfl⟩;have hlt:=hC.lt;have hi2:(i:Int)<2:=by omega
 have hi0:(0:Int)<=(i:Int):=by omega
 have HRD:=hide (q7z (x.c i) (v.c i) P w0.drew s (by rw[hw0];exact (hI.c i hi).over (Below.refl _ w).drew) hs h80)
 have HS:(z7k (.pointer (some ⟨g,99+i * 22,none⟩))).run prog w0.drew=.ok (.agg (csC (x.c i) (v.c i))) w0.drew:=by rw[hw0];exact j4Y ((q1L x v hi (x.c i) (v.c i)).part (hC.over (Below.refl w.heap.size w).drew)) (z0p _ _)
 have HK:Hid (True/\Below w.heap.size w w0/\CAt 98 w0 g (wdC x v)):=by rw[hw0];exact⟨trivial,Below.refl _ _,hC⟩
 have HI:=hide hI;clear hC hI hs h80;generalize z3d (x.c i) (Cd.bs s)=r at *;obtain⟨rc,re⟩:=r;dsimp only;generalize Value.agg (csC (x.c i) (v.c i))=V0 at HS HRD
 go_enter func94,ntmps94
 rw[← hw0];have HW0:=hide hw0;clear hw0
 go_upto_region 3 with fail
 refine O.z1m (c:=9) (S:=fun wx=>wx=w0.drew) (by kernel_rfl) ?_
 have hS:w0.drew=w0.drew:=rfl;refine O.z0w (i:=0) (v:=(.pointer (some ⟨g,0,none⟩))) (some 24) rfl rfl (by kernel_rfl) (by kernel_rfl) (by kernel_rfl) (by decide) (fun _ _ _ h=>h) (Or.inl ⟨by rfl,?_⟩) hS ?_
 ·intro wx;go_simp
 refine O.z0w (i:=1) (v:=(.int .i64 (i:Int))) (some 25) rfl rfl (by kernel_rfl) (by kernel_rfl) (by kernel_rfl) (by decide) (fun _ _ _ h=>h) (Or.inl ⟨by rfl,?_⟩) hS ?_
 ·intro wx;go_simp
 refine O.z0w (i:=13) (v:=(.pointer (some ⟨g,0,none⟩))) (some 36) rfl rfl (by kernel_rfl) (by kernel_rfl) (by kernel_rfl) (by decide) (fun _ _ _ h=>h) (Or.inl ⟨by rfl,?_⟩) hS ?_
 ·intro wx;go_simp
 refine O.z0w (i:=14) (v:=(.pointer (some ⟨g,99,none⟩))) (some 37) rfl rfl (by kernel_rfl) (by kernel_rfl) (by kernel_rfl) (by decide) (fun _ _ _ h=>h) (Or.inl ⟨by rfl,?_⟩) hS ?_
 ·intro wx;go_simp
 refine O.Y 2 (.pointer (some ⟨g,0,none⟩)) 26 rfl rfl hS ?_ ?_
 ·rintro wx rfl;go_simp
 refine O.Y 3 (.int .i64 (i:Int)) 27 rfl rfl hS ?_ ?_
 ·rintro wx rfl;go_simp
 refine O.Y 4 (.pointer (some ⟨g,0,none⟩)) 28 rfl rfl hS ?_ ?_
 ·rintro wx rfl;go_simp
 refine O.Y 5 (.pointer (some ⟨g,99,none⟩)) 29 rfl rfl hS ?_ ?_
 ·rintro wx rfl;go_simp
 refine O.Y 6 (.pointer (some ⟨g,99+i * 22,none⟩)) 30 rfl rfl hS ?_ ?_
 ·rintro wx rfl;go_simp
 refine O.Y 7 V0 31 rfl rfl hS ?_ ?_
 ·rintro wx rfl;have l:=HS;go_simp
 refine O.Y 8 (.string s) 32 rfl rfl hS ?_ ?_
 ·rintro wx rfl;go_simp
 refine O.z2j (by kernel_rfl) rfl (fun K hK=>?_)
 refine z0E rfl ?_;go_simp;refine HRD.out.mono ?_;rintro e w3⟨u3,rfl,U3,hb3⟩;dsimp only at U3;dsimp only;have b3:=(Below.refl w0.heap.size w0).drew.trans hb3;obtain⟨ts,hts⟩:∃ y,y=csC rc u3:=⟨_,rfl⟩;rw[← hts];have HT:=hide hts;clear hts;refine hK _ _ ?_;clear hK K;refine O.X 10 (.tuple #[.agg ts,.int .i64 re]) 23 rfl rfl ?_ ?_
 ·intro wx;go_simp
 refine O.X 11 (.agg ts) 34 rfl rfl ?_ ?_
 ·intro wx;go_simp
 refine O.X 12 (.int .i64 re) 35 rfl rfl ?_ ?_
 ·intro wx;go_simp
 refine O.X 15 (.pointer (some ⟨g,99+i * 22,none⟩)) 38 rfl rfl ?_ ?_
 ·intro wx;go_simp
 have q1:(Option.map (fun x=>x.size) (prog.info? 63))=some ts.size:=by rw[HT.out,z3C];rfl
 have q2:ts.all (fun x=>x.oneCell')=true:=by rw[HT.out];exact z2k U3
 have q3:w3.there g (99+i * 22) ts.size:=by rw[HT.out];exact by simpa using (q1L x v hi rc u3).there (HK.out.2.2.over b3)
 refine O.z2n (i:=16) (by kernel_rfl) rfl rfl 63 _ _ rfl rfl g (99+i * 22) ts rfl rfl q3 q1 q2 ?_
 refine O.X 17 (.int .i64 re) 8 rfl rfl ?_ ?_
 ·intro wx;go_simp
 refine wpAny_done (by kernel_rfl) ?_ _
 have HZ:=hide (q2c HI.out hg HK.out.2.1 HK.out.2.2 hlt b3 hi U3);rw[← HT.out]at HZ;generalize w3.setCells g (99+i * 22) ts.toList=w4 at *;clear q1 q2 q3 HS hS;go_simp;go_wp2;go_ret;exact⟨rfl,by rw[HW0.out];exact HZ.out⟩
theorem q1j(g:Nat)(x:Wo)(v:WoV)(P:Nat->Prop)(w:World)(i:Nat)(hi:i<2)(b:Bool)(s:ByteArray)(hC:CAt 98 w g (wdC x v))(hI:WIn P w x v)(hg:¬ P g)(hs:s.size<=maxLen)(hq88:x.p.q.length * 88<=140737488351232)(h80:(x.c i).pd.length * 80<=140737488351232) :
  Calls prog 94 #[.pointer (some ⟨g,0,none⟩),.int .i64 (i:Int),.bool b,.string s] w (q2W P w g (z1N x i b s)):=by
 cases b
 ·exact q2v g x v P w i hi s hC hI hg hs h80
 ·exact q4M g x v P w i s hC hI hg hs hq88
theorem q9t(g:Nat)(x:Wo)(v:WoV)(P:Nat->Prop)(w:World)(i:Nat)(hi:i<2)(d vv n:Int)(b f:Bool)(hC:CAt 98 w g (wdC x v))(hI:WIn P w x v)(hg:¬ P g) :
  Calls prog 73 #[.pointer (some ⟨g,0,none⟩),.agg #[.int .i64 11,.int .i64 (i:Int),.int .i64 d,.int .i64 vv,.int .i64 n,.bool b,.bool f]] w (q2W P w g ({ x with c:=z2L x.c i (z3z (x.c i) vv x.ck).1 },(z3z (x.c i) vv x.ck).2)):=by
 have hlt:=hC.lt;have hi2:(i:Int)<2:=by omega
 have hi0:(0:Int)<=(i:Int):=by omega
 have HC:=hide hC;have HI:=hide hI;clear hC hI;have HRX:=hide (fun (wx:World) (hb:Below w.heap.size w wx)=>q6Z (x.c i) (v.c i) P wx vv x.ck ((HI.out.c i hi).over hb));generalize z3z (x.c i) vv x.ck=r at *;obtain⟨rc,re⟩:=r;dsimp only
 go_enter func73,ntmps73
 go_upto_region 1 with fail
 have K0:=CAt.new 29 w #[.int .i64 11,.int .i64 (i:Int),.int .i64 d,.int .i64 vv,.int .i64 n,.bool b,.bool f];have b0:Below w.heap.size w (w.alloc (.cells #[.int .i64 11,.int .i64 (i:Int),.int .i64 d,.int .i64 vv,.int .i64 n,.bool b,.bool f] 29)):=znw w _;generalize w.alloc (.cells #[.int .i64 11,.int .i64 (i:Int),.int .i64 d,.int .i64 vv,.int .i64 n,.bool b,.bool f] 29)=wa at *;have ka1:wa.cell? ⟨w.heap.size,1,none⟩=some (.int .i64 (i:Int)):=K0.cell 1;have hza:=K0.lt;have HK0:=hide (show _/\_ from⟨K0,b0⟩);clear K0 b0;go_quiet (fail);simp only[Exit.then];apply_assumption;have K1:=HK0.out.1.over (below_drewN (Below.refl wa.heap.size wa) nq);have b1:=below_drewN HK0.out.2 nq;clear ka1 HK0 hza;generalize wa.drewN nq=w0 at *;have HK:=hide (show _/\_/\_ from⟨K1,b1,HC.out.over b1⟩);clear K1 b1;have hz0:=HK.out.1.lt;have hzg:=HK.out.2.2.lt;have k0:w0.cell? ⟨w.heap.size,0,none⟩=some (.int .i64 11):=HK.out.1.cell 0
 go_upto_region 3 with fail
 clear k0;have hd0:=(Below.refl w0.heap.size w0).drew
 have HS:(z7k (.pointer (some ⟨g,99+i * 22,none⟩))).run prog w0.drew=.ok (.agg (csC (x.c i) (v.c i))) w0.drew/\w0.drew.cell? ⟨w.heap.size,3,none⟩=some (.int .i64 vv)/\w0.drew.cell? ⟨w.heap.size,4,none⟩=some (.int .i64 n)/\w0.drew.cell? ⟨g,0,none⟩=some (.int .i64 x.ck):=
  ⟨j4Y ((q1L x v hi (x.c i) (v.c i)).part (HK.out.2.2.over hd0)) (z0p _ _),(HK.out.1.over hd0).cell 3,(HK.out.1.over hd0).cell 4,(HK.out.2.2.over hd0).cell 0⟩
 have HRD:=hide (HRX.out w0.drew (zbt HK.out.2.1 hd0));generalize Value.agg (csC (x.c i) (v.c i))=V0 at HS HRD;clear HRX hd0;refine O.z1m (c:=10) (S:=fun wx=>wx=w0.drew) (by kernel_rfl) ?_
 have hS:w0.drew=w0.drew:=rfl;refine O.z0w (i:=0) (v:=(.pointer (some ⟨g,99+i * 22,none⟩))) (some 16) rfl rfl (by kernel_rfl) (by kernel_rfl) (by kernel_rfl) (by decide) (fun _ _ _ h=>h) (Or.inl ⟨by rfl,?_⟩) hS ?_
 ·intro wx;go_simp
 refine O.Y 1 (.pointer (some ⟨g,99+i * 22,none⟩)) 17 rfl rfl hS ?_ ?_
 ·rintro wx rfl;go_simp
 refine O.Y 2 (.pointer (some ⟨g,99+i * 22,none⟩)) 18 rfl rfl hS ?_ ?_
 ·rintro wx rfl;go_simp
 refine O.Y 3 V0 19 rfl rfl hS ?_ ?_
 ·rintro wx rfl;have l:=HS.1;go_simp
 refine O.Y 4 (.pointer (some ⟨w.heap.size,3,none⟩)) 20 rfl rfl hS ?_ ?_
 ·rintro wx rfl;go_simp
 refine O.Y 5 (.int .i64 vv) 21 rfl rfl hS ?_ ?_
 ·rintro wx rfl;have l:=HS.2.1;go_simp
 refine O.Y 6 (.pointer (some ⟨g,0,none⟩)) 22 rfl rfl hS ?_ ?_
 ·rintro wx rfl;go_simp
 refine O.Y 7 (.pointer (some ⟨g,0,none⟩)) 23 rfl rfl hS ?_ ?_
 ·rintro wx rfl;go_simp
 refine O.Y 8 (.pointer (some ⟨g,0,none⟩)) 24 rfl rfl hS ?_ ?_
 ·rintro wx rfl;go_simp
 refine O.Y 9 (.int .i64 x.ck) 25 rfl rfl hS ?_ ?_
 ·rintro wx rfl;have l:=HS.2.2.2;go_simp
 refine O.z2j (by kernel_rfl) rfl (fun K hK=>?_)
 refine z0E rfl ?_;go_simp;refine HRD.out.mono ?_;rintro e w3⟨u3,rfl,U3,hb3⟩;dsimp only at U3;dsimp only;have b3:=(Below.refl w0.heap.size w0).drew.trans hb3;obtain⟨ts,hts⟩:∃ y,y=csC rc u3:=⟨_,rfl⟩;rw[← hts];have HT:=hide hts;clear hts;refine hK _ _ ?_;clear hK K;refine O.X 11 (.tuple #[.agg ts,.int .i64 re]) 15 rfl rfl ?_ ?_
 ·intro wx;go_simp
 refine O.X 12 (.agg ts) 27 rfl rfl ?_ ?_
 ·intro wx;go_simp
 refine O.X 13 (.int .i64 re) 28 rfl rfl ?_ ?_
 ·intro wx;go_simp
 refine O.X 14 (.pointer (some ⟨g,99+i * 22,none⟩)) 29 rfl rfl ?_ ?_
 ·intro wx;go_simp
 have q1:(Option.map (fun x=>x.size) (prog.info? 63))=some ts.size:=by rw[HT.out,z3C];rfl
 have q2:ts.all (fun x=>x.oneCell')=true:=by rw[HT.out];exact z2k U3
 have q3:w3.there g (99+i * 22) ts.size:=by rw[HT.out];exact by simpa using (q1L x v hi rc u3).there (HK.out.2.2.over b3)
 refine O.z2n (i:=15) (by kernel_rfl) rfl rfl 63 _ _ rfl rfl g (99+i * 22) ts rfl rfl q3 q1 q2 ?_
 refine O.X 16 (.int .i64 re) 4 rfl rfl ?_ ?_
 ·intro wx;go_simp
 refine wpAny_done (by kernel_rfl) ?_ _
 have HZ:=hide (q2c HI.out hg HK.out.2.1 HK.out.2.2 hlt b3 hi U3);rw[← HT.out]at HZ;generalize w3.setCells g (99+i * 22) ts.toList=w4 at *;clear q1 q2 q3 HS hS;go_simp;go_wp2;go_ret;exact⟨rfl,HZ.out⟩
theorem q2k(g:Nat)(x:Wo)(v:WoV)(P:Nat->Prop)(w:World)(i:Nat)(hi:i<2)(d vv n:Int)(b f:Bool)(hC:CAt 98 w g (wdC x v))(hI:WIn P w x v)(hg:¬ P g) :
  Calls prog 73 #[.pointer (some ⟨g,0,none⟩),.agg #[.int .i64 12,.int .i64 (i:Int),.int .i64 d,.int .i64 vv,.int .i64 n,.bool b,.bool f]] w (q2W P w g ({ x with c:=z2L x.c i (z1d (x.c i) vv n x.ck).1 },(z1d (x.c i) vv n x.ck).2)):=by
 have hlt:=hC.lt;have hi2:(i:Int)<2:=by omega
 have hi0:(0:Int)<=(i:Int):=by omega
 have HC:=hide hC;have HI:=hide hI;clear hC hI;have HRX:=hide (fun (wx:World) (hb:Below w.heap.size w wx)=>q2Q (x.c i) (v.c i) P wx vv n x.ck ((HI.out.c i hi).over hb));generalize z1d (x.c i) vv n x.ck=r at *;obtain⟨rc,re⟩:=r;dsimp only
 go_enter func73,ntmps73
 go_upto_region 1 with fail
 have K0:=CAt.new 29 w #[.int .i64 12,.int .i64 (i:Int),.int .i64 d,.int .i64 vv,.int .i64 n,.bool b,.bool f];have b0:Below w.heap.size w (w.alloc (.cells #[.int .i64 12,.int .i64 (i:Int),.int .i64 d,.int .i64 vv,.int .i64 n,.bool b,.bool f] 29)):=znw w _;generalize w.alloc (.cells #[.int .i64 12,.int .i64 (i:Int),.int .i64 d,.int .i64 vv,.int .i64 n,.bool b,.bool f] 29)=wa at *;have ka1:wa.cell? ⟨w.heap.size,1,none⟩=some (.int .i64 (i:Int)):=K0.cell 1;have hza:=K0.lt;have HK0:=hide (show _/\_ from⟨K0,b0⟩);clear K0 b0;go_quiet (fail);simp only[Exit.then];apply_assumption;have K1:=HK0.out.1.over (below_drewN (Below.refl wa.heap.size wa) nq);have b1:=below_drewN HK0.out.2 nq;clear ka1 HK0 hza;generalize wa.drewN nq=w0 at *;have HK:=hide (show _/\_/\_ from⟨K1,b1,HC.out.over b1⟩);clear K1 b1;have hz0:=HK.out.1.lt;have hzg:=HK.out.2.2.lt;have k0:w0.cell? ⟨w.heap.size,0,none⟩=some (.int .i64 12):=HK.out.1.cell 0
 go_upto_region 4 with fail
 clear k0;have hd0:=(Below.refl w0.heap.size w0).drew
 have HS:(z7k (.pointer (some ⟨g,99+i * 22,none⟩))).run prog w0.drew=.ok (.agg (csC (x.c i) (v.c i))) w0.drew/\w0.drew.cell? ⟨w.heap.size,3,none⟩=some (.int .i64 vv)/\w0.drew.cell? ⟨w.heap.size,4,none⟩=some (.int .i64 n)/\w0.drew.cell? ⟨g,0,none⟩=some (.int .i64 x.ck):=
  ⟨j4Y ((q1L x v hi (x.c i) (v.c i)).part (HK.out.2.2.over hd0)) (z0p _ _),(HK.out.1.over hd0).cell 3,(HK.out.1.over hd0).cell 4,(HK.out.2.2.over hd0).cell 0⟩
 have HRD:=hide (HRX.out w0.drew (zbt HK.out.2.1 hd0));generalize Value.agg (csC (x.c i) (v.c i))=V0 at HS HRD;clear HRX hd0;refine O.z1m (c:=12) (S:=fun wx=>wx=w0.drew) (by kernel_rfl) ?_
 have hS:w0.drew=w0.drew:=rfl;refine O.z0w (i:=0) (v:=(.pointer (some ⟨g,99+i * 22,none⟩))) (some 31) rfl rfl (by kernel_rfl) (by kernel_rfl) (by kernel_rfl) (by decide) (fun _ _ _ h=>h) (Or.inl ⟨by rfl,?_⟩) hS ?_
 ·intro wx;go_simp
 refine O.Y 1 (.pointer (some ⟨g,99+i * 22,none⟩)) 32 rfl rfl hS ?_ ?_
 ·rintro wx rfl;go_simp
 refine O.Y 2 (.pointer (some ⟨g,99+i * 22,none⟩)) 33 rfl rfl hS ?_ ?_
 ·rintro wx rfl;go_simp
 refine O.Y 3 V0 34 rfl rfl hS ?_ ?_
 ·rintro wx rfl;have l:=HS.1;go_simp
 refine O.Y 4 (.pointer (some ⟨w.heap.size,3,none⟩)) 35 rfl rfl hS ?_ ?_
 ·rintro wx rfl;go_simp
 refine O.Y 5 (.int .i64 vv) 36 rfl rfl hS ?_ ?_
 ·rintro wx rfl;have l:=HS.2.1;go_simp
 refine O.Y 6 (.pointer (some ⟨w.heap.size,4,none⟩)) 37 rfl rfl hS ?_ ?_
 ·rintro wx rfl;go_simp
 refine O.Y 7 (.int .i64 n) 38 rfl rfl hS ?_ ?_
 ·rintro wx rfl;have l:=HS.2.2.1;go_simp
 refine O.Y 8 (.pointer (some ⟨g,0,none⟩)) 39 rfl rfl hS ?_ ?_
 ·rintro wx rfl;go_simp
 refine O.Y 9 (.pointer (some ⟨g,0,none⟩)) 40 rfl rfl hS ?_ ?_
 ·rintro wx rfl;go_simp
 refine O.Y 10 (.pointer (some ⟨g,0,none⟩)) 41 rfl rfl hS ?_ ?_
 ·rintro wx rfl;go_simp
 refine O.Y 11 (.int .i64 x.ck) 42 rfl rfl hS ?_ ?_
 ·rintro wx rfl;have l:=HS.2.2.2;go_simp
 refine O.z2j (by kernel_rfl) rfl (fun K hK=>?_)
 refine z0E rfl ?_;go_simp;refine HRD.out.mono ?_;rintro e w3⟨u3,rfl,U3,hb3⟩;dsimp only at U3;dsimp only;have b3:=(Below.refl w0.heap.size w0).drew.trans hb3;obtain⟨ts,hts⟩:∃ y,y=csC rc u3:=⟨_,rfl⟩;rw[← hts];have HT:=hide hts;clear hts;refine hK _ _ ?_;clear hK K;refine O.X 13 (.tuple #[.agg ts,.int .i64 re]) 30 rfl rfl ?_ ?_
 ·intro wx;go_simp
 refine O.X 14 (.agg ts) 44 rfl rfl ?_ ?_
 ·intro wx;go_simp
 refine O.X 15 (.int .i64 re) 45 rfl rfl ?_ ?_
 ·intro wx;go_simp
 refine O.X 16 (.pointer (some ⟨g,99+i * 22,none⟩)) 46 rfl rfl ?_ ?_
 ·intro wx;go_simp
 have q1:(Option.map (fun x=>x.size) (prog.info? 63))=some ts.size:=by rw[HT.out,z3C];rfl
 have q2:ts.all (fun x=>x.oneCell')=true:=by rw[HT.out];exact z2k U3
 have q3:w3.there g (99+i * 22) ts.size:=by rw[HT.out];exact by simpa using (q1L x v hi rc u3).there (HK.out.2.2.over b3)
 refine O.z2n (i:=17) (by kernel_rfl) rfl rfl 63 _ _ rfl rfl g (99+i * 22) ts rfl rfl q3 q1 q2 ?_
 refine O.X 18 (.int .i64 re) 4 rfl rfl ?_ ?_
 ·intro wx;go_simp
 refine wpAny_done (by kernel_rfl) ?_ _
 have HZ:=hide (q2c HI.out hg HK.out.2.1 HK.out.2.2 hlt b3 hi U3);rw[← HT.out]at HZ;generalize w3.setCells g (99+i * 22) ts.toList=w4 at *;clear q1 q2 q3 HS hS;go_simp;go_wp2;go_ret;exact⟨rfl,HZ.out⟩
theorem j2c(g:Nat)(x:Wo)(v:WoV)(P:Nat->Prop)(w:World)(i:Nat)(hi:i<2)(d:Dd)(hk:d.k=11∨d.k=12)(hc:d.c=(i:Int))(hC:CAt 98 w g (wdC x v))(hI:WIn P w x v)(hg:¬ P g) :
  Calls prog 73 #[.pointer (some ⟨g,0,none⟩),.agg (ddC d)] w (q2W P w g (q2N x i d)):=by
 obtain⟨k,c,d,vv,n,b,f⟩:=d;change c=_ at hc;subst hc
 rcases hk with hk | hk <;> (change k=_ at hk;subst hk)
 ·exact q9t g x v P w i hi d vv n b f hC hI hg
 ·exact q2k g x v P w i hi d vv n b f hC hI hg
end Wd
end Go.Proofs.YtmopekkhmhhcaaaGreat
