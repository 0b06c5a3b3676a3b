/- Parts of the proof. -/
import Derived.Test.YtmopekkhmhhcaaaGreatFL
import Derived.Test.YtmopekkhmhhcaaaGreatFK41
set_option maxRecDepth 100000
set_option maxHeartbeats 16000000
namespace Go.Proofs.YtmopekkhmhhcaaaGreat
open Go.Proofs.Tryz
namespace Wd
open Go.RowKit Pv Kc
theorem q0Y{P:Nat->Prop}{w w0 w3:World}{g:Nat}{x:Wo}{v:WoV}(hI:WIn P w x v)(hg:¬ P g)(hb:Below w.heap.size w w0)(C0:CAt 98 w0 g (wdC x v))(hlt:g<w.heap.size)(b3:Below w0.heap.size w0 w3){p':Pr}{u:PrV}{k:Nat}(hu:PIn (New P w0 k) w3 p' u):z1a P w g { x with p:=p' } (w3.setCells g 2 (prC p' u).toList):=by
 have hb3:=zbt hb b3;have A3:Alt g w (w3.setCells g 2 (prC p' u).toList):=(Alt.of (g:=g) hb3).sets _ 2;refine⟨{ v with p:=u },(z8y x v p' u).sets (C0.over b3),⟨?_,fun i hi=>(hI.c i hi).j1a hg A3 0⟩,A3⟩
 have hs:=hb.size;refine (hu.sets (g:=g) (fun h=>?_) 2 _).mono fun b hlb h=>?_
 ·rcases h with⟨h,_⟩ | h
  ·exact hg h
  ·omega
 ·rcases h with⟨h,hl⟩ | h
  ·by_cases e:b<w.heap.size
   ·exact .inl ⟨h,e⟩
   ·exact .inr (by omega)
  ·exact .inr (by omega)
theorem q2c{P:Nat->Prop}{w w0 w3:World}{g:Nat}{x:Wo}{v:WoV}(hI:WIn P w x v)(hg:¬ P g)(hb:Below w.heap.size w w0)(C0:CAt 98 w0 g (wdC x v))(hlt:g<w.heap.size)(b3:Below w0.heap.size w0 w3){i:Nat}(hi:i<2){c':Cs}{u:CsV}{k:Nat}(hu:CIn (New P w0 k) w3 c' u):z1a P w g { x with c:=z2L x.c i c' } (w3.setCells g (99+i * 22) (csC c' u).toList):=by
 have hb3:=zbt hb b3;have A3:Alt g w (w3.setCells g (99+i * 22) (csC c' u).toList):=(Alt.of (g:=g) hb3).sets _ _;refine⟨v.upd i u,(q1L x v hi c' u).sets (C0.over b3),⟨hI.p.j1a hg A3 0,fun k' hk=>?_⟩,A3⟩;have hs:=hb.size
 show CIn _ _ (z2L x.c i c' k') (if k'=i then u else v.c k')
 unfold z2L
 by_cases e:k'=i
 ·rw[if_pos e,if_pos e];refine (hu.sets (g:=g) (fun h=>?_) _ _).mono fun b hlb h=>?_
  ·rcases h with⟨h,_⟩ | h
   ·exact hg h
   ·omega
  ·rcases h with⟨h,hl⟩ | h
   ·by_cases e:b<w.heap.size
    ·exact .inl ⟨h,e⟩
    ·exact .inr (by omega)
   ·exact .inr (by omega)
 ·rw[if_neg e,if_neg e];exact (hI.c k' hk).j1a hg A3 0
attribute [local go_sem ↓] z1K z0K z0q z1y
theorem q6K(g:Nat)(x:Wo)(v:WoV)(P:Nat->Prop)(w:World)(c d vv n:Int)(b f:Bool)(hC:CAt 98 w g (wdC x v))(hI:WIn P w x v)(hg:¬ P g) :
  Calls prog 56 #[.pointer (some ⟨g,0,none⟩),.agg #[.int .i64 1,.int .i64 c,.int .i64 d,.int .i64 vv,.int .i64 n,.bool b,.bool f]] w (q2W P w g ({ x with p:=(z2O x.p d vv n).1 },(z2O x.p d vv n).2)):=by
 have hlt:=hC.lt;have HC:=hide hC;have HI:=hide hI;clear hC hI;have HRX:=hide (fun (wx:World) (hb:Below w.heap.size w wx)=>q5A x.p v.p P wx d vv n (HI.out.p.over hb));generalize z2O x.p d vv n=r at *;obtain⟨rp,re⟩:=r;dsimp only
 go_enter func56,ntmps56
 go_upto_region 4 with fail
 have K0:=CAt.new 29 w #[.int .i64 1,.int .i64 c,.int .i64 d,.int .i64 vv,.int .i64 n,.bool b,.bool f];have b0:Below w.heap.size w (w.alloc (.cells #[.int .i64 1,.int .i64 c,.int .i64 d,.int .i64 vv,.int .i64 n,.bool b,.bool f] 29)):=znw w _;generalize w.alloc (.cells #[.int .i64 1,.int .i64 c,.int .i64 d,.int .i64 vv,.int .i64 n,.bool b,.bool f] 29)=w0 at *;have HK:=hide (show _/\_/\_ from⟨K0,b0,HC.out.over b0⟩);clear K0 b0;have hz0:=HK.out.1.lt;have hzg:=HK.out.2.2.lt;have hd0:=(Below.refl w0.heap.size w0).drew
 have HS:(q0k (.pointer (some ⟨g,2,none⟩))).run prog w0.drew=.ok (.agg (prC x.p v.p)) w0.drew/\w0.drew.cell? ⟨w.heap.size,2,none⟩=some (.int .i64 d)/\w0.drew.cell? ⟨w.heap.size,3,none⟩=some (.int .i64 vv)/\w0.drew.cell? ⟨w.heap.size,4,none⟩=some (.int .i64 n)/\w0.drew.cell? ⟨g,0,none⟩=some (.int .i64 x.ck):=
  ⟨j1T ((z8y x v x.p v.p).part (HK.out.2.2.over hd0)) (z0a _ _),(HK.out.1.over hd0).cell 2,(HK.out.1.over hd0).cell 3,(HK.out.1.over hd0).cell 4,(HK.out.2.2.over hd0).cell 0⟩
 have HRD:=hide (HRX.out w0.drew (zbt HK.out.2.1 hd0));generalize Value.agg (prC x.p v.p)=V0 at HS HRD;clear HRX hd0;refine O.z1m (c:=10) (S:=fun wx=>wx=w0.drew) (by kernel_rfl) ?_
 have hS:w0.drew=w0.drew:=rfl;refine O.z0w (i:=0) (v:=(.pointer (some ⟨g,2,none⟩))) (some 14) rfl rfl (by kernel_rfl) (by kernel_rfl) (by kernel_rfl) (by decide) (fun _ _ _ h=>h) (Or.inl ⟨by rfl,?_⟩) hS ?_
 ·intro wx;go_simp
 refine O.Y 1 (.pointer (some ⟨g,2,none⟩)) 15 rfl rfl hS ?_ ?_
 ·rintro wx rfl;go_simp
 refine O.Y 2 (.pointer (some ⟨g,2,none⟩)) 16 rfl rfl hS ?_ ?_
 ·rintro wx rfl;go_simp
 refine O.Y 3 V0 17 rfl rfl hS ?_ ?_
 ·rintro wx rfl;have l:=HS.1;go_simp
 refine O.Y 4 (.pointer (some ⟨w.heap.size,2,none⟩)) 18 rfl rfl hS ?_ ?_
 ·rintro wx rfl;go_simp
 refine O.Y 5 (.int .i64 d) 19 rfl rfl hS ?_ ?_
 ·rintro wx rfl;have l:=HS.2.1;have l1:=HS.2.2.1;have l2:=HS.2.2.2.1;go_simp
 refine O.Y 6 (.pointer (some ⟨w.heap.size,3,none⟩)) 20 rfl rfl hS ?_ ?_
 ·rintro wx rfl;go_simp
 refine O.Y 7 (.int .i64 vv) 21 rfl rfl hS ?_ ?_
 ·rintro wx rfl;have l:=HS.2.1;have l1:=HS.2.2.1;have l2:=HS.2.2.2.1;go_simp
 refine O.Y 8 (.pointer (some ⟨w.heap.size,4,none⟩)) 22 rfl rfl hS ?_ ?_
 ·rintro wx rfl;go_simp
 refine O.Y 9 (.int .i64 n) 23 rfl rfl hS ?_ ?_
 ·rintro wx rfl;have l:=HS.2.1;have l1:=HS.2.2.1;have l2:=HS.2.2.2.1;go_simp
 refine O.z2j (by kernel_rfl) rfl (fun K hK=>?_)
 refine z0E rfl ?_;go_simp;refine HRD.out.mono ?_;rintro e w3⟨u3,rfl,U3,hb3⟩;dsimp only at U3;dsimp only;have b3:=(Below.refl w0.heap.size w0).drew.trans hb3;obtain⟨ts,hts⟩:∃ y,y=prC rp u3:=⟨_,rfl⟩;rw[← hts];have HT:=hide hts;clear hts;refine hK _ _ ?_;clear hK K;refine O.X 11 (.tuple #[.agg ts,.int .i64 re]) 13 rfl rfl ?_ ?_
 ·intro wx;go_simp
 refine O.X 12 (.agg ts) 25 rfl rfl ?_ ?_
 ·intro wx;go_simp
 refine O.X 13 (.int .i64 re) 26 rfl rfl ?_ ?_
 ·intro wx;go_simp
 refine O.X 14 (.pointer (some ⟨g,2,none⟩)) 27 rfl rfl ?_ ?_
 ·intro wx;go_simp
 have q1:(Option.map (fun x=>x.size) (prog.info? 57))=some ts.size:=by rw[HT.out,z3l];rfl
 have q2:ts.all (fun x=>x.oneCell')=true:=by rw[HT.out];exact z1c U3
 have q3:w3.there g 2 ts.size:=by rw[HT.out];exact by simpa using (z8y x v rp u3).there (HK.out.2.2.over b3)
 refine O.z2n (i:=15) (by kernel_rfl) rfl rfl 57 _ _ rfl rfl g 2 ts rfl rfl q3 q1 q2 ?_
 refine O.X 16 (.int .i64 re) 4 rfl rfl ?_ ?_
 ·intro wx;go_simp
 refine wpAny_done (by kernel_rfl) ?_ _
 have HZ:=hide (q0Y HI.out hg HK.out.2.1 HK.out.2.2 hlt b3 U3);rw[← HT.out]at HZ;generalize w3.setCells g 2 ts.toList=w4 at *;clear q1 q2 q3 HS hS;go_simp;go_wp2;go_ret;exact⟨rfl,HZ.out⟩
theorem q5Q(g:Nat)(x:Wo)(v:WoV)(P:Nat->Prop)(w:World)(c d vv n:Int)(b f:Bool)(hC:CAt 98 w g (wdC x v))(hI:WIn P w x v)(hg:¬ P g) :
  Calls prog 56 #[.pointer (some ⟨g,0,none⟩),.agg #[.int .i64 2,.int .i64 c,.int .i64 d,.int .i64 vv,.int .i64 n,.bool b,.bool f]] w (q2W P w g ({ x with p:=(z1J x.p d vv n x.ck).1 },(z1J x.p d vv n x.ck).2)):=by
 have hlt:=hC.lt;have HC:=hide hC;have HI:=hide hI;clear hC hI;have HRX:=hide (fun (wx:World) (hb:Below w.heap.size w wx)=>q5D x.p v.p P wx d vv n x.ck (HI.out.p.over hb));generalize z1J x.p d vv n x.ck=r at *;obtain⟨rp,re⟩:=r;dsimp only
 go_enter func56,ntmps56
 go_upto_region 6 with fail
 have K0:=CAt.new 29 w #[.int .i64 2,.int .i64 c,.int .i64 d,.int .i64 vv,.int .i64 n,.bool b,.bool f];have b0:Below w.heap.size w (w.alloc (.cells #[.int .i64 2,.int .i64 c,.int .i64 d,.int .i64 vv,.int .i64 n,.bool b,.bool f] 29)):=znw w _;generalize w.alloc (.cells #[.int .i64 2,.int .i64 c,.int .i64 d,.int .i64 vv,.int .i64 n,.bool b,.bool f] 29)=w0 at *;have HK:=hide (show _/\_/\_ from⟨K0,b0,HC.out.over b0⟩);clear K0 b0;have hz0:=HK.out.1.lt;have hzg:=HK.out.2.2.lt;have hd0:=(Below.refl w0.heap.size w0).drew
 have HS:(q0k (.pointer (some ⟨g,2,none⟩))).run prog w0.drew=.ok (.agg (prC x.p v.p)) w0.drew/\w0.drew.cell? ⟨w.heap.size,2,none⟩=some (.int .i64 d)/\w0.drew.cell? ⟨w.heap.size,3,none⟩=some (.int .i64 vv)/\w0.drew.cell? ⟨w.heap.size,4,none⟩=some (.int .i64 n)/\w0.drew.cell? ⟨g,0,none⟩=some (.int .i64 x.ck):=
  ⟨j1T ((z8y x v x.p v.p).part (HK.out.2.2.over hd0)) (z0a _ _),(HK.out.1.over hd0).cell 2,(HK.out.1.over hd0).cell 3,(HK.out.1.over hd0).cell 4,(HK.out.2.2.over hd0).cell 0⟩
 have HRD:=hide (HRX.out w0.drew (zbt HK.out.2.1 hd0));generalize Value.agg (prC x.p v.p)=V0 at HS HRD;clear HRX hd0;refine O.z1m (c:=14) (S:=fun wx=>wx=w0.drew) (by kernel_rfl) ?_
 have hS:w0.drew=w0.drew:=rfl;refine O.z0w (i:=0) (v:=(.pointer (some ⟨g,2,none⟩))) (some 31) rfl rfl (by kernel_rfl) (by kernel_rfl) (by kernel_rfl) (by decide) (fun _ _ _ h=>h) (Or.inl ⟨by rfl,?_⟩) hS ?_
 ·intro wx;go_simp
 refine O.Y 1 (.pointer (some ⟨g,2,none⟩)) 32 rfl rfl hS ?_ ?_
 ·rintro wx rfl;go_simp
 refine O.Y 2 (.pointer (some ⟨g,2,none⟩)) 33 rfl rfl hS ?_ ?_
 ·rintro wx rfl;go_simp
 refine O.Y 3 V0 34 rfl rfl hS ?_ ?_
 ·rintro wx rfl;have l:=HS.1;go_simp
 refine O.Y 4 (.pointer (some ⟨w.heap.size,2,none⟩)) 35 rfl rfl hS ?_ ?_
 ·rintro wx rfl;go_simp
 refine O.Y 5 (.int .i64 d) 36 rfl rfl hS ?_ ?_
 ·rintro wx rfl;have l:=HS.2.1;have l1:=HS.2.2.1;have l2:=HS.2.2.2.1;go_simp
 refine O.Y 6 (.pointer (some ⟨w.heap.size,3,none⟩)) 37 rfl rfl hS ?_ ?_
 ·rintro wx rfl;go_simp
 refine O.Y 7 (.int .i64 vv) 38 rfl rfl hS ?_ ?_
 ·rintro wx rfl;have l:=HS.2.1;have l1:=HS.2.2.1;have l2:=HS.2.2.2.1;go_simp
 refine O.Y 8 (.pointer (some ⟨w.heap.size,4,none⟩)) 39 rfl rfl hS ?_ ?_
 ·rintro wx rfl;go_simp
 refine O.Y 9 (.int .i64 n) 40 rfl rfl hS ?_ ?_
 ·rintro wx rfl;have l:=HS.2.1;have l1:=HS.2.2.1;have l2:=HS.2.2.2.1;go_simp
 refine O.Y 10 (.pointer (some ⟨g,0,none⟩)) 41 rfl rfl hS ?_ ?_
 ·rintro wx rfl;go_simp
 refine O.Y 11 (.pointer (some ⟨g,0,none⟩)) 42 rfl rfl hS ?_ ?_
 ·rintro wx rfl;go_simp
 refine O.Y 12 (.pointer (some ⟨g,0,none⟩)) 43 rfl rfl hS ?_ ?_
 ·rintro wx rfl;go_simp
 refine O.Y 13 (.int .i64 x.ck) 44 rfl rfl hS ?_ ?_
 ·rintro wx rfl;have l:=HS.2.2.2.2;go_simp
 refine O.z2j (by kernel_rfl) rfl (fun K hK=>?_)
 refine z0E rfl ?_;go_simp;refine HRD.out.mono ?_;rintro e w3⟨u3,rfl,U3,hb3⟩;dsimp only at U3;dsimp only;have b3:=(Below.refl w0.heap.size w0).drew.trans hb3;obtain⟨ts,hts⟩:∃ y,y=prC rp u3:=⟨_,rfl⟩;rw[← hts];have HT:=hide hts;clear hts;refine hK _ _ ?_;clear hK K;refine O.X 15 (.tuple #[.agg ts,.int .i64 re]) 30 rfl rfl ?_ ?_
 ·intro wx;go_simp
 refine O.X 16 (.agg ts) 46 rfl rfl ?_ ?_
 ·intro wx;go_simp
 refine O.X 17 (.int .i64 re) 47 rfl rfl ?_ ?_
 ·intro wx;go_simp
 refine O.X 18 (.pointer (some ⟨g,2,none⟩)) 48 rfl rfl ?_ ?_
 ·intro wx;go_simp
 have q1:(Option.map (fun x=>x.size) (prog.info? 57))=some ts.size:=by rw[HT.out,z3l];rfl
 have q2:ts.all (fun x=>x.oneCell')=true:=by rw[HT.out];exact z1c U3
 have q3:w3.there g 2 ts.size:=by rw[HT.out];exact by simpa using (z8y x v rp u3).there (HK.out.2.2.over b3)
 refine O.z2n (i:=19) (by kernel_rfl) rfl rfl 57 _ _ rfl rfl g 2 ts rfl rfl q3 q1 q2 ?_
 refine O.X 20 (.int .i64 re) 4 rfl rfl ?_ ?_
 ·intro wx;go_simp
 refine wpAny_done (by kernel_rfl) ?_ _
 have HZ:=hide (q0Y HI.out hg HK.out.2.1 HK.out.2.2 hlt b3 U3);rw[← HT.out]at HZ;generalize w3.setCells g 2 ts.toList=w4 at *;clear q1 q2 q3 HS hS;go_simp;go_wp2;go_ret;exact⟨rfl,HZ.out⟩
theorem q7l(g:Nat)(x:Wo)(v:WoV)(P:Nat->Prop)(w:World)(c d vv n:Int)(b f:Bool)(hC:CAt 98 w g (wdC x v))(hI:WIn P w x v)(hg:¬ P g) :
  Calls prog 56 #[.pointer (some ⟨g,0,none⟩),.agg #[.int .i64 13,.int .i64 c,.int .i64 d,.int .i64 vv,.int .i64 n,.bool b,.bool f]] w (q2W P w g ({ x with p:=(z4u x.p vv n).1 },(z4u x.p vv n).2)):=by
 have hlt:=hC.lt;have HC:=hide hC;have HI:=hide hI;clear hC hI;have HRX:=hide (fun (wx:World) (hb:Below w.heap.size w wx)=>q9o x.p v.p P wx vv n (HI.out.p.over hb));generalize z4u x.p vv n=r at *;obtain⟨rp,re⟩:=r;dsimp only
 go_enter func56,ntmps56
 go_upto_region 10 with fail
 have K0:=CAt.new 29 w #[.int .i64 13,.int .i64 c,.int .i64 d,.int .i64 vv,.int .i64 n,.bool b,.bool f];have b0:Below w.heap.size w (w.alloc (.cells #[.int .i64 13,.int .i64 c,.int .i64 d,.int .i64 vv,.int .i64 n,.bool b,.bool f] 29)):=znw w _;generalize w.alloc (.cells #[.int .i64 13,.int .i64 c,.int .i64 d,.int .i64 vv,.int .i64 n,.bool b,.bool f] 29)=w0 at *;have HK:=hide (show _/\_/\_ from⟨K0,b0,HC.out.over b0⟩);clear K0 b0;have hz0:=HK.out.1.lt;have hzg:=HK.out.2.2.lt;have hd0:=(Below.refl w0.heap.size w0).drew
 have HS:(q0k (.pointer (some ⟨g,2,none⟩))).run prog w0.drew=.ok (.agg (prC x.p v.p)) w0.drew/\w0.drew.cell? ⟨w.heap.size,2,none⟩=some (.int .i64 d)/\w0.drew.cell? ⟨w.heap.size,3,none⟩=some (.int .i64 vv)/\w0.drew.cell? ⟨w.heap.size,4,none⟩=some (.int .i64 n)/\w0.drew.cell? ⟨g,0,none⟩=some (.int .i64 x.ck):=
  ⟨j1T ((z8y x v x.p v.p).part (HK.out.2.2.over hd0)) (z0a _ _),(HK.out.1.over hd0).cell 2,(HK.out.1.over hd0).cell 3,(HK.out.1.over hd0).cell 4,(HK.out.2.2.over hd0).cell 0⟩
 have HRD:=hide (HRX.out w0.drew (zbt HK.out.2.1 hd0));generalize Value.agg (prC x.p v.p)=V0 at HS HRD;clear HRX hd0;refine O.z1m (c:=8) (S:=fun wx=>wx=w0.drew) (by kernel_rfl) ?_
 have hS:w0.drew=w0.drew:=rfl;refine O.z0w (i:=0) (v:=(.pointer (some ⟨g,2,none⟩))) (some 67) rfl rfl (by kernel_rfl) (by kernel_rfl) (by kernel_rfl) (by decide) (fun _ _ _ h=>h) (Or.inl ⟨by rfl,?_⟩) hS ?_
 ·intro wx;go_simp
 refine O.Y 1 (.pointer (some ⟨g,2,none⟩)) 68 rfl rfl hS ?_ ?_
 ·rintro wx rfl;go_simp
 refine O.Y 2 (.pointer (some ⟨g,2,none⟩)) 69 rfl rfl hS ?_ ?_
 ·rintro wx rfl;go_simp
 refine O.Y 3 V0 70 rfl rfl hS ?_ ?_
 ·rintro wx rfl;have l:=HS.1;go_simp
 refine O.Y 4 (.pointer (some ⟨w.heap.size,3,none⟩)) 71 rfl rfl hS ?_ ?_
 ·rintro wx rfl;go_simp
 refine O.Y 5 (.int .i64 vv) 72 rfl rfl hS ?_ ?_
 ·rintro wx rfl;have l:=HS.2.1;have l1:=HS.2.2.1;have l2:=HS.2.2.2.1;go_simp
 refine O.Y 6 (.pointer (some ⟨w.heap.size,4,none⟩)) 73 rfl rfl hS ?_ ?_
 ·rintro wx rfl;go_simp
 refine O.Y 7 (.int .i64 n) 74 rfl rfl hS ?_ ?_
 ·rintro wx rfl;have l:=HS.2.1;have l1:=HS.2.2.1;have l2:=HS.2.2.2.1;go_simp
 refine O.z2j (by kernel_rfl) rfl (fun K hK=>?_)
 refine z0E rfl ?_;go_simp;refine HRD.out.mono ?_;rintro e w3⟨u3,rfl,U3,hb3⟩;dsimp only at U3;dsimp only;have b3:=(Below.refl w0.heap.size w0).drew.trans hb3;obtain⟨ts,hts⟩:∃ y,y=prC rp u3:=⟨_,rfl⟩;rw[← hts];have HT:=hide hts;clear hts;refine hK _ _ ?_;clear hK K;refine O.X 9 (.tuple #[.agg ts,.int .i64 re]) 66 rfl rfl ?_ ?_
 ·intro wx;go_simp
 refine O.X 10 (.agg ts) 76 rfl rfl ?_ ?_
 ·intro wx;go_simp
 refine O.X 11 (.int .i64 re) 77 rfl rfl ?_ ?_
 ·intro wx;go_simp
 refine O.X 12 (.pointer (some ⟨g,2,none⟩)) 78 rfl rfl ?_ ?_
 ·intro wx;go_simp
 have q1:(Option.map (fun x=>x.size) (prog.info? 57))=some ts.size:=by rw[HT.out,z3l];rfl
 have q2:ts.all (fun x=>x.oneCell')=true:=by rw[HT.out];exact z1c U3
 have q3:w3.there g 2 ts.size:=by rw[HT.out];exact by simpa using (z8y x v rp u3).there (HK.out.2.2.over b3)
 refine O.z2n (i:=13) (by kernel_rfl) rfl rfl 57 _ _ rfl rfl g 2 ts rfl rfl q3 q1 q2 ?_
 refine O.X 14 (.int .i64 re) 4 rfl rfl ?_ ?_
 ·intro wx;go_simp
 refine wpAny_done (by kernel_rfl) ?_ _
 have HZ:=hide (q0Y HI.out hg HK.out.2.1 HK.out.2.2 hlt b3 U3);rw[← HT.out]at HZ;generalize w3.setCells g 2 ts.toList=w4 at *;clear q1 q2 q3 HS hS;go_simp;go_wp2;go_ret;exact⟨rfl,HZ.out⟩
theorem q2H(g:Nat)(x:Wo)(v:WoV)(P:Nat->Prop)(w:World)(c d vv n:Int)(b f:Bool)(hC:CAt 98 w g (wdC x v))(hI:WIn P w x v)(hg:¬ P g) :
  Calls prog 56 #[.pointer (some ⟨g,0,none⟩),.agg #[.int .i64 3,.int .i64 c,.int .i64 d,.int .i64 vv,.int .i64 n,.bool b,.bool f]] w (q2W P w g ({ x with p:={ x.p with s:=(z1S x.p.s vv).1 } },(z1S x.p.s vv).2)):=by
 have hlt:=hC.lt;have HC:=hide hC;have HI:=hide hI;clear hC hI;have HRX:=hide (fun (wx:World) (hb:Below w.heap.size w wx)=>q9h (HI.out.p.ws.over hb) vv);have HW:=hide (y0D x.p.s vv);generalize z1S x.p.s vv=r at *;obtain⟨rp,re⟩:=r;dsimp only at HW;dsimp only
 go_enter func56,ntmps56
 go_upto_region 8 with fail
 have K0:=CAt.new 29 w #[.int .i64 3,.int .i64 c,.int .i64 d,.int .i64 vv,.int .i64 n,.bool b,.bool f];have b0:Below w.heap.size w (w.alloc (.cells #[.int .i64 3,.int .i64 c,.int .i64 d,.int .i64 vv,.int .i64 n,.bool b,.bool f] 29)):=znw w _;generalize w.alloc (.cells #[.int .i64 3,.int .i64 c,.int .i64 d,.int .i64 vv,.int .i64 n,.bool b,.bool f] 29)=w0 at *;have HK:=hide (show _/\_/\_ from⟨K0,b0,HC.out.over b0⟩);clear K0 b0;have hz0:=HK.out.1.lt;have hzg:=HK.out.2.2.lt;have hd0:=(Below.refl w0.heap.size w0).drew;have HAT:=hide (fun (s:St) (u:Value)=>(z8y x v { x.p with s:=s } { v.p with ws:=u }).nest (y1g x.p v.p s u))
 have HS:(z8M (.pointer (some ⟨g,2+2,none⟩))).run prog w0.drew=.ok (.agg (stC x.p.s v.p.ws)) w0.drew/\w0.drew.cell? ⟨w.heap.size,3,none⟩=some (.int .i64 vv):=
  ⟨y1k ((HAT.out x.p.s v.p.ws).part (HK.out.2.2.over hd0)) (z0g _ _),(HK.out.1.over hd0).cell 3⟩
 have HRD:=hide (HRX.out w0.drew (zbt HK.out.2.1 hd0));generalize Value.agg (stC x.p.s v.p.ws)=V0 at HS HRD;clear HRX hd0;refine O.z1m (c:=7) (S:=fun wx=>wx=w0.drew) (by kernel_rfl) ?_
 have hS:w0.drew=w0.drew:=rfl;refine O.z0w (i:=0) (v:=(.pointer (some ⟨g,2,none⟩))) (some 52) rfl rfl (by kernel_rfl) (by kernel_rfl) (by kernel_rfl) (by decide) (fun _ _ _ h=>h) (Or.inl ⟨by rfl,?_⟩) hS ?_
 ·intro wx;go_simp
 refine O.Y 1 (.pointer (some ⟨g,2,none⟩)) 53 rfl rfl hS ?_ ?_
 ·rintro wx rfl;go_simp
 refine O.Y 2 (.pointer (some ⟨g,2,none⟩)) 54 rfl rfl hS ?_ ?_
 ·rintro wx rfl;go_simp
 refine O.Y 3 (.pointer (some ⟨g,2+2,none⟩)) 55 rfl rfl hS ?_ ?_
 ·rintro wx rfl;go_simp
 refine O.Y 4 V0 56 rfl rfl hS ?_ ?_
 ·rintro wx rfl;have l:=HS.1;go_simp
 refine O.Y 5 (.pointer (some ⟨w.heap.size,3,none⟩)) 57 rfl rfl hS ?_ ?_
 ·rintro wx rfl;go_simp
 refine O.Y 6 (.int .i64 vv) 58 rfl rfl hS ?_ ?_
 ·rintro wx rfl;have l:=HS.2;go_simp
 refine O.z2j (by kernel_rfl) rfl (fun K hK=>?_)
 refine z0E rfl ?_;go_simp;refine HRD.out.mono ?_;rintro e w3⟨rfl,hb3⟩;dsimp only;have b3:=(Below.refl w0.heap.size w0).drew.trans hb3;obtain⟨ts,hts⟩:∃ y,y=stC rp v.p.ws:=⟨_,rfl⟩;rw[← hts];have HT:=hide hts;clear hts;refine hK _ _ ?_;clear hK K;refine O.X 8 (.tuple #[.agg ts,.int .i64 re]) 51 rfl rfl ?_ ?_
 ·intro wx;go_simp
 refine O.X 9 (.agg ts) 60 rfl rfl ?_ ?_
 ·intro wx;go_simp
 refine O.X 10 (.int .i64 re) 61 rfl rfl ?_ ?_
 ·intro wx;go_simp
 refine O.X 11 (.pointer (some ⟨g,2,none⟩)) 62 rfl rfl ?_ ?_
 ·intro wx;go_simp
 refine O.X 12 (.pointer (some ⟨g,2+2,none⟩)) 63 rfl rfl ?_ ?_
 ·intro wx;go_simp
 have q1:(Option.map (fun x=>x.size) (prog.info? 43))=some ts.size:=by rw[HT.out,z0y];rfl
 have q2:ts.all (fun x=>x.oneCell')=true:=by rw[HT.out];exact z7f _ HI.out.p.ws.one'
 have q3:w3.there g (2+2) ts.size:=by rw[HT.out];exact by simpa using (HAT.out rp v.p.ws).there (HK.out.2.2.over b3)
 refine O.z2n (i:=13) (by kernel_rfl) rfl rfl 43 _ _ rfl rfl g (2+2) ts rfl rfl q3 q1 q2 ?_
 refine O.X 14 (.int .i64 re) 4 rfl rfl ?_ ?_
 ·intro wx;go_simp
 refine wpAny_done (by kernel_rfl) ?_ _
 have hb3':=zbt HK.out.2.1 b3;have A3:Alt g w (w3.setCells g (2+2) ts.toList):=(Alt.of (g:=g) hb3').sets _ _;have pin:=HI.out.p.j1a hg A3 0;have HZ:Hid (z1a P w g { x with p:={ x.p with s:=rp } } (w3.setCells g (2+2) ts.toList)):=⟨{ v with p:={ v.p with ws:=v.p.ws } },by rw[HT.out];exact (HAT.out rp v.p.ws).sets (HK.out.2.2.over b3),⟨⟨by show Rep _ _ _ _ _ (wsL rp.W);rw[HW.out];exact pin.ws,pin.set,pin.lk,pin.q⟩,fun i hi=>(HI.out.c i hi).j1a hg A3 0⟩,A3⟩
 generalize w3.setCells g (2+2) ts.toList=w4 at *;clear q1 q2 q3 HS hS pin A3;go_simp;go_wp2;go_ret;exact⟨rfl,HZ.out⟩
theorem z7u(g:Nat)(x:Wo)(v:WoV)(P:Nat->Prop)(w:World)(d:Dd)(hk:d.k=1∨d.k=2∨d.k=3∨d.k=13)(hC:CAt 98 w g (wdC x v))(hI:WIn P w x v)(hg:¬ P g) :
  Calls prog 56 #[.pointer (some ⟨g,0,none⟩),.agg (ddC d)] w (q2W P w g (atP x d)):=by
 obtain⟨k,c,d,vv,n,b,f⟩:=d
 rcases hk with hk | hk | hk | hk <;> (change k=_ at hk;subst hk)
 ·exact q6K g x v P w c d vv n b f hC hI hg
 ·exact q5Q g x v P w c d vv n b f hC hI hg
 ·exact q2H g x v P w c d vv n b f hC hI hg
 ·exact q7l g x v P w c d vv n b f hC hI hg
end Wd
end Go.Proofs.YtmopekkhmhhcaaaGreat
