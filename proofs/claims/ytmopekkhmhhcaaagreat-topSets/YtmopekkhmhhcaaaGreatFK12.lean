/- Parts of the proof. -/
import Derived.Test.YtmopekkhmhhcaaaGreatFL
import Derived.Test.YtmopekkhmhhcaaaGreatFK14
set_option maxRecDepth 100000
set_option maxHeartbeats 16000000
namespace Go.Proofs.YtmopekkhmhhcaaaGreat
open Go.Proofs.Tryz
namespace Wd
open Go.RowKit Pv Kc
theorem j2L(g:Nat)(x:Wo)(v:WoV)(P:Nat->Prop)(w:World)(k c d vv n:Int)(b f:Bool)(hC:CAt 98 w g (wdC x v))(hI:WIn P w x v)(hg:¬ P g)(hk:k=7∨k=8∨k=11∨k=12∨k=9∨k=10)(hc:isC c=false) :
  Calls prog 37 #[.pointer (some ⟨g,0,none⟩),.agg #[.int .i64 k,.int .i64 c,.int .i64 d,.int .i64 vv,.int .i64 n,.bool b,.bool f]] w (q0h P w g (x,0,4)):=by
 have hlt:=hC.lt;have hI':=hI.lo;have hg':¬ (P g/\g<w.heap.size):=fun h=>hg h.1;have HSA:=q3T hC hI hg;have HCC:=hide (fun (wx:World)=>z3r c wx);rw[hc]at HCC;have K0:=CAt.new 29 w #[.int .i64 k,.int .i64 c,.int .i64 d,.int .i64 vv,.int .i64 n,.bool b,.bool f];have b0:Below w.heap.size w (w.alloc (.cells #[.int .i64 k,.int .i64 c,.int .i64 d,.int .i64 vv,.int .i64 n,.bool b,.bool f] 29)):=znw w _;have HFIN:=z1Q P w g;clear hC hI hI' hg';clear hc
 go_enter func37,ntmps37
 go_upto_region 1 with fail
 generalize w.alloc (.cells #[.int .i64 k,.int .i64 c,.int .i64 d,.int .i64 vv,.int .i64 n,.bool b,.bool f] 29)=w0 at *;obtain⟨k0,k1,k2,k3,k4,k5,k6⟩:=z2r K0;have HB0:=hide b0;have hz0:=K0.lt;have HK0:=hide K0;clear K0 b0
 rcases hk with rfl | rfl | rfl | rfl | rfl | rfl
 all_goals
  go_upto_region 19 with fail
  have HLF:Hid (∀ wx,Below w0.heap.size w0 wx->wx.cell? ⟨w.heap.size,1,none⟩=some (.int .i64 c)/\True):=fun wx hb=>⟨(HK0.out.over hb).cell 1,trivial⟩;refine wp_region_held_drew (S:=fun wx=>Below w0.heap.size w0 wx) (by kernel_rfl) (Below.refl _ _).drew (fun hS=>?_)
  refine O.G 0 (.pointer (some ⟨w.heap.size,1,none⟩)) 45 rfl rfl hS ?_;simp only[O.pp,O.pb,O.pc];refine O.Z 1 (.int .i64 c) 46 rfl rfl hS (fun wx hSw=>by obtain⟨l1,l2⟩:=HLF.out wx hSw;go_simp) ?_
  simp only[O.pp,O.pb,O.pc];refine wpAnyH_ready (rs:=[2]) (by kernel_rfl) (by simp) ?_
  refine AllReadyH.cons rfl (fun K hK=>?_) AllReadyH.nil;go_simp;refine (HCC.out _).mono ?_;rintro e w3⟨rfl,rfl⟩;dsimp only;refine hK.out _ _ hS (fun hS=>?_);clear hK K;refine O.G 3 (.bool true) 48 rfl rfl hS ?_;simp only[O.pp,O.pb,O.pc];refine O.G 4 (.bool true) 49 rfl rfl hS ?_;simp only[O.pp,O.pb,O.pc];refine O.U 5 50 rfl rfl hS ?_;simp only[O.pp,O.pb,O.pc];refine O.U 6 51 rfl rfl hS ?_;simp only[O.pp,O.pb,O.pc];refine O.U 7 52 rfl rfl hS ?_;simp only[O.pp,O.pb,O.pc];refine O.U 8 53 rfl rfl hS ?_;simp only[O.pp,O.pb,O.pc];refine O.U 9 54 rfl rfl hS ?_;simp only[O.pp,O.pb,O.pc];refine O.U 10 55 rfl rfl hS ?_;simp only[O.pp,O.pb,O.pc];refine O.U 11 56 rfl rfl hS ?_;simp only[O.pp,O.pb,O.pc];refine O.U 12 57 rfl rfl hS ?_;simp only[O.pp,O.pb,O.pc];refine O.U 13 58 rfl rfl hS ?_;simp only[O.pp,O.pb,O.pc];refine O.G 14 (.bool true) 59 rfl rfl hS ?_;simp only[O.pp,O.pb,O.pc];refine wpAnyH_done (by kernel_rfl) ?_ _
  have HBZ:=hide (zbt HB0.out hS);clear hS k0 k1 k2 k3 k4 k5 k6 HLF;generalize w0.drew=w1 at *;go_simp;go_wp2;go_ret2;exact⟨rfl,HSA.out _ HBZ.out⟩
theorem q9c(g:Nat)(x:Wo)(v:WoV)(P:Nat->Prop)(w:World)(i:Nat)(hi:i<2)(k d vv n:Int)(b f:Bool)(hC:CAt 98 w g (wdC x v))(hI:WIn P w x v)(hg:¬ P g)(hk:k=7∨k=8∨k=11∨k=12∨k=9∨k=10)(hon:(x.c i).on=false) :
  Calls prog 37 #[.pointer (some ⟨g,0,none⟩),.agg #[.int .i64 k,.int .i64 (i:Int),.int .i64 d,.int .i64 vv,.int .i64 n,.bool b,.bool f]] w (q0h P w g (x,0,4)):=by
 have hi2:(i:Int)<2:=by omega
 have hi0:(0:Int)<=(i:Int):=by omega
 have hcc:isC (i:Int)=true:=by unfold isC;simp;omega
 have hlt:=hC.lt;have hI':=hI.lo;have hg':¬ (P g/\g<w.heap.size):=fun h=>hg h.1;have HSA:=q3T hC hI hg;have HCC:=hide (fun (wx:World)=>z3r (i:Int) wx);rw[hcc]at HCC;have HON:=hide (fun (wx:World) (hb:Below w.heap.size w wx)=>j9p (hC.over hb) hi);rw[hon]at HON;have K0:=CAt.new 29 w #[.int .i64 k,.int .i64 (i:Int),.int .i64 d,.int .i64 vv,.int .i64 n,.bool b,.bool f];have b0:Below w.heap.size w (w.alloc (.cells #[.int .i64 k,.int .i64 (i:Int),.int .i64 d,.int .i64 vv,.int .i64 n,.bool b,.bool f] 29)):=znw w _;have HFIN:=z1Q P w g;clear hC hI hI' hg';clear hon hcc
 go_enter func37,ntmps37
 go_upto_region 1 with fail
 generalize w.alloc (.cells #[.int .i64 k,.int .i64 (i:Int),.int .i64 d,.int .i64 vv,.int .i64 n,.bool b,.bool f] 29)=w0 at *;obtain⟨k0,k1,k2,k3,k4,k5,k6⟩:=z2r K0;have HB0:=hide b0;have hz0:=K0.lt;have HK0:=hide K0;clear K0 b0
 rcases hk with rfl | rfl | rfl | rfl | rfl | rfl
 all_goals
  go_upto_region 19 with fail
  have HLF:Hid (∀ wx,Below w0.heap.size w0 wx->wx.cell? ⟨w.heap.size,1,none⟩=some (.int .i64 (i:Int))/\wx.cell? ⟨g,99+i * 22,none⟩=some (.bool false)):=fun wx hb=>⟨(HK0.out.over hb).cell 1,HON.out wx (zbt HB0.out hb)⟩;refine wp_region_held_drew (S:=fun wx=>Below w0.heap.size w0 wx) (by kernel_rfl) (Below.refl _ _).drew (fun hS=>?_)
  refine O.G 0 (.pointer (some ⟨w.heap.size,1,none⟩)) 45 rfl rfl hS ?_;simp only[O.pp,O.pb,O.pc];refine O.Z 1 (.int .i64 (i:Int)) 46 rfl rfl hS (fun wx hSw=>by obtain⟨l1,l2⟩:=HLF.out wx hSw;go_simp) ?_
  simp only[O.pp,O.pb,O.pc];refine wpAnyH_ready (rs:=[2]) (by kernel_rfl) (by simp) ?_
  refine AllReadyH.cons rfl (fun K hK=>?_) AllReadyH.nil;go_simp;refine (HCC.out _).mono ?_;rintro e w3⟨rfl,rfl⟩;dsimp only;refine hK.out _ _ hS (fun hS=>?_);clear hK K;refine O.G 3 (.bool false) 48 rfl rfl hS ?_;simp only[O.pp,O.pb,O.pc];refine O.G 4 (.bool false) 49 rfl rfl hS ?_;simp only[O.pp,O.pb,O.pc];refine O.G 5 (.pointer (some ⟨g,0,none⟩)) 50 rfl rfl hS ?_;simp only[O.pp,O.pb,O.pc];refine O.G 6 (.pointer (some ⟨w.heap.size,1,none⟩)) 51 rfl rfl hS ?_;simp only[O.pp,O.pb,O.pc];refine O.Z 7 (.int .i64 (i:Int)) 52 rfl rfl hS (fun wx hSw=>by obtain⟨l1,l2⟩:=HLF.out wx hSw;go_simp) ?_
  simp only[O.pp,O.pb,O.pc];refine O.G 8 (.pointer (some ⟨g,0,none⟩)) 53 rfl rfl hS ?_;simp only[O.pp,O.pb,O.pc];refine O.G 9 (.pointer (some ⟨g,99,none⟩)) 54 rfl rfl hS ?_;simp only[O.pp,O.pb,O.pc];refine O.G 10 (.pointer (some ⟨g,99+i * 22,none⟩)) 55 rfl rfl hS ?_;simp only[O.pp,O.pb,O.pc];refine O.G 11 (.pointer (some ⟨g,99+i * 22,none⟩)) 56 rfl rfl hS ?_;simp only[O.pp,O.pb,O.pc];refine O.Z 12 (.bool false) 57 rfl rfl hS (fun wx hSw=>by obtain⟨l1,l2⟩:=HLF.out wx hSw;go_simp) ?_
  simp only[O.pp,O.pb,O.pc];refine O.G 13 (.bool true) 58 rfl rfl hS ?_;simp only[O.pp,O.pb,O.pc];refine O.G 14 (.bool true) 59 rfl rfl hS ?_;simp only[O.pp,O.pb,O.pc];refine wpAnyH_done (by kernel_rfl) ?_ _
  have HBZ:=hide (zbt HB0.out hS);clear hS k0 k1 k2 k3 k4 k5 k6 HLF;generalize w0.drew=w1 at *;go_simp;go_wp2;go_ret2;exact⟨rfl,HSA.out _ HBZ.out⟩
theorem j1i(g:Nat)(x:Wo)(v:WoV)(P:Nat->Prop)(w:World)(i:Nat)(hi:i<2)(k d vv n:Int)(b f:Bool)(hC:CAt 98 w g (wdC x v))(hI:WIn P w x v)(hg:¬ P g)(hk:k=7∨k=8∨k=11∨k=12∨k=9∨k=10)(hs:Small x)(hon:(x.c i).on=true) :
  Calls prog 37 #[.pointer (some ⟨g,0,none⟩),.agg #[.int .i64 k,.int .i64 (i:Int),.int .i64 d,.int .i64 vv,.int .i64 n,.bool b,.bool f]] w (q0h P w g (z5b x i ⟨k,(i:Int),d,vv,n,b,f⟩)):=by
 have hi2:(i:Int)<2:=by omega
 have hi0:(0:Int)<=(i:Int):=by omega
 have hcc:isC (i:Int)=true:=by unfold isC;simp;omega
 have hlt:=hC.lt;have hI':=hI.lo;have hg':¬ (P g/\g<w.heap.size):=fun h=>hg h.1;have HWI:=hide (fun (wx:World) (hb:Below w.heap.size w wx)=>j0C g x v _ wx i hi k d vv n b f hk (hC.over hb) (hI'.over hb) hg' hs);have HCC:=hide (fun (wx:World)=>z3r (i:Int) wx);rw[hcc]at HCC;have HON:=hide (fun (wx:World) (hb:Below w.heap.size w wx)=>j9p (hC.over hb) hi);rw[hon]at HON;have K0:=CAt.new 29 w #[.int .i64 k,.int .i64 (i:Int),.int .i64 d,.int .i64 vv,.int .i64 n,.bool b,.bool f];have b0:Below w.heap.size w (w.alloc (.cells #[.int .i64 k,.int .i64 (i:Int),.int .i64 d,.int .i64 vv,.int .i64 n,.bool b,.bool f] 29)):=znw w _;have HFIN:=z1Q P w g;clear hC hI hI' hg';clear hon hcc;generalize z5b x i ⟨k,(i:Int),d,vv,n,b,f⟩=r at *;obtain⟨rx,rn,re⟩:=r
 go_enter func37,ntmps37
 go_upto_region 1 with fail
 generalize w.alloc (.cells #[.int .i64 k,.int .i64 (i:Int),.int .i64 d,.int .i64 vv,.int .i64 n,.bool b,.bool f] 29)=w0 at *;obtain⟨k0,k1,k2,k3,k4,k5,k6⟩:=z2r K0;have HB0:=hide b0;have hz0:=K0.lt;have HK0:=hide K0;clear K0 b0
 rcases hk with rfl | rfl | rfl | rfl | rfl | rfl
 all_goals
  go_upto_region 19 with fail
  have HLF:Hid (∀ wx,Below w0.heap.size w0 wx->wx.cell? ⟨w.heap.size,1,none⟩=some (.int .i64 (i:Int))/\wx.cell? ⟨g,99+i * 22,none⟩=some (.bool true)):=fun wx hb=>⟨(HK0.out.over hb).cell 1,HON.out wx (zbt HB0.out hb)⟩;refine wp_region_held_drew (S:=fun wx=>Below w0.heap.size w0 wx) (by kernel_rfl) (Below.refl _ _).drew (fun hS=>?_)
  refine O.G 0 (.pointer (some ⟨w.heap.size,1,none⟩)) 45 rfl rfl hS ?_;simp only[O.pp,O.pb,O.pc];refine O.Z 1 (.int .i64 (i:Int)) 46 rfl rfl hS (fun wx hSw=>by obtain⟨l1,l2⟩:=HLF.out wx hSw;go_simp) ?_
  simp only[O.pp,O.pb,O.pc];refine wpAnyH_ready (rs:=[2]) (by kernel_rfl) (by simp) ?_
  refine AllReadyH.cons rfl (fun K hK=>?_) AllReadyH.nil;go_simp;refine (HCC.out _).mono ?_;rintro e w3⟨rfl,rfl⟩;dsimp only;refine hK.out _ _ hS (fun hS=>?_);clear hK K;refine O.G 3 (.bool false) 48 rfl rfl hS ?_;simp only[O.pp,O.pb,O.pc];refine O.G 4 (.bool false) 49 rfl rfl hS ?_;simp only[O.pp,O.pb,O.pc];refine O.G 5 (.pointer (some ⟨g,0,none⟩)) 50 rfl rfl hS ?_;simp only[O.pp,O.pb,O.pc];refine O.G 6 (.pointer (some ⟨w.heap.size,1,none⟩)) 51 rfl rfl hS ?_;simp only[O.pp,O.pb,O.pc];refine O.Z 7 (.int .i64 (i:Int)) 52 rfl rfl hS (fun wx hSw=>by obtain⟨l1,l2⟩:=HLF.out wx hSw;go_simp) ?_
  simp only[O.pp,O.pb,O.pc];refine O.G 8 (.pointer (some ⟨g,0,none⟩)) 53 rfl rfl hS ?_;simp only[O.pp,O.pb,O.pc];refine O.G 9 (.pointer (some ⟨g,99,none⟩)) 54 rfl rfl hS ?_;simp only[O.pp,O.pb,O.pc];refine O.G 10 (.pointer (some ⟨g,99+i * 22,none⟩)) 55 rfl rfl hS ?_;simp only[O.pp,O.pb,O.pc];refine O.G 11 (.pointer (some ⟨g,99+i * 22,none⟩)) 56 rfl rfl hS ?_;simp only[O.pp,O.pb,O.pc];refine O.Z 12 (.bool true) 57 rfl rfl hS (fun wx hSw=>by obtain⟨l1,l2⟩:=HLF.out wx hSw;go_simp) ?_
  simp only[O.pp,O.pb,O.pc];refine O.G 13 (.bool false) 58 rfl rfl hS ?_;simp only[O.pp,O.pb,O.pc];refine O.G 14 (.bool false) 59 rfl rfl hS ?_;simp only[O.pp,O.pb,O.pc];refine wpAnyH_done (by kernel_rfl) ?_ _
  have HBZ:=hide (zbt HB0.out hS);have HK1:=hide (HK0.out.over hS);clear hS k0 k1 k2 k3 k4 k5 k6 HLF;generalize w0.drew=w1 at *;obtain⟨k0,k1,k2,k3,k4,k5,k6⟩:=z2r HK1.out;have hz1:=HK1.out.lt;go_simp
  go_wp2_with (go_at_call 60;refine (HWI.out _ HBZ.out).mono ?_;rintro e w2⟨rfl,Z⟩;have HZ:=hide Z;clear Z;dsimp only)
  go_ret2;exact⟨rfl,HFIN.out _ _ _ HBZ.out HZ.out⟩
end Wd
end Go.Proofs.YtmopekkhmhhcaaaGreat
