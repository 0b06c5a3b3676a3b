/- Parts of the proof. -/
import Derived.Test.YtmopekkhmhhcaaaGreatFL
import Derived.Test.YtmopekkhmhhcaaaGreatFK13
set_option maxRecDepth 100000
set_option maxHeartbeats 16000000
namespace Go.Proofs.YtmopekkhmhhcaaaGreat
open Go.Proofs.Tryz
namespace Wd
open Go.RowKit Pv Kc
theorem j8G(l:List ByteArray):∀ u∈txC l,u.oneCell'=true:=fun u hu=>by
 obtain⟨x,_,rfl⟩:=List.mem_map.1 hu;rfl
theorem q7i(l:List Int):∀ u∈inC l,u.oneCell'=true:=fun u hu=>by
 obtain⟨x,_,rfl⟩:=List.mem_map.1 hu;rfl
attribute [local go_sem ↓] z2E z1Y
theorem z8W(l:Ln.Line)(v1 v2:Value)(P:Nat->Prop)(w:World)(h1:z0I P w v1 1 16 (txC l.S))(h2:z0I P w v2 1 8 (inC l.D)) :
  Calls prog 43 #[.agg #[v1,v2,.int .i64 l.g,.bool l.cl]] w fun e w'=>∃ u1 u2,e=.returned (.agg #[u1,u2,.int .i64 l.g,.bool l.cl])/\z0I (fun b=>w.heap.size+2<=b) w' u1 1 16 (txC l.S)/\z0I (fun b=>w.heap.size+2<=b) w' u2 1 8 (inC l.D)/\Below w.heap.size w w':=by
 obtain⟨A1,C1,rfl,R1,hb1⟩:=z5s h1 (z2c l.S) (by decide)
 obtain⟨A2,C2,rfl,R2,hb2⟩:=z5s h2 (z0r l.D) (by decide)
 have HT:=hide (fun (wx:World) (hb:Below w.heap.size w wx)=>q5T A1 l.S.length C1 (txC l.S) wx (by obtain⟨B,D,e,R,-⟩:=z5s (h1.over hb) (z2c l.S) (by decide);cases e;exact R) (j8G _) hb1)
 have HI:=hide (fun (wx:World) (hb:Below w.heap.size w wx)=>z6p A2 l.D.length C2 (inC l.D) wx (by obtain⟨B,D,e,R,-⟩:=z5s (h2.over hb) (z0r l.D) (by decide);cases e;exact R) (q7i _) hb2)
 clear h1 h2 R1 R2 hb1 hb2;generalize l.g=lg at *;generalize l.cl=lc at *;have K0:=(CAt.new 47 w #[.slice A1 l.S.length C1,.slice A2 l.D.length C2,.int .i64 lg,.bool lc]).alloc (.cells Z4' 47);have R0:=CAt.new2 47 w (.cells #[.slice A1 l.S.length C1,.slice A2 l.D.length C2,.int .i64 lg,.bool lc] 47) Z4';have b0:Below w.heap.size w ((w.alloc (.cells #[.slice A1 l.S.length C1,.slice A2 l.D.length C2,.int .i64 lg,.bool lc] 47)).alloc (.cells Z4' 47)):=(znw w _).alloc (by simp) _
 go_enter func43,ntmps43
 go_upto_region 1 with fail
 change Code.wp prog _ _ _ ((w.alloc (.cells #[.slice A1 l.S.length C1,.slice A2 l.D.length C2,.int .i64 lg,.bool lc] 47)).alloc (.cells Z4' 47));generalize (w.alloc (.cells #[.slice A1 l.S.length C1,.slice A2 l.D.length C2,.int .i64 lg,.bool lc] 47)).alloc (.cells Z4' 47)=w0 at *;have a0:w0.cell? ⟨w.heap.size,0,none⟩=some (.slice A1 l.S.length C1):=K0.cell 0;have HX:=hide (show _/\_/\_ from⟨K0,R0,b0⟩);have hz0:=R0.lt;clear K0 R0 b0
 go_upto_region 2 with (go_at_call 61;refine (HT.out _ HX.out.2.2).mono ?_;rintro e w1⟨B1,D1,rfl,U1,hb1⟩;have K1:=HX.out.1.over hb1;have f1:=K1.free 0;have y1:w1.cell? ⟨w.heap.size,0,none⟩=some (.slice A1 l.S.length C1):=K1.cell 0;have hz1:=K1.lt;have HU1:=hide (show _/\_ from⟨U1,hb1⟩);clear a0 U1 hb1)
 have K2:=K1.set 0 (.slice B1 l.S.length D1);have R2:=((HX.out.2.1.over HU1.out.2).other (c:=w.heap.size) (o:=0) (by omega) (.slice B1 l.S.length D1))
 have B1':=zbt HX.out.2.2 HU1.out.2;have b2:=B1'.setCell (p:=⟨w.heap.size,0,none⟩) (Nat.le_refl _) (.slice B1 l.S.length D1);have U2:=HU1.out.1.sets (g:=w.heap.size) (fun h=>by omega) 0 [.slice B1 l.S.length D1]
 change Rep _ (w1.setCell ⟨w.heap.size,0,none⟩ (.slice B1 l.S.length D1)) _ _ _ _ at U2;clear y1 f1 K1 HX;generalize w1.setCell ⟨w.heap.size,0,none⟩ (.slice B1 l.S.length D1)=w2 at *;have a2:w2.cell? ⟨w.heap.size,1,none⟩=some (.slice A2 l.D.length C2):=K2.cell 1;have HX:=hide (show _/\_/\_/\_ from⟨K2,R2,b2,U2⟩);have hz2:=R2.lt;have hs0:w.heap.size+2<=w0.heap.size:=hz0;clear K2 R2 b2 U2 B1' HU1
 go_upto_region 3 with (go_at_call 42;refine (HI.out _ HX.out.2.2.1).mono ?_;rintro e w3⟨B3,D3,rfl,U3,hb3⟩;have K3:=HX.out.1.over hb3;have f3:=K3.free 1;have y3:w3.cell? ⟨w.heap.size,1,none⟩=some (.slice A2 l.D.length C2):=K3.cell 1;have hz3:=K3.lt;have HU3:=hide (show _/\_ from⟨U3,hb3⟩);clear a2 U3 hb3)
 have K4:=K3.set 1 (.slice B3 l.D.length D3);have R4:=((HX.out.2.1.over HU3.out.2).other (c:=w.heap.size) (o:=1) (by omega) (.slice B3 l.D.length D3))
 have b4:=(zbt HX.out.2.2.1 HU3.out.2).setCell (p:=⟨w.heap.size,1,none⟩) (Nat.le_refl _) (.slice B3 l.D.length D3);have U4:=HU3.out.1.sets (g:=w.heap.size) (fun h=>by omega) 1 [.slice B3 l.D.length D3]
 have V4:=((HX.out.2.2.2.over HU3.out.2).sets (g:=w.heap.size) (fun h=>by omega) 1 [.slice B3 l.D.length D3])
 change Rep _ (w3.setCell ⟨w.heap.size,1,none⟩ (.slice B3 l.D.length D3)) _ _ _ _ at U4;change Rep _ (w3.setCell ⟨w.heap.size,1,none⟩ (.slice B3 l.D.length D3)) _ _ _ _ at V4;clear y3 f3 K3;generalize w3.setCell ⟨w.heap.size,1,none⟩ (.slice B3 l.D.length D3)=w4 at *;have hz4:=R4.lt;have s0:w.heap.size+2<=w2.heap.size:=hz2;have K4':CAt 47 w4 w.heap.size #[.slice B1 l.S.length D1,.slice B3 l.D.length D3,.int .i64 lg,.bool lc]:=K4;have l4:=z6u K4'.range rfl;have s4:=q2s (w:=w4) (g:=w.heap.size+1) (o:=0) (cs:=[.slice B1 l.S.length D1,.slice B3 l.D.length D3,.int .i64 lg,.bool lc]) (R4.there 0 _ (Nat.le_refl _)) rfl (by simp[Value.oneCell'])
 have R5:CAt 47 (w4.setCells (w.heap.size+1) 0 [.slice B1 l.S.length D1,.slice B3 l.D.length D3,.int .i64 lg,.bool lc]) (w.heap.size+1) #[.slice B1 l.S.length D1,.slice B3 l.D.length D3,.int .i64 lg,.bool lc]:=R4.z0H (ds:=#[.slice B1 l.S.length D1,.slice B3 l.D.length D3,.int .i64 lg,.bool lc]) rfl;have b5:=z0b (b:=w.heap.size+1) (Nat.le_succ _) [.slice B1 l.S.length D1,.slice B3 l.D.length D3,.int .i64 lg,.bool lc] 0 _ b4;have U5:=U4.sets (g:=w.heap.size+1) (fun h=>by omega) 0 [.slice B1 l.S.length D1,.slice B3 l.D.length D3,.int .i64 lg,.bool lc]
 have V5:=V4.sets (g:=w.heap.size+1) (fun h=>by omega) 0 [.slice B1 l.S.length D1,.slice B3 l.D.length D3,.int .i64 lg,.bool lc]
 have HZ:=hide (show _/\_/\_/\_ from⟨R5,b5,(U5.mono (P':=fun b=>w.heap.size+2<=b) fun b _ hb=>by omega).c,(V5.mono (P':=fun b=>w.heap.size+2<=b) fun b _ hb=>by omega).c⟩)
 change (z2I (.pointer (some ⟨w.heap.size,0,none⟩))).run prog w4=.ok (.agg #[.slice B1 l.S.length D1,.slice B3 l.D.length D3,.int .i64 lg,.bool lc]) w4 at l4;change (z3k (.pointer (some ⟨w.heap.size+1,0,none⟩)) (.agg #[.slice B1 l.S.length D1,.slice B3 l.D.length D3,.int .i64 lg,.bool lc])).run prog w4=_ at s4;generalize w4.setCells (w.heap.size+1) 0 [.slice B1 l.S.length D1,.slice B3 l.D.length D3,.int .i64 lg,.bool lc]=w5 at *;clear K4 K4' R4 b4 U4 V4 R5 b5 U5 V5 HX HU3;go_wp2;exact bodyPost_ret (v:=.agg #[.slice B1 l.S.length D1,.slice B3 l.D.length D3,.int .i64 lg,.bool lc]) (results_cell_row results43 _ _ (w.heap.size+1) 47 _ (0,0) _ rfl HZ.out.1 underlying47 rfl (by kernel_rfl)) rfl ⟨_,_,rfl,HZ.out.2.2.2,HZ.out.2.2.1,HZ.out.2.1⟩
theorem z8i(g o:Nat)(ty:TypeId)(cs:Array Value)(S:List (Int×Int))(Dl:List Int)(v1 v2:Value)(P:Nat->Prop)(w:World)(hC:CAt ty w g cs)(c4:cs[o+4]?=some v1)(c5:cs[o+5]?=some v2)(h1:Rep P w v1 2 16 (pwC S))(h2:Rep P w v2 1 8 (inC Dl))(hg:¬ P g) :
  Calls prog 45 #[.pointer (some ⟨g,o,none⟩)] w fun e w'=>∃ u1 u2,e=.returned (.tuple #[])/\CAt ty w' g ((cs.setIfInBounds (o+4) u1).setIfInBounds (o+5) u2)/\Rep (fun b=>w.heap.size<=b) w' u1 2 16 (pwC S)/\Rep (fun b=>w.heap.size<=b) w' u2 1 8 (inC Dl)/\Alt g w w':=by
 obtain⟨A1,C1,rfl,R1,hb1⟩:=row_of h1 (z0c S) (by decide)
 obtain⟨A2,C2,rfl,R2,hb2⟩:=row_of h2 (z0r Dl) (by decide)
 have HP:=hide (z4S A1 S.length C1 (pwC S) w R1 (z6t _) hb1);have HI:=hide (fun (wx:World) (ha:Alt g w wx)=>z6p A2 Dl.length C2 (inC Dl) wx (by obtain⟨B,D,e,R,-⟩:=row_of (ha.rep hg h2) (z0r Dl) (by decide);cases e;exact R) (q7i _) hb2)
 have hlt:=hC.lt;have a4:w.cell? ⟨g,o+4,none⟩=some (.slice A1 S.length C1):=(hC.cell _).trans c4;have HC:=hide hC;have h5:o+5<cs.size:=(Array.getElem?_eq_some_iff.1 c5).1;have H5:=hide c5;clear h1 h2 R1 R2 hb1 hb2 hC c4 c5
 go_enter func45,ntmps45
 go_upto_region 1 with (go_at_call 41;refine HP.out.mono ?_;rintro e w1⟨B1,D1,rfl,U1,hb1⟩;have K1:=HC.out.over hb1;have f1:=K1.free (o+4);have y1:w1.cell? ⟨g,o+4,none⟩=some (.slice A1 S.length C1):=(by have:=hb1.cell (p:=⟨g,o+4,none⟩) hlt;rw[this];exact a4);have hz1:=K1.lt;have HU1:=hide (show _/\_ from⟨U1,hb1⟩);clear U1 hb1)
 have K2:=K1.set (o+4) (.slice B1 S.length D1);have A2':Alt g w (w1.setCell ⟨g,o+4,none⟩ (.slice B1 S.length D1)):=(Alt.of (g:=g) HU1.out.2).set _ _;have U2:=((Alt.refl g w1).set (o+4) (.slice B1 S.length D1)).rep (P:=fun b=>w.heap.size<=b) (fun h=>by omega) HU1.out.1
 clear y1 f1 a4 K1;generalize w1.setCell ⟨g,o+4,none⟩ (.slice B1 S.length D1)=w2 at *;have a5:w2.cell? ⟨g,o+5,none⟩=some (.slice A2 Dl.length C2):=by rw[K2.cell,Array.getElem?_setIfInBounds_ne (by omega)];exact H5.out
 have hz2:=K2.lt;have HX:=hide (show _/\_/\_ from⟨K2,A2',U2⟩);clear K2 A2' U2 HU1
 go_wp2_with (go_at_call 42;refine (HI.out _ HX.out.2.1).mono ?_;rintro e w3⟨B3,D3,rfl,U3,hb3⟩;have K3:=HX.out.1.over hb3;have f3:=K3.free (o+5);have y3:w3.cell? ⟨g,o+5,none⟩=some (.slice A2 Dl.length C2):=(by have:=hb3.cell (p:=⟨g,o+5,none⟩) hz2;rw[this];exact a5);have hz3:=K3.lt;have HU3:=hide (show _/\_ from⟨U3,hb3⟩);clear U3 hb3)
 go_end0;have ha:=HX.out.2.1.size;refine⟨_,_,rfl,K3.set (o+5) (.slice B3 Dl.length D3),?_,?_,HX.out.2.1.trans ((Alt.of (g:=g) HU3.out.2).set _ _)⟩
 ·exact ((Alt.of (g:=g) HU3.out.2).set (o+5) (.slice B3 Dl.length D3)).rep (P:=fun b=>w.heap.size<=b) (fun h=>by omega) HX.out.2.2
 ·exact (((Alt.refl g w3).set (o+5) (.slice B3 Dl.length D3)).rep (P:=fun b=>w2.heap.size<=b) (fun h=>by omega) HU3.out.1).mono fun b _ hb=>by omega
end Wd
namespace Wd
open Go.RowKit Pv Kc
attribute [local go_sem ↓] z2E z1Y z4N
theorem j9D(f:Bool)(g:Nat)(x:Wo)(v:WoV)(P:Nat->Prop)(w:World)(i:Nat)(hi:i<2)(hC:CAt 98 w g (wdC x v))(hI:WIn P w x v)(hg:¬ P g)(hgl:Ln.z0T (z1j x i true)=true)(hsm:small (z1j x i true).S)(hq88:x.p.q.length * 88<=140737488351232)(h80:(x.c i).pd.length * 80<=140737488351232) :
  Calls prog 71 #[.pointer (some ⟨g,0,none⟩),.int .i64 (i:Int),.bool true,.bool f] w (q0h P w g (z9K x i true f)):=by
 have hD:z9K x i true f=if Ln.z4v (x.c i).out ((x.c i).out.g+1) (z0G x i true f) (x.p.L i).h2 x.ck=0 then (if (z1N x i true (z0G x i true f)).2=0 then (z1M (z1N x i true (z0G x i true f)).1 i true (Ln.z4Z (x.c i).out ((x.c i).out.g+1) (z0G x i true f) (x.p.L i).h2 x.ck),(x.c i).out.g+1,0) else ((z1N x i true (z0G x i true f)).1,0,(z1N x i true (z0G x i true f)).2)) else (x,0,Ln.z4v (x.c i).out ((x.c i).out.g+1) (z0G x i true f) (x.p.L i).h2 x.ck):=rfl;have hdl:Ln.z4v (x.c i).out ((x.c i).out.g+1) (z0G x i true f) (x.p.L i).h2 x.ck=0->(Ln.z4Z (x.c i).out ((x.c i).out.g+1) (z0G x i true f) (x.p.L i).h2 x.ck).g=(x.c i).out.g+1:=fun h=>by rw[q0g h]
 change Ln.z0T (x.c i).out=true at hgl;change small (x.c i).out.S at hsm;obtain⟨-,hS4,-,hg0,hg1⟩:=(z0Y _).1 hgl
 have hnx:(z4a (x.c i).out).size<=100:=by
  unfold z4a
  split
  ·decide
  ·rename_i hn;refine hsm _ ?_;rw[List.getD_eq_getElem?_getD,List.getElem?_eq_getElem (by omega)]
   exact List.getElem_mem _
 have htx:(z0G x i true f).size<=maxLen:=by
  have hm:(1000:Nat)<=maxLen:=by decide
  have h2:(q2i (z4a (x.c i).out)).size<=100:=z5X (by simp) (by simp)
  have h3:(z0G x i true f).size<=100:=by
   cases f
   ·exact hnx
   ·exact h2
  omega
 have hlt:=hC.lt;have hi2:(i:Int)<2:=by omega
 have hi0:(0:Int)<=(i:Int):=by omega
 have hw1:IntKind.i64.wrap ((x.c i).out.g+1)=(x.c i).out.g+1:=z6D (by omega) (by omega)
 have hr1:z0I P w (v.c i).said 1 16 (txC (x.c i).out.S):=(hI.c i hi).said;have hr2:z0I P w (v.c i).due 1 8 (inC (x.c i).out.D):=(hI.c i hi).due;have HLN:=hide (fun (wx:World) (hb:Below w.heap.size w wx)=>(q1A x v hi (x.c i).out (v.c i).said (v.c i).due).part (hC.over hb));have HNX:=hide (fun (wx:World) (hb:Below w.heap.size w wx)=>q1f g (99+i * 22+14) (x.c i).out (v.c i).said P wx (hr1.over hb) (z9l (HLN.out wx hb)).1 (z9l (HLN.out wx hb)).2 hg0);have HFG:=hide (fun (wx:World)=>q1r (z4a (x.c i).out) wx (by omega))
 have HEX:=hide (fun (w4 wx:World) (h4:Below w.heap.size w w4) (hb:Below w4.heap.size w4 wx)=>q7b (x.c i).out ((x.c i).out.g+1) (z0G x i true f) (x.p.L i).h2 x.ck (v.c i).said (v.c i).due (fun b=>P b/\b<w4.heap.size) wx ((((hr1.over h4).mono (P':=fun b=>P b/\b<w4.heap.size) fun b hl hp=>⟨hp,hl⟩).over hb)) ((((hr2.over h4).mono (P':=fun b=>P b/\b<w4.heap.size) fun b hl hp=>⟨hp,hl⟩).over hb)));have HLX:=hide (fun (wx:World) (hb:Below w.heap.size w wx)=>(show (z2I (.pointer (some ⟨g,99+i * 22+14,none⟩))).run prog wx=.ok (.agg #[(v.c i).said,(v.c i).due,.int .i64 (x.c i).out.g,.bool (x.c i).out.cl]) wx/\wx.cell? ⟨g,99+i * 22+14+2,none⟩=some (.int .i64 (x.c i).out.g)/\wx.cell? ⟨g,68+i * 14+10+2,none⟩=some (.int .i64 (x.p.L i).h2)/\wx.cell? ⟨g,0,none⟩=some (.int .i64 x.ck) from⟨z6u (HLN.out wx hb) rfl,(z9l (HLN.out wx hb)).2,(q0m (hC.over hb) hi).2.1,(hC.over hb).cell 0⟩));have HHR:=hide (fun (wx:World) (hb:Below w.heap.size w wx)=>q1j g x v P wx i hi true (z0G x i true f) (hC.over hb) (hI.over hb) hg htx hq88 h80);have HWY:=hide (q4o g i hi w);have HC:=hide hC;have HI:=hide hI;clear hC hI hr1 hr2 HLN hq88 h80 hgl hsm hS4 hg0 hg1 hnx htx;generalize z9K x i true f=D at *;generalize z1N x i true (z0G x i true f)=rh at *;obtain⟨xh,he⟩:=rh;dsimp only at hD;generalize Ln.z4v (x.c i).out ((x.c i).out.g+1) (z0G x i true f) (x.p.L i).h2 x.ck=de at *;generalize Ln.z4Z (x.c i).out ((x.c i).out.g+1) (z0G x i true f) (x.p.L i).h2 x.ck=dl at *
 have HTX:Hid (f=false/\z0G x i true f=z4a (x.c i).out∨f=true/\z0G x i true f=q2i (z4a (x.c i).out)):=by
  cases f
  ·exact .inl ⟨rfl,rfl⟩
  ·exact .inr ⟨rfl,rfl⟩
 generalize z0G x i true f=tx at *;generalize z4a (x.c i).out=nx at *;generalize Value.agg #[(v.c i).said,(v.c i).due,.int .i64 (x.c i).out.g,.bool (x.c i).out.cl]=V0 at *;generalize (x.c i).out.g=lg at *;generalize (x.p.L i).h2=sd at *;have HD:=hide hD;have HDL:=hide hdl;clear hD hdl
 go_enter func71,ntmps71
 go_upto_region 2 with (go_at_call 90;refine HWY.out.mono ?_;rintro e w1⟨rfl,hb1⟩;obtain⟨w2,s2,K2,bS⟩:=q0u w1 (.pointer (some ⟨g,99+i * 22+14,none⟩)) (.pointer (some ⟨g,99+i * 22+18,none⟩)) (.pointer (some ⟨g,68+i * 14+10,none⟩)) (by simp[Value.oneCell']);have HK2:=hide (show _/\_ from⟨K2,zbt hb1 bS⟩);have hs1:=hb1.size;clear K2 bS hb1)
 clear s2 HWY;obtain⟨gy,hgy⟩:∃ y,y=w1.heap.size:=⟨_,rfl⟩;rw[← hgy]at HK2 hs1 ⊢;clear hgy;have hgg:g≠gy:=by omega
 have k0:w2.cell? ⟨gy,0,none⟩=some (.pointer (some ⟨g,99+i * 22+14,none⟩)):=HK2.out.1.cell 0;have hzy:=HK2.out.1.lt
 rcases HTX.out with⟨rfl,e0⟩ | ⟨rfl,e1⟩
 all_goals clear HTX
 all_goals first | (subst e0;clear HFG) | (rw[← e1]at HFG;clear e1)
 all_goals
  go_upto_region 5 with (first | (go_at_call 92;refine (HFG.out _).mono ?_;rintro e w4⟨rfl,hb4⟩;have HB4:=hide (zbt HB3.out hb4);have HK4:=hide (HK3.out.over hb4);clear hb4) | (go_at_call 91;have _m:=HFG;refine (HNX.out _ (by with_reducible exact HK2.out.2)).mono ?_;rintro e w3⟨rfl,hb3⟩;have HB3:=hide (zbt HK2.out.2 hb3);have HK3:=hide (HK2.out.1.over hb3);clear hb3) | (go_at_call 91;refine (HNX.out _ (by with_reducible exact HK2.out.2)).mono ?_;rintro e w4⟨rfl,hb4⟩;have HB4:=hide (zbt HK2.out.2 hb4);have HK4:=hide (HK2.out.1.over hb4);clear hb4))
  clear k0 HK2 HNX
  try clear HB3 HK3 HFG _m
  have hz4:=HB4.out.size;have HEN:=hide (fun (wx:World) (hb:Below w4.heap.size w4 wx)=>HEX.out w4 wx HB4.out hb);have HLF:Hid (∀ (wx:World),Below w4.heap.size w4 wx->wx.cell? ⟨gy,0,none⟩=some (.pointer (some ⟨g,99+i * 22+14,none⟩))/\wx.cell? ⟨gy,2,none⟩=some (.pointer (some ⟨g,68+i * 14+10,none⟩))/\(z2I (.pointer (some ⟨g,99+i * 22+14,none⟩))).run prog wx=.ok V0 wx/\wx.cell? ⟨g,99+i * 22+14+2,none⟩=some (.int .i64 lg)/\wx.cell? ⟨g,68+i * 14+10+2,none⟩=some (.int .i64 sd)/\wx.cell? ⟨g,0,none⟩=some (.int .i64 x.ck)):=fun wx hb=>⟨(HK4.out.over hb).cell 0,(HK4.out.over hb).cell 2,HLX.out wx (zbt HB4.out hb)⟩;have HALd:Hid (Below w4.heap.size w4 (w4.alloc (.cells Z4' 47)).drew):=(znw w4 _).drew;have HACd:Hid (CAt 47 (w4.alloc (.cells Z4' 47)).drew w4.heap.size Z4'):=CAt.new 47 w4 Z4';unfold Z4' at HALd;clear HEX HLX;apply q1t (fun (gn:Nat) (ts:Array Value) w'=>j7F P w4 dl gn ts w')
  ·skip;refine wp_region_noPanic ?_;refine wp_region_held_drew (S:=fun wx=>Below w4.heap.size w4 wx) (by kernel_rfl) (Below.refl _ _).drew (fun hS=>?_)
   refine O.G 0 (.pointer (some ⟨gy,0,none⟩)) 26 rfl rfl hS ?_;refine O.Z 1 (.pointer (some ⟨g,99+i * 22+14,none⟩)) 27 rfl rfl hS (fun wx hSw=>by obtain⟨k0,k2,l3,l4,l5,l6⟩:=HLF.out wx hSw;go_simp) ?_
   refine O.G 2 (.pointer (some ⟨g,99+i * 22+14,none⟩)) 28 rfl rfl hS ?_;refine O.Z 3 V0 29 rfl rfl hS (fun wx hSw=>by obtain⟨k0,k2,l3,l4,l5,l6⟩:=HLF.out wx hSw;go_simp) ?_
   refine O.G 4 (.pointer (some ⟨gy,0,none⟩)) 30 rfl rfl hS ?_;refine O.Z 5 (.pointer (some ⟨g,99+i * 22+14,none⟩)) 31 rfl rfl hS (fun wx hSw=>by obtain⟨k0,k2,l3,l4,l5,l6⟩:=HLF.out wx hSw;go_simp) ?_
   refine O.G 6 (.pointer (some ⟨g,99+i * 22+14,none⟩)) 32 rfl rfl hS ?_;refine O.G 7 (.pointer (some ⟨g,99+i * 22+14+2,none⟩)) 33 rfl rfl hS ?_;refine O.Z 8 (.int .i64 lg) 34 rfl rfl hS (fun wx hSw=>by obtain⟨k0,k2,l3,l4,l5,l6⟩:=HLF.out wx hSw;go_simp) ?_
   refine O.G 9 (.int .i64 (lg+1)) 35 rfl rfl hS ?_;refine O.G 10 (.string tx) 36 rfl rfl hS ?_;refine O.G 11 (.pointer (some ⟨gy,2,none⟩)) 37 rfl rfl hS ?_;refine O.Z 12 (.pointer (some ⟨g,68+i * 14+10,none⟩)) 38 rfl rfl hS (fun wx hSw=>by obtain⟨k0,k2,l3,l4,l5,l6⟩:=HLF.out wx hSw;go_simp) ?_
   refine O.G 13 (.pointer (some ⟨g,68+i * 14+10,none⟩)) 39 rfl rfl hS ?_;refine O.G 14 (.pointer (some ⟨g,68+i * 14+10+2,none⟩)) 40 rfl rfl hS ?_;refine O.Z 15 (.int .i64 sd) 41 rfl rfl hS (fun wx hSw=>by obtain⟨k0,k2,l3,l4,l5,l6⟩:=HLF.out wx hSw;go_simp) ?_
   refine O.G 16 (.pointer (some ⟨g,0,none⟩)) 42 rfl rfl hS ?_;refine O.G 17 (.pointer (some ⟨g,0,none⟩)) 43 rfl rfl hS ?_;refine O.G 18 (.pointer (some ⟨g,0,none⟩)) 44 rfl rfl hS ?_;refine O.Z 19 (.int .i64 x.ck) 45 rfl rfl hS (fun wx hSw=>by obtain⟨k0,k2,l3,l4,l5,l6⟩:=HLF.out wx hSw;go_simp) ?_
   refine O.z4m (i:=20) (j:=24) (by kernel_rfl) rfl rfl rfl rfl (fun K hK=>?_) (fun K hK=>?_)
   ·go_simp
    go_at_call 93
    refine (HEN.out _ (by with_reducible exact (Below.refl w4.heap.size w4).drew)).mono ?_
    rintro e w3⟨u1,u2,rfl,U1,U2,hb3⟩;skip;have hb:=(Below.refl w4.heap.size w4).drew.trans (hb3.mono (Below.refl w4.heap.size w4).drew.size);obtain⟨ts,hts⟩:∃ y:Array Value,y=#[u1,u2,.int .i64 dl.g,.bool dl.cl]:=⟨_,rfl⟩;dsimp only;rw[← hts];have HT:=hide hts;clear hts;refine hK _ _ hb ?_;clear hK K;refine O.Z 21 (.tuple #[.agg ts,(.int .i64 de)]) 25 rfl rfl hb (fun wx hSw=>?_) ?_
    ·go_simp
    refine O.Z 22 (.agg ts) 47 rfl rfl hb (fun wx hSw=>?_) ?_
    ·go_simp
    refine O.Z 23 (.int .i64 de) 48 rfl rfl hb (fun wx hSw=>?_) ?_
    ·go_simp
    refine O.z1e (i:=24) (by kernel_rfl) rfl rfl (fun K hK=>?_)
    go_simp;refine hK _ _ (hb.alloc hb.size _) ?_;clear hK K;have q2:ts.all (fun x=>x.oneCell')=true:=by rw[HT.out];exact z3b U1 U2 _ _
    have HST:=z7p (l:=dl) U1 U2 (by rfl) hb
    rw[← HT.out]at HST;change wpAnyH _ _ _ _ _ _ _ _ (w3.alloc (.cells Z4' 47));refine O.z0A (i:=25) (by kernel_rfl) rfl rfl 47 _ _ rfl rfl w3.heap.size 0 ts rfl rfl ((CAt.new 47 w3 Z4').there 0 _ (by rw[HT.out];exact Nat.le_of_eq rfl)) (by rw[HT.out,z4r];rfl) q2 HST.bel ?_
    refine O.Z 26 (.int .i64 de) 13 rfl rfl HST.bel (fun wx hSw=>?_) ?_
    ·go_simp
    refine wpAnyH_done (by kernel_rfl) ?_ _
    obtain⟨gn,hgn⟩:∃ y,y=w3.heap.size:=⟨_,rfl⟩;rw[← hgn]at HST ⊢;simp only[O.pp,O.pb,O.pc];exact NoPanic.normal ⟨gn,ts,rfl,rfl,HST⟩
   ·go_simp;refine hK _ _ (hS.alloc hS.size _) ?_;clear hK K;refine O.z1e (i:=20) (by kernel_rfl) rfl rfl (fun K hK=>?_)
    go_simp
    go_at_call 93
    refine (HEN.out _ (by with_reducible exact HALd.out)).mono ?_
    rintro e w3⟨u1,u2,rfl,U1,U2,hb3⟩;skip;have hb:=zbt HALd.out hb3;obtain⟨ts,hts⟩:∃ y:Array Value,y=#[u1,u2,.int .i64 dl.g,.bool dl.cl]:=⟨_,rfl⟩;dsimp only;rw[← hts];have HT:=hide hts;clear hts;refine hK _ _ hb ?_;clear hK K;refine O.Z 21 (.tuple #[.agg ts,(.int .i64 de)]) 25 rfl rfl hb (fun wx hSw=>?_) ?_
    ·go_simp
    refine O.Z 22 (.agg ts) 47 rfl rfl hb (fun wx hSw=>?_) ?_
    ·go_simp
    refine O.Z 23 (.int .i64 de) 48 rfl rfl hb (fun wx hSw=>?_) ?_
    ·go_simp
    have q2:ts.all (fun x=>x.oneCell')=true:=by rw[HT.out];exact z3b U1 U2 _ _
    have R3:=HACd.out.over hb3;have HST:=z7m (l:=dl) U1 U2 (by simp) hb R3
    rw[← HT.out]at HST;refine O.z0A (i:=25) (by kernel_rfl) rfl rfl 47 _ _ rfl rfl w4.heap.size 0 ts rfl rfl (R3.there 0 _ (by rw[HT.out];exact Nat.le_of_eq rfl)) (by rw[HT.out,z4r];rfl) q2 HST.bel ?_
    refine O.Z 26 (.int .i64 de) 13 rfl rfl HST.bel (fun wx hSw=>?_) ?_
    ·go_simp
    refine wpAnyH_done (by kernel_rfl) ?_ _
    obtain⟨gn,hgn⟩:∃ y,y=w4.heap.size:=⟨_,rfl⟩;rw[← hgn]at HST ⊢;simp only[O.pp,O.pb,O.pc];exact NoPanic.normal ⟨gn,ts,rfl,rfl,HST⟩
  rintro gn ts w5 S5;have HS5:=hide S5;have hle:=S5.le;have hlt5:=S5.cat.lt;have HB5:=hide (zbt HB4.out S5.bel);have HK5:=hide (HK4.out.over S5.bel);clear S5 HLF HEN HALd HACd HK4;have hgn:g≠gn:=by omega
  simp only[Exit.then];apply_assumption
  by_cases hE:de=0
  case neg =>
   replace HD:=hide (HD.out.trans (if_neg hE));have hE':(de != 0)=true:=by simpa using hE
   go_wp2;go_ret2;rw[HD.out];exact⟨rfl,.same (HC.out.over HB5.out) HI.out hg (Alt.of HB5.out)⟩
  subst hE;replace HD:=hide (HD.out.trans (if_pos rfl));have hdg:=HDL.out rfl;obtain⟨u1,u2,hu0,hu1,hu2⟩:=HS5.out.ex;have HU:=hide (show _/\_/\_ from⟨hu0,hu1,hu2⟩);clear hu0 hu1 hu2 HDL
  by_cases hH:he=0
  case neg =>
   replace HD:=hide (HD.out.trans (if_neg hH));have hH':(he != 0)=true:=by simpa using hH
   go_wp2_with (go_at_call 94;refine (HHR.out _ HB5.out).mono ?_;rintro e w6⟨rfl,Z6⟩;have HZ6:=hide Z6;clear Z6;dsimp only)
   go_ret2;rw[HD.out];obtain⟨v6,C6,I6,A6⟩:=HZ6.out
   exact⟨rfl,v6,C6,I6.mono fun b _ hb=>by
    rcases hb with⟨hb,hl⟩ | hb
    ·by_cases hw:b<w.heap.size
     ·exact .inl ⟨hb,hw⟩
     ·exact .inr (by omega)
    ·exact .inr (by have:=HB5.out.size;omega),(Alt.of (g:=g) HB5.out).trans A6⟩
  subst hH;replace HD:=hide (HD.out.trans (if_pos rfl))
  go_upto_region 11 with (go_at_call 94;refine (HHR.out _ HB5.out).mono ?_;rintro e w6⟨rfl,Z6⟩;have HZ6:=hide Z6;clear Z6;dsimp only)
  obtain⟨v6,C6,I6,A6⟩:=HZ6.out
  have I6':WIn (New P w 0) w6 xh v6:=I6.mono fun b _ hb=>by
   rcases hb with⟨hb,hl⟩ | hb
   ·by_cases hw:b<w.heap.size
    ·exact .inl ⟨hb,hw⟩
    ·exact .inr (by omega)
   ·exact .inr (by have:=HB5.out.size;omega)
  have hng:¬ New P w 0 g:=Pv.z0N hg hlt
  have key:∀ b,b<w5.heap.size->(New P w4 0 b/\b≠gn)->New P w 0 b:=fun b _ hb=>by
   rcases hb.1 with⟨hb,hl⟩ | hb
   ·by_cases hw:b<w.heap.size
    ·exact .inl ⟨hb,hw⟩
    ·exact .inr (by omega)
   ·exact .inr (by omega)
  have K6:=A6.cat (b:=gy) (by omega) HK5.out
  have L6:=A6.cat (b:=gn) (by omega) HS5.out.cat
  have y0:w6.cell? ⟨gy,0,none⟩=some (.pointer (some ⟨g,99+i * 22+14,none⟩)):=K6.cell 0;have R1:z0I (New P w 0) w6 u1 1 16 (txC dl.S):=(HU.out.2.1.mono key).keep fun b hb hl=>A6.block b hl fun e=>hng (e ▸ hb);have R2:z0I (New P w 0) w6 u2 1 8 (inC dl.D):=(HU.out.2.2.mono key).keep fun b hb hl=>A6.block b hl fun e=>hng (e ▸ hb)
  have l6:(z2I (.pointer (some ⟨gn,0,none⟩))).run prog w6=.ok (.agg ts) w6:=by
   have h:=z6u L6.range (by rw[HU.out.1];rfl)
   simpa using h
  have s6:=q2s ((q1A xh v6 hi dl u1 u2).there C6) rfl (by have h:=z3b R1 R2 dl.g dl.cl;simpa [lnL] using h)
  have Z7:=j0Z I6' hng C6 hi R1 R2;change (z3k (.pointer (some ⟨g,99+i * 22+14,none⟩)) (.agg #[u1,u2,.int .i64 dl.g,.bool dl.cl])).run prog w6=_ at s6;rw[← HU.out.1]at s6;have L7:=L6.others (c:=g) (o:=99+i * 22+14) (by omega) (lnL dl u1 u2)
  have HX:=hide (z1a.trans ((Alt.of (g:=g) HB5.out).trans A6) Z7);rw[HU.out.1]at L7;generalize w6.setCells g (99+i * 22+14) (lnL dl u1 u2)=w7 at *;have y7:w7.cell? ⟨gn,2,none⟩=some (.int .i64 (lg+1)):=by rw[← hdg];exact L7.cell 2
  have hz6g:=C6.lt;have hz6y:=K6.lt;have hz6n:=L6.lt;have hz7n:=L7.lt;clear C6 I6 I6' A6 K6 L6 R1 R2 Z7 L7 HZ6 key;go_wp2;go_ret2;rw[HD.out];exact⟨rfl,HX.out⟩
end Wd
namespace Wd
open Go.RowKit Pv Kc
attribute [local go_sem ↓] z2E z1Y z4N
theorem j7S(f:Bool)(g:Nat)(x:Wo)(v:WoV)(P:Nat->Prop)(w:World)(i:Nat)(hi:i<2)(hC:CAt 98 w g (wdC x v))(hI:WIn P w x v)(hg:¬ P g)(hgl:Ln.z0T (z1j x i false)=true)(hsm:small (z1j x i false).S)(hq88:x.p.q.length * 88<=140737488351232)(h80:(x.c i).pd.length * 80<=140737488351232) :
  Calls prog 71 #[.pointer (some ⟨g,0,none⟩),.int .i64 (i:Int),.bool false,.bool f] w (q0h P w g (z9K x i false f)):=by
 have hD:z9K x i false f=if Ln.z4v (x.p.L i).out ((x.p.L i).out.g+1) (z0G x i false f) (x.c i).h2 x.ck=0 then (if (z1N x i false (z0G x i false f)).2=0 then (z1M (z1N x i false (z0G x i false f)).1 i false (Ln.z4Z (x.p.L i).out ((x.p.L i).out.g+1) (z0G x i false f) (x.c i).h2 x.ck),(x.p.L i).out.g+1,0) else ((z1N x i false (z0G x i false f)).1,0,(z1N x i false (z0G x i false f)).2)) else (x,0,Ln.z4v (x.p.L i).out ((x.p.L i).out.g+1) (z0G x i false f) (x.c i).h2 x.ck):=rfl;have hdl:Ln.z4v (x.p.L i).out ((x.p.L i).out.g+1) (z0G x i false f) (x.c i).h2 x.ck=0->(Ln.z4Z (x.p.L i).out ((x.p.L i).out.g+1) (z0G x i false f) (x.c i).h2 x.ck).g=(x.p.L i).out.g+1:=fun h=>by rw[q0g h]
 change Ln.z0T (x.p.L i).out=true at hgl;change small (x.p.L i).out.S at hsm;obtain⟨-,hS4,-,hg0,hg1⟩:=(z0Y _).1 hgl
 have hnx:(z4a (x.p.L i).out).size<=100:=by
  unfold z4a
  split
  ·decide
  ·rename_i hn;refine hsm _ ?_;rw[List.getD_eq_getElem?_getD,List.getElem?_eq_getElem (by omega)]
   exact List.getElem_mem _
 have htx:(z0G x i false f).size<=maxLen:=by
  have hm:(1000:Nat)<=maxLen:=by decide
  have h2:(q2i (z4a (x.p.L i).out)).size<=100:=z5X (by simp) (by simp)
  have h3:(z0G x i false f).size<=100:=by
   cases f
   ·exact hnx
   ·exact h2
  omega
 have hlt:=hC.lt;have hi2:(i:Int)<2:=by omega
 have hi0:(0:Int)<=(i:Int):=by omega
 have hw1:IntKind.i64.wrap ((x.p.L i).out.g+1)=(x.p.L i).out.g+1:=z6D (by omega) (by omega)
 have hr1:z0I P w (v.p.l i).said 1 16 (txC (x.p.L i).out.S):=(hI.p.lk i hi).said;have hr2:z0I P w (v.p.l i).due 1 8 (inC (x.p.L i).out.D):=(hI.p.lk i hi).due;have HLN:=hide (fun (wx:World) (hb:Below w.heap.size w wx)=>(q1u x v hi (x.p.L i).out (v.p.l i).said (v.p.l i).due).part (hC.over hb));have HNX:=hide (fun (wx:World) (hb:Below w.heap.size w wx)=>q1f g (68+i * 14+6) (x.p.L i).out (v.p.l i).said P wx (hr1.over hb) (z9l (HLN.out wx hb)).1 (z9l (HLN.out wx hb)).2 hg0);have HFG:=hide (fun (wx:World)=>q1r (z4a (x.p.L i).out) wx (by omega))
 have HEX:=hide (fun (w4 wx:World) (h4:Below w.heap.size w w4) (hb:Below w4.heap.size w4 wx)=>q7b (x.p.L i).out ((x.p.L i).out.g+1) (z0G x i false f) (x.c i).h2 x.ck (v.p.l i).said (v.p.l i).due (fun b=>P b/\b<w4.heap.size) wx ((((hr1.over h4).mono (P':=fun b=>P b/\b<w4.heap.size) fun b hl hp=>⟨hp,hl⟩).over hb)) ((((hr2.over h4).mono (P':=fun b=>P b/\b<w4.heap.size) fun b hl hp=>⟨hp,hl⟩).over hb)));have HLX:=hide (fun (wx:World) (hb:Below w.heap.size w wx)=>(show (z2I (.pointer (some ⟨g,68+i * 14+6,none⟩))).run prog wx=.ok (.agg #[(v.p.l i).said,(v.p.l i).due,.int .i64 (x.p.L i).out.g,.bool (x.p.L i).out.cl]) wx/\wx.cell? ⟨g,68+i * 14+6+2,none⟩=some (.int .i64 (x.p.L i).out.g)/\wx.cell? ⟨g,99+i * 22+18+2,none⟩=some (.int .i64 (x.c i).h2)/\wx.cell? ⟨g,0,none⟩=some (.int .i64 x.ck) from⟨z6u (HLN.out wx hb) rfl,(z9l (HLN.out wx hb)).2,(z9V (hC.over hb) hi).2.1,(hC.over hb).cell 0⟩));have HHR:=hide (fun (wx:World) (hb:Below w.heap.size w wx)=>q1j g x v P wx i hi false (z0G x i false f) (hC.over hb) (hI.over hb) hg htx hq88 h80);have HWY:=hide (q0I g i hi w);have HC:=hide hC;have HI:=hide hI;clear hC hI hr1 hr2 HLN hq88 h80 hgl hsm hS4 hg0 hg1 hnx htx;generalize z9K x i false f=D at *;generalize z1N x i false (z0G x i false f)=rh at *;obtain⟨xh,he⟩:=rh;dsimp only at hD;generalize Ln.z4v (x.p.L i).out ((x.p.L i).out.g+1) (z0G x i false f) (x.c i).h2 x.ck=de at *;generalize Ln.z4Z (x.p.L i).out ((x.p.L i).out.g+1) (z0G x i false f) (x.c i).h2 x.ck=dl at *
 have HTX:Hid (f=false/\z0G x i false f=z4a (x.p.L i).out∨f=true/\z0G x i false f=q2i (z4a (x.p.L i).out)):=by
  cases f
  ·exact .inl ⟨rfl,rfl⟩
  ·exact .inr ⟨rfl,rfl⟩
 generalize z0G x i false f=tx at *;generalize z4a (x.p.L i).out=nx at *;generalize Value.agg #[(v.p.l i).said,(v.p.l i).due,.int .i64 (x.p.L i).out.g,.bool (x.p.L i).out.cl]=V0 at *;generalize (x.p.L i).out.g=lg at *;generalize (x.c i).h2=sd at *;have HD:=hide hD;have HDL:=hide hdl;clear hD hdl
 go_enter func71,ntmps71
 go_upto_region 2 with (go_at_call 90;refine HWY.out.mono ?_;rintro e w1⟨rfl,hb1⟩;obtain⟨w2,s2,K2,bS⟩:=q0u w1 (.pointer (some ⟨g,68+i * 14+6,none⟩)) (.pointer (some ⟨g,68+i * 14+10,none⟩)) (.pointer (some ⟨g,99+i * 22+18,none⟩)) (by simp[Value.oneCell']);have HK2:=hide (show _/\_ from⟨K2,zbt hb1 bS⟩);have hs1:=hb1.size;clear K2 bS hb1)
 clear s2 HWY;obtain⟨gy,hgy⟩:∃ y,y=w1.heap.size:=⟨_,rfl⟩;rw[← hgy]at HK2 hs1 ⊢;clear hgy;have hgg:g≠gy:=by omega
 have k0:w2.cell? ⟨gy,0,none⟩=some (.pointer (some ⟨g,68+i * 14+6,none⟩)):=HK2.out.1.cell 0;have hzy:=HK2.out.1.lt
 rcases HTX.out with⟨rfl,e0⟩ | ⟨rfl,e1⟩
 all_goals clear HTX
 all_goals first | (subst e0;clear HFG) | (rw[← e1]at HFG;clear e1)
 all_goals
  go_upto_region 5 with (first | (go_at_call 92;refine (HFG.out _).mono ?_;rintro e w4⟨rfl,hb4⟩;have HB4:=hide (zbt HB3.out hb4);have HK4:=hide (HK3.out.over hb4);clear hb4) | (go_at_call 91;have _m:=HFG;refine (HNX.out _ (by with_reducible exact HK2.out.2)).mono ?_;rintro e w3⟨rfl,hb3⟩;have HB3:=hide (zbt HK2.out.2 hb3);have HK3:=hide (HK2.out.1.over hb3);clear hb3) | (go_at_call 91;refine (HNX.out _ (by with_reducible exact HK2.out.2)).mono ?_;rintro e w4⟨rfl,hb4⟩;have HB4:=hide (zbt HK2.out.2 hb4);have HK4:=hide (HK2.out.1.over hb4);clear hb4))
  clear k0 HK2 HNX
  try clear HB3 HK3 HFG _m
  have hz4:=HB4.out.size;have HEN:=hide (fun (wx:World) (hb:Below w4.heap.size w4 wx)=>HEX.out w4 wx HB4.out hb);have HLF:Hid (∀ (wx:World),Below w4.heap.size w4 wx->wx.cell? ⟨gy,0,none⟩=some (.pointer (some ⟨g,68+i * 14+6,none⟩))/\wx.cell? ⟨gy,2,none⟩=some (.pointer (some ⟨g,99+i * 22+18,none⟩))/\(z2I (.pointer (some ⟨g,68+i * 14+6,none⟩))).run prog wx=.ok V0 wx/\wx.cell? ⟨g,68+i * 14+6+2,none⟩=some (.int .i64 lg)/\wx.cell? ⟨g,99+i * 22+18+2,none⟩=some (.int .i64 sd)/\wx.cell? ⟨g,0,none⟩=some (.int .i64 x.ck)):=fun wx hb=>⟨(HK4.out.over hb).cell 0,(HK4.out.over hb).cell 2,HLX.out wx (zbt HB4.out hb)⟩;have HALd:Hid (Below w4.heap.size w4 (w4.alloc (.cells Z4' 47)).drew):=(znw w4 _).drew;have HACd:Hid (CAt 47 (w4.alloc (.cells Z4' 47)).drew w4.heap.size Z4'):=CAt.new 47 w4 Z4';unfold Z4' at HALd;clear HEX HLX;apply q1t (fun (gn:Nat) (ts:Array Value) w'=>j7F P w4 dl gn ts w')
  ·skip;refine wp_region_noPanic ?_;refine wp_region_held_drew (S:=fun wx=>Below w4.heap.size w4 wx) (by kernel_rfl) (Below.refl _ _).drew (fun hS=>?_)
   refine O.G 0 (.pointer (some ⟨gy,0,none⟩)) 26 rfl rfl hS ?_;refine O.Z 1 (.pointer (some ⟨g,68+i * 14+6,none⟩)) 27 rfl rfl hS (fun wx hSw=>by obtain⟨k0,k2,l3,l4,l5,l6⟩:=HLF.out wx hSw;go_simp) ?_
   refine O.G 2 (.pointer (some ⟨g,68+i * 14+6,none⟩)) 28 rfl rfl hS ?_;refine O.Z 3 V0 29 rfl rfl hS (fun wx hSw=>by obtain⟨k0,k2,l3,l4,l5,l6⟩:=HLF.out wx hSw;go_simp) ?_
   refine O.G 4 (.pointer (some ⟨gy,0,none⟩)) 30 rfl rfl hS ?_;refine O.Z 5 (.pointer (some ⟨g,68+i * 14+6,none⟩)) 31 rfl rfl hS (fun wx hSw=>by obtain⟨k0,k2,l3,l4,l5,l6⟩:=HLF.out wx hSw;go_simp) ?_
   refine O.G 6 (.pointer (some ⟨g,68+i * 14+6,none⟩)) 32 rfl rfl hS ?_;refine O.G 7 (.pointer (some ⟨g,68+i * 14+6+2,none⟩)) 33 rfl rfl hS ?_;refine O.Z 8 (.int .i64 lg) 34 rfl rfl hS (fun wx hSw=>by obtain⟨k0,k2,l3,l4,l5,l6⟩:=HLF.out wx hSw;go_simp) ?_
   refine O.G 9 (.int .i64 (lg+1)) 35 rfl rfl hS ?_;refine O.G 10 (.string tx) 36 rfl rfl hS ?_;refine O.G 11 (.pointer (some ⟨gy,2,none⟩)) 37 rfl rfl hS ?_;refine O.Z 12 (.pointer (some ⟨g,99+i * 22+18,none⟩)) 38 rfl rfl hS (fun wx hSw=>by obtain⟨k0,k2,l3,l4,l5,l6⟩:=HLF.out wx hSw;go_simp) ?_
   refine O.G 13 (.pointer (some ⟨g,99+i * 22+18,none⟩)) 39 rfl rfl hS ?_;refine O.G 14 (.pointer (some ⟨g,99+i * 22+18+2,none⟩)) 40 rfl rfl hS ?_;refine O.Z 15 (.int .i64 sd) 41 rfl rfl hS (fun wx hSw=>by obtain⟨k0,k2,l3,l4,l5,l6⟩:=HLF.out wx hSw;go_simp) ?_
   refine O.G 16 (.pointer (some ⟨g,0,none⟩)) 42 rfl rfl hS ?_;refine O.G 17 (.pointer (some ⟨g,0,none⟩)) 43 rfl rfl hS ?_;refine O.G 18 (.pointer (some ⟨g,0,none⟩)) 44 rfl rfl hS ?_;refine O.Z 19 (.int .i64 x.ck) 45 rfl rfl hS (fun wx hSw=>by obtain⟨k0,k2,l3,l4,l5,l6⟩:=HLF.out wx hSw;go_simp) ?_
   refine O.z4m (i:=20) (j:=24) (by kernel_rfl) rfl rfl rfl rfl (fun K hK=>?_) (fun K hK=>?_)
   ·go_simp
    go_at_call 93
    refine (HEN.out _ (by with_reducible exact (Below.refl w4.heap.size w4).drew)).mono ?_
    rintro e w3⟨u1,u2,rfl,U1,U2,hb3⟩;skip;have hb:=(Below.refl w4.heap.size w4).drew.trans (hb3.mono (Below.refl w4.heap.size w4).drew.size);obtain⟨ts,hts⟩:∃ y:Array Value,y=#[u1,u2,.int .i64 dl.g,.bool dl.cl]:=⟨_,rfl⟩;dsimp only;rw[← hts];have HT:=hide hts;clear hts;refine hK _ _ hb ?_;clear hK K;refine O.Z 21 (.tuple #[.agg ts,(.int .i64 de)]) 25 rfl rfl hb (fun wx hSw=>?_) ?_
    ·go_simp
    refine O.Z 22 (.agg ts) 47 rfl rfl hb (fun wx hSw=>?_) ?_
    ·go_simp
    refine O.Z 23 (.int .i64 de) 48 rfl rfl hb (fun wx hSw=>?_) ?_
    ·go_simp
    refine O.z1e (i:=24) (by kernel_rfl) rfl rfl (fun K hK=>?_)
    go_simp;refine hK _ _ (hb.alloc hb.size _) ?_;clear hK K;have q2:ts.all (fun x=>x.oneCell')=true:=by rw[HT.out];exact z3b U1 U2 _ _
    have HST:=z7p (l:=dl) U1 U2 (by rfl) hb
    rw[← HT.out]at HST;change wpAnyH _ _ _ _ _ _ _ _ (w3.alloc (.cells Z4' 47));refine O.z0A (i:=25) (by kernel_rfl) rfl rfl 47 _ _ rfl rfl w3.heap.size 0 ts rfl rfl ((CAt.new 47 w3 Z4').there 0 _ (by rw[HT.out];exact Nat.le_of_eq rfl)) (by rw[HT.out,z4r];rfl) q2 HST.bel ?_
    refine O.Z 26 (.int .i64 de) 13 rfl rfl HST.bel (fun wx hSw=>?_) ?_
    ·go_simp
    refine wpAnyH_done (by kernel_rfl) ?_ _
    obtain⟨gn,hgn⟩:∃ y,y=w3.heap.size:=⟨_,rfl⟩;rw[← hgn]at HST ⊢;simp only[O.pp,O.pb,O.pc];exact NoPanic.normal ⟨gn,ts,rfl,rfl,HST⟩
   ·go_simp;refine hK _ _ (hS.alloc hS.size _) ?_;clear hK K;refine O.z1e (i:=20) (by kernel_rfl) rfl rfl (fun K hK=>?_)
    go_simp
    go_at_call 93
    refine (HEN.out _ (by with_reducible exact HALd.out)).mono ?_
    rintro e w3⟨u1,u2,rfl,U1,U2,hb3⟩;skip;have hb:=zbt HALd.out hb3;obtain⟨ts,hts⟩:∃ y:Array Value,y=#[u1,u2,.int .i64 dl.g,.bool dl.cl]:=⟨_,rfl⟩;dsimp only;rw[← hts];have HT:=hide hts;clear hts;refine hK _ _ hb ?_;clear hK K;refine O.Z 21 (.tuple #[.agg ts,(.int .i64 de)]) 25 rfl rfl hb (fun wx hSw=>?_) ?_
    ·go_simp
    refine O.Z 22 (.agg ts) 47 rfl rfl hb (fun wx hSw=>?_) ?_
    ·go_simp
    refine O.Z 23 (.int .i64 de) 48 rfl rfl hb (fun wx hSw=>?_) ?_
    ·go_simp
    have q2:ts.all (fun x=>x.oneCell')=true:=by rw[HT.out];exact z3b U1 U2 _ _
    have R3:=HACd.out.over hb3;have HST:=z7m (l:=dl) U1 U2 (by simp) hb R3
    rw[← HT.out]at HST;refine O.z0A (i:=25) (by kernel_rfl) rfl rfl 47 _ _ rfl rfl w4.heap.size 0 ts rfl rfl (R3.there 0 _ (by rw[HT.out];exact Nat.le_of_eq rfl)) (by rw[HT.out,z4r];rfl) q2 HST.bel ?_
    refine O.Z 26 (.int .i64 de) 13 rfl rfl HST.bel (fun wx hSw=>?_) ?_
    ·go_simp
    refine wpAnyH_done (by kernel_rfl) ?_ _
    obtain⟨gn,hgn⟩:∃ y,y=w4.heap.size:=⟨_,rfl⟩;rw[← hgn]at HST ⊢;simp only[O.pp,O.pb,O.pc];exact NoPanic.normal ⟨gn,ts,rfl,rfl,HST⟩
  rintro gn ts w5 S5;have HS5:=hide S5;have hle:=S5.le;have hlt5:=S5.cat.lt;have HB5:=hide (zbt HB4.out S5.bel);have HK5:=hide (HK4.out.over S5.bel);clear S5 HLF HEN HALd HACd HK4;have hgn:g≠gn:=by omega
  simp only[Exit.then];apply_assumption
  by_cases hE:de=0
  case neg =>
   replace HD:=hide (HD.out.trans (if_neg hE));have hE':(de != 0)=true:=by simpa using hE
   go_wp2;go_ret2;rw[HD.out];exact⟨rfl,.same (HC.out.over HB5.out) HI.out hg (Alt.of HB5.out)⟩
  subst hE;replace HD:=hide (HD.out.trans (if_pos rfl));have hdg:=HDL.out rfl;obtain⟨u1,u2,hu0,hu1,hu2⟩:=HS5.out.ex;have HU:=hide (show _/\_/\_ from⟨hu0,hu1,hu2⟩);clear hu0 hu1 hu2 HDL
  by_cases hH:he=0
  case neg =>
   replace HD:=hide (HD.out.trans (if_neg hH));have hH':(he != 0)=true:=by simpa using hH
   go_wp2_with (go_at_call 94;refine (HHR.out _ HB5.out).mono ?_;rintro e w6⟨rfl,Z6⟩;have HZ6:=hide Z6;clear Z6;dsimp only)
   go_ret2;rw[HD.out];obtain⟨v6,C6,I6,A6⟩:=HZ6.out
   exact⟨rfl,v6,C6,I6.mono fun b _ hb=>by
    rcases hb with⟨hb,hl⟩ | hb
    ·by_cases hw:b<w.heap.size
     ·exact .inl ⟨hb,hw⟩
     ·exact .inr (by omega)
    ·exact .inr (by have:=HB5.out.size;omega),(Alt.of (g:=g) HB5.out).trans A6⟩
  subst hH;replace HD:=hide (HD.out.trans (if_pos rfl))
  go_upto_region 11 with (go_at_call 94;refine (HHR.out _ HB5.out).mono ?_;rintro e w6⟨rfl,Z6⟩;have HZ6:=hide Z6;clear Z6;dsimp only)
  obtain⟨v6,C6,I6,A6⟩:=HZ6.out
  have I6':WIn (New P w 0) w6 xh v6:=I6.mono fun b _ hb=>by
   rcases hb with⟨hb,hl⟩ | hb
   ·by_cases hw:b<w.heap.size
    ·exact .inl ⟨hb,hw⟩
    ·exact .inr (by omega)
   ·exact .inr (by have:=HB5.out.size;omega)
  have hng:¬ New P w 0 g:=Pv.z0N hg hlt
  have key:∀ b,b<w5.heap.size->(New P w4 0 b/\b≠gn)->New P w 0 b:=fun b _ hb=>by
   rcases hb.1 with⟨hb,hl⟩ | hb
   ·by_cases hw:b<w.heap.size
    ·exact .inl ⟨hb,hw⟩
    ·exact .inr (by omega)
   ·exact .inr (by omega)
  have K6:=A6.cat (b:=gy) (by omega) HK5.out
  have L6:=A6.cat (b:=gn) (by omega) HS5.out.cat
  have y0:w6.cell? ⟨gy,0,none⟩=some (.pointer (some ⟨g,68+i * 14+6,none⟩)):=K6.cell 0;have R1:z0I (New P w 0) w6 u1 1 16 (txC dl.S):=(HU.out.2.1.mono key).keep fun b hb hl=>A6.block b hl fun e=>hng (e ▸ hb);have R2:z0I (New P w 0) w6 u2 1 8 (inC dl.D):=(HU.out.2.2.mono key).keep fun b hb hl=>A6.block b hl fun e=>hng (e ▸ hb)
  have l6:(z2I (.pointer (some ⟨gn,0,none⟩))).run prog w6=.ok (.agg ts) w6:=by
   have h:=z6u L6.range (by rw[HU.out.1];rfl)
   simpa using h
  have s6:=q2s ((q1u xh v6 hi dl u1 u2).there C6) rfl (by have h:=z3b R1 R2 dl.g dl.cl;simpa [lnL] using h)
  have Z7:=q7o I6' hng C6 hi R1 R2;change (z3k (.pointer (some ⟨g,68+i * 14+6,none⟩)) (.agg #[u1,u2,.int .i64 dl.g,.bool dl.cl])).run prog w6=_ at s6;rw[← HU.out.1]at s6;have L7:=L6.others (c:=g) (o:=68+i * 14+6) (by omega) (lnL dl u1 u2)
  have HX:=hide (z1a.trans ((Alt.of (g:=g) HB5.out).trans A6) Z7);rw[HU.out.1]at L7;generalize w6.setCells g (68+i * 14+6) (lnL dl u1 u2)=w7 at *;have y7:w7.cell? ⟨gn,2,none⟩=some (.int .i64 (lg+1)):=by rw[← hdg];exact L7.cell 2
  have hz6g:=C6.lt;have hz6y:=K6.lt;have hz6n:=L6.lt;have hz7n:=L7.lt;clear C6 I6 I6' A6 K6 L6 R1 R2 Z7 L7 HZ6 key;go_wp2;go_ret2;rw[HD.out];exact⟨rfl,HX.out⟩
end Wd
namespace Wd
open Go.RowKit Pv Kc
attribute [local go_sem ↓] z2E z1Y z4N z0K z0q z1t z1f
theorem j9H(g:Nat)(x:Wo)(v:WoV)(P:Nat->Prop)(w:World)(i:Nat)(hi:i<2)(k:Int)(hC:CAt 98 w g (wdC x v))(hI:WIn P w x v)(hg:¬ P g)(hq88:x.p.q.length * 88<=140737488351232) :
  Calls prog 72 #[.pointer (some ⟨g,0,none⟩),.int .i64 (i:Int),.bool true,.int .i64 k] w (q2W P w g (z9E x i true k)):=by
 have hD:z9E x i true k=if Ln.z6b (x.c i).out k (x.c i).h1 (x.c i).h3=0 then (q3C (z1M x i true (Ln.z7d (x.c i).out k (x.c i).h1 (x.c i).h3)) i,0) else (x,Ln.z6b (x.c i).out k (x.c i).h1 (x.c i).h3):=rfl;have hpq:∀ dl,(z1M x i true dl).p.q=x.p.q:=fun dl=>rfl;have hlt:=hC.lt;have hi2:(i:Int)<2:=by omega
 have hi0:(0:Int)<=(i:Int):=by omega
 have hr1:z0I P w (v.c i).said 1 16 (txC (x.c i).out.S):=(hI.c i hi).said;have hr2:z0I P w (v.c i).due 1 8 (inC (x.c i).out.D):=(hI.c i hi).due;have HLN:=hide (fun (wx:World) (hb:Below w.heap.size w wx)=>(q1A x v hi (x.c i).out (v.c i).said (v.c i).due).part (hC.over hb));have HEX:=hide (fun (w4 wx:World) (h4:Below w.heap.size w w4) (hb:Below w4.heap.size w4 wx)=>q8S (x.c i).out k (x.c i).h1 (x.c i).h3 (v.c i).said (v.c i).due (fun b=>P b/\b<w4.heap.size) wx ((((hr1.over h4).mono (P':=fun b=>P b/\b<w4.heap.size) fun b hl hp=>⟨hp,hl⟩).over hb)) ((((hr2.over h4).mono (P':=fun b=>P b/\b<w4.heap.size) fun b hl hp=>⟨hp,hl⟩).over hb)));have HLX:=hide (fun (wx:World) (hb:Below w.heap.size w wx)=>(show (z2I (.pointer (some ⟨g,99+i * 22+14,none⟩))).run prog wx=.ok (.agg #[(v.c i).said,(v.c i).due,.int .i64 (x.c i).out.g,.bool (x.c i).out.cl]) wx/\wx.cell? ⟨g,99+i * 22+18+1,none⟩=some (.int .i64 (x.c i).h1)/\wx.cell? ⟨g,99+i * 22+18+3,none⟩=some (.int .i64 (x.c i).h3) from⟨z6u (HLN.out wx hb) rfl,(z9V (hC.over hb) hi).1,(z9V (hC.over hb) hi).2.2⟩));have HWY:=hide (q4o g i hi w);have HC:=hide hC;have HI:=hide hI;have HQ:=hide hq88;clear hC hI hr1 hr2 HLN hq88;generalize z9E x i true k=D at *;generalize Ln.z6b (x.c i).out k (x.c i).h1 (x.c i).h3=de at *;generalize Ln.z7d (x.c i).out k (x.c i).h1 (x.c i).h3=dl at *;generalize Value.agg #[(v.c i).said,(v.c i).due,.int .i64 (x.c i).out.g,.bool (x.c i).out.cl]=V0 at *;generalize (x.c i).h1=tm at *;generalize (x.c i).h3=gt at *;have HD:=hide hD;have HPQ:=hide (hpq dl);clear hD hpq
 go_enter func72,ntmps72
 go_upto_region 2 with (go_at_call 90;refine HWY.out.mono ?_;rintro e w1⟨rfl,hb1⟩;obtain⟨w4,s2,K2,bS⟩:=q0u w1 (.pointer (some ⟨g,99+i * 22+14,none⟩)) (.pointer (some ⟨g,99+i * 22+18,none⟩)) (.pointer (some ⟨g,68+i * 14+10,none⟩)) (by simp[Value.oneCell']);have HK2:=hide (show _/\_ from⟨K2,zbt hb1 bS⟩);have hs1:=hb1.size;clear K2 bS hb1)
 clear s2 HWY;obtain⟨gy,hgy⟩:∃ y,y=w1.heap.size:=⟨_,rfl⟩;rw[← hgy]at HK2 hs1 ⊢;clear hgy;have hgg:g≠gy:=by omega
 have HB4:=hide HK2.out.2;have HK4:=hide HK2.out.1;have hzy:=HK4.out.lt;clear HK2;have hz4:=HB4.out.size;have HEN:=hide (fun (wx:World) (hb:Below w4.heap.size w4 wx)=>HEX.out w4 wx HB4.out hb);have HLF:Hid (∀ (wx:World),Below w4.heap.size w4 wx->wx.cell? ⟨gy,0,none⟩=some (.pointer (some ⟨g,99+i * 22+14,none⟩))/\wx.cell? ⟨gy,1,none⟩=some (.pointer (some ⟨g,99+i * 22+18,none⟩))/\(z2I (.pointer (some ⟨g,99+i * 22+14,none⟩))).run prog wx=.ok V0 wx/\wx.cell? ⟨g,99+i * 22+18+1,none⟩=some (.int .i64 tm)/\wx.cell? ⟨g,99+i * 22+18+3,none⟩=some (.int .i64 gt)):=fun wx hb=>⟨(HK4.out.over hb).cell 0,(HK4.out.over hb).cell 1,HLX.out wx (zbt HB4.out hb)⟩;have HALd:Hid (Below w4.heap.size w4 (w4.alloc (.cells Z4' 47)).drew):=(znw w4 _).drew;have HACd:Hid (CAt 47 (w4.alloc (.cells Z4' 47)).drew w4.heap.size Z4'):=CAt.new 47 w4 Z4';unfold Z4' at HALd;clear HEX HLX;apply q1t (fun (gn:Nat) (ts:Array Value) w'=>j7F P w4 dl gn ts w')
 ·skip;refine wp_region_noPanic ?_;refine wp_region_held_drew (S:=fun wx=>Below w4.heap.size w4 wx) (by kernel_rfl) (Below.refl _ _).drew (fun hS=>?_)
  refine O.G 0 (.pointer (some ⟨gy,0,none⟩)) 17 rfl rfl hS ?_;refine O.Z 1 (.pointer (some ⟨g,99+i * 22+14,none⟩)) 18 rfl rfl hS (fun wx hSw=>by obtain⟨k0,k1,l3,l4,l5⟩:=HLF.out wx hSw;go_simp) ?_
  refine O.G 2 (.pointer (some ⟨g,99+i * 22+14,none⟩)) 19 rfl rfl hS ?_;refine O.Z 3 V0 20 rfl rfl hS (fun wx hSw=>by obtain⟨k0,k1,l3,l4,l5⟩:=HLF.out wx hSw;go_simp) ?_
  refine O.G 4 (.int .i64 k) 21 rfl rfl hS ?_;refine O.G 5 (.pointer (some ⟨gy,1,none⟩)) 22 rfl rfl hS ?_;refine O.Z 6 (.pointer (some ⟨g,99+i * 22+18,none⟩)) 23 rfl rfl hS (fun wx hSw=>by obtain⟨k0,k1,l3,l4,l5⟩:=HLF.out wx hSw;go_simp) ?_
  refine O.G 7 (.pointer (some ⟨g,99+i * 22+18,none⟩)) 24 rfl rfl hS ?_;refine O.G 8 (.pointer (some ⟨g,99+i * 22+18+1,none⟩)) 25 rfl rfl hS ?_;refine O.Z 9 (.int .i64 tm) 26 rfl rfl hS (fun wx hSw=>by obtain⟨k0,k1,l3,l4,l5⟩:=HLF.out wx hSw;go_simp) ?_
  refine O.G 10 (.pointer (some ⟨gy,1,none⟩)) 27 rfl rfl hS ?_;refine O.Z 11 (.pointer (some ⟨g,99+i * 22+18,none⟩)) 28 rfl rfl hS (fun wx hSw=>by obtain⟨k0,k1,l3,l4,l5⟩:=HLF.out wx hSw;go_simp) ?_
  refine O.G 12 (.pointer (some ⟨g,99+i * 22+18,none⟩)) 29 rfl rfl hS ?_;refine O.G 13 (.pointer (some ⟨g,99+i * 22+18+3,none⟩)) 30 rfl rfl hS ?_;refine O.Z 14 (.int .i64 gt) 31 rfl rfl hS (fun wx hSw=>by obtain⟨k0,k1,l3,l4,l5⟩:=HLF.out wx hSw;go_simp) ?_
  refine O.z4m (i:=15) (j:=19) (by kernel_rfl) rfl rfl rfl rfl (fun K hK=>?_) (fun K hK=>?_)
  ·go_simp
   go_at_call 95
   refine (HEN.out _ (by with_reducible exact (Below.refl w4.heap.size w4).drew)).mono ?_
   rintro e w3⟨u1,u2,rfl,U1,U2,hb3⟩;skip;have hb:=(Below.refl w4.heap.size w4).drew.trans (hb3.mono (Below.refl w4.heap.size w4).drew.size);obtain⟨ts,hts⟩:∃ y:Array Value,y=#[u1,u2,.int .i64 dl.g,.bool dl.cl]:=⟨_,rfl⟩;dsimp only;rw[← hts];have HT:=hide hts;clear hts;refine hK _ _ hb ?_;clear hK K;refine O.Z 16 (.tuple #[.agg ts,(.int .i64 de)]) 16 rfl rfl hb (fun wx hSw=>?_) ?_
   ·go_simp
   refine O.Z 17 (.agg ts) 33 rfl rfl hb (fun wx hSw=>?_) ?_
   ·go_simp
   refine O.Z 18 (.int .i64 de) 34 rfl rfl hb (fun wx hSw=>?_) ?_
   ·go_simp
   refine O.z1e (i:=19) (by kernel_rfl) rfl rfl (fun K hK=>?_)
   go_simp;refine hK _ _ (hb.alloc hb.size _) ?_;clear hK K;have q2:ts.all (fun x=>x.oneCell')=true:=by rw[HT.out];exact z3b U1 U2 _ _
   have HST:=z7p (l:=dl) U1 U2 (by rfl) hb
   rw[← HT.out]at HST;change wpAnyH _ _ _ _ _ _ _ _ (w3.alloc (.cells Z4' 47));refine O.z0A (i:=20) (by kernel_rfl) rfl rfl 47 _ _ rfl rfl w3.heap.size 0 ts rfl rfl ((CAt.new 47 w3 Z4').there 0 _ (by rw[HT.out];exact Nat.le_of_eq rfl)) (by rw[HT.out,z4r];rfl) q2 HST.bel ?_
   refine O.Z 21 (.int .i64 de) 11 rfl rfl HST.bel (fun wx hSw=>?_) ?_
   ·go_simp
   refine wpAnyH_done (by kernel_rfl) ?_ _
   obtain⟨gn,hgn⟩:∃ y,y=w3.heap.size:=⟨_,rfl⟩;rw[← hgn]at HST ⊢;simp only[O.pp,O.pb,O.pc];exact NoPanic.normal ⟨gn,ts,rfl,rfl,HST⟩
  ·go_simp;refine hK _ _ (hS.alloc hS.size _) ?_;clear hK K;refine O.z1e (i:=15) (by kernel_rfl) rfl rfl (fun K hK=>?_)
   go_simp
   go_at_call 95
   refine (HEN.out _ (by with_reducible exact HALd.out)).mono ?_
   rintro e w3⟨u1,u2,rfl,U1,U2,hb3⟩;skip;have hb:=zbt HALd.out hb3;obtain⟨ts,hts⟩:∃ y:Array Value,y=#[u1,u2,.int .i64 dl.g,.bool dl.cl]:=⟨_,rfl⟩;dsimp only;rw[← hts];have HT:=hide hts;clear hts;refine hK _ _ hb ?_;clear hK K;refine O.Z 16 (.tuple #[.agg ts,(.int .i64 de)]) 16 rfl rfl hb (fun wx hSw=>?_) ?_
   ·go_simp
   refine O.Z 17 (.agg ts) 33 rfl rfl hb (fun wx hSw=>?_) ?_
   ·go_simp
   refine O.Z 18 (.int .i64 de) 34 rfl rfl hb (fun wx hSw=>?_) ?_
   ·go_simp
   have q2:ts.all (fun x=>x.oneCell')=true:=by rw[HT.out];exact z3b U1 U2 _ _
   have R3:=HACd.out.over hb3;have HST:=z7m (l:=dl) U1 U2 (by simp) hb R3
   rw[← HT.out]at HST;refine O.z0A (i:=20) (by kernel_rfl) rfl rfl 47 _ _ rfl rfl w4.heap.size 0 ts rfl rfl (R3.there 0 _ (by rw[HT.out];exact Nat.le_of_eq rfl)) (by rw[HT.out,z4r];rfl) q2 HST.bel ?_
   refine O.Z 21 (.int .i64 de) 11 rfl rfl HST.bel (fun wx hSw=>?_) ?_
   ·go_simp
   refine wpAnyH_done (by kernel_rfl) ?_ _
   obtain⟨gn,hgn⟩:∃ y,y=w4.heap.size:=⟨_,rfl⟩;rw[← hgn]at HST ⊢;simp only[O.pp,O.pb,O.pc];exact NoPanic.normal ⟨gn,ts,rfl,rfl,HST⟩
 rintro gn ts w5 S5;have HS5:=hide S5;have hle:=S5.le;have hlt5:=S5.cat.lt;have HB5:=hide (zbt HB4.out S5.bel);have HK5:=hide (HK4.out.over S5.bel);clear S5 HLF HEN HALd HACd HK4;have hgn:g≠gn:=by omega
 simp only[Exit.then];apply_assumption
 by_cases hE:de=0
 case neg =>
  replace HD:=hide (HD.out.trans (if_neg hE));have hE':(de != 0)=true:=by simpa using hE
  go_wp2;go_ret;rw[HD.out];exact⟨rfl,.same (HC.out.over HB5.out) HI.out hg (Alt.of HB5.out)⟩
 subst hE;replace HD:=hide (HD.out.trans (if_pos rfl));obtain⟨u1,u2,hu0,hu1,hu2⟩:=HS5.out.ex;have HU:=hide (show _/\_/\_ from⟨hu0,hu1,hu2⟩);clear hu0 hu1 hu2;have hng:¬ New P w 0 g:=Pv.z0N hg hlt
 have key:∀ b,b<w5.heap.size->(New P w4 0 b/\b≠gn)->New P w 0 b:=fun b _ hb=>by
  rcases hb.1 with⟨hb,hl⟩ | hb
  ·by_cases hw:b<w.heap.size
   ·exact .inl ⟨hb,hw⟩
   ·exact .inr (by omega)
  ·exact .inr (by omega)
 have C5:=HC.out.over HB5.out;have I5:=HI.out.new hg (Alt.of (g:=g) HB5.out) 0;have R1:=HU.out.2.1.mono key;have R2:=HU.out.2.2.mono key;have y0:w5.cell? ⟨gy,0,none⟩=some (.pointer (some ⟨g,99+i * 22+14,none⟩)):=HK5.out.cell 0
 have l5:(z2I (.pointer (some ⟨gn,0,none⟩))).run prog w5=.ok (.agg ts) w5:=by
  have h:=z6u HS5.out.cat.range (by rw[HU.out.1];rfl)
  simpa using h
 have s5:=q2s ((q1A x v hi dl u1 u2).there C5) rfl (by have h:=z3b R1 R2 dl.g dl.cl;simpa [lnL] using h)
 have Z7:=j0Z I5 hng C5 hi R1 R2;change (z3k (.pointer (some ⟨g,99+i * 22+14,none⟩)) (.agg #[u1,u2,.int .i64 dl.g,.bool dl.cl])).run prog w5=_ at s5;rw[← HU.out.1]at s5;have HX:=hide (z1a.trans (Alt.of (g:=g) HB5.out) Z7);have hz5y:=HK5.out.lt;have hz5g:=C5.lt;clear Z7 C5 I5 R1 R2 key;generalize w5.setCells g (99+i * 22+14) (lnL dl u1 u2)=w7 at *;generalize z1M x i true dl=y7 at *
 go_upto_region 6 with fail
 clear y0 l5 s5;obtain⟨v7,C7,I7,A7⟩:=HX.out;have m7:=j1T ((z8y y7 v7 y7.p v7.p).part C7) (z0a _ _);have HRM:=hide (z8q y7.p v7.p (New P w 0) w7 (i:Int) I7.p (by rw[HPQ.out];exact HQ.out))
 have hlt7:=C7.lt;have H7:=hide (show _/\_/\_ from⟨C7,I7,A7⟩);clear C7 I7 A7 HX;have HW8:Hid (∀ (w8:World) (u8:PrV),Below w7.heap.size w7 w8->(prC (z0u y7.p i) u8).all (·.oneCell')=true->∃ wS,wS=w8.setCells g 2 (prC (z0u y7.p i) u8).toList/\(z5P (.pointer (some ⟨g,2,none⟩)) (.agg (prC (z0u y7.p i) u8))).run prog w8=.ok () wS):=fun w8 u8 b8 h8=>⟨_,rfl,j9w ((z8y y7 v7 (z0u y7.p i) u8).there (H7.out.1.over b8)) (z0a _ _) h8⟩;generalize Value.agg (prC y7.p v7.p)=V7 at m7 HRM
 go_upto_region 7 with (go_at_call 96;refine HRM.out.mono ?_;rintro e w8⟨u8,rfl,U8,b8⟩;clear m7;obtain⟨wS,hwS,sS8⟩:=HW8.out w8 u8 b8 (z1c U8);have HwS:=hide hwS;clear hwS)
 have Z8:=q0Y H7.out.2.1 hng (Below.refl _ w7) H7.out.1 hlt7 b8 U8;rw[← HwS.out]at Z8;have Z8':=z1a.trans H7.out.2.2 Z8;clear sS8 HW8 HRM;obtain⟨y8,hy8⟩:∃ y8:Wo,y8={ y7 with p:=z0u y7.p i }:=⟨_,rfl⟩
 rw[← hy8]at Z8';clear Z8 HwS b8 U8;obtain⟨v8,C8,I8,A8⟩:=Z8';generalize Value.agg (prC (z0u y7.p i) u8)=V9;clear u8;generalize wS=w8 at *;have hc8:y8.c=y7.c:=by rw[hy8]
 have hd8:=(Below.refl w8.heap.size w8).drew;have HS:(z7k (.pointer (some ⟨g,99+i * 22,none⟩))).run prog w8.drew=.ok (.agg (csC (y8.c i) (v8.c i))) w8.drew:=j4Y ((q1L y8 v8 hi (y8.c i) (v8.c i)).part (C8.over hd8)) (z0p _ _);have hcr:=z7B (y8.c i) (v8.c i) (New P w 0) w8.drew ((I8.c i hi).over hd8);rw[hc8]at HS hcr;have HRC:=hide hcr;have hlt8:=C8.lt;have H8:=hide (show _/\_/\_/\_ from⟨C8,I8,A8,hy8⟩);clear C8 I8 A8 hy8 hcr hc8 hd8;generalize Value.agg (csC (y7.c i) (v8.c i))=V8 at HS HRC;refine O.z1m (c:=8) (S:=fun wx=>wx=w8.drew) (by kernel_rfl) ?_
 have hS:w8.drew=w8.drew:=rfl;refine O.z0w (i:=0) (v:=(.pointer (some ⟨g,0,none⟩))) (some 51) rfl rfl (by kernel_rfl) (by kernel_rfl) (by kernel_rfl) (by decide) (fun _ _ _ h=>h) (Or.inl ⟨by rfl,?_⟩) hS ?_
 ·intro wx;go_simp
 refine O.z0w (i:=1) (v:=(.int .i64 (i:Int))) (some 52) rfl rfl (by kernel_rfl) (by kernel_rfl) (by kernel_rfl) (by decide) (fun _ _ _ h=>h) (Or.inl ⟨by rfl,?_⟩) hS ?_
 ·intro wx;go_simp
 refine O.z0w (i:=9) (v:=(.pointer (some ⟨g,0,none⟩))) (some 60) rfl rfl (by kernel_rfl) (by kernel_rfl) (by kernel_rfl) (by decide) (fun _ _ _ h=>h) (Or.inl ⟨by rfl,?_⟩) hS ?_
 ·intro wx;go_simp
 refine O.z0w (i:=10) (v:=(.pointer (some ⟨g,99,none⟩))) (some 61) rfl rfl (by kernel_rfl) (by kernel_rfl) (by kernel_rfl) (by decide) (fun _ _ _ h=>h) (Or.inl ⟨by rfl,?_⟩) hS ?_
 ·intro wx;go_simp
 refine O.Y 2 (.pointer (some ⟨g,0,none⟩)) 53 rfl rfl hS ?_ ?_
 ·rintro wx rfl;go_simp
 refine O.Y 3 (.int .i64 (i:Int)) 54 rfl rfl hS ?_ ?_
 ·rintro wx rfl;go_simp
 refine O.Y 4 (.pointer (some ⟨g,0,none⟩)) 55 rfl rfl hS ?_ ?_
 ·rintro wx rfl;go_simp
 refine O.Y 5 (.pointer (some ⟨g,99,none⟩)) 56 rfl rfl hS ?_ ?_
 ·rintro wx rfl;go_simp
 refine O.Y 6 (.pointer (some ⟨g,99+i * 22,none⟩)) 57 rfl rfl hS ?_ ?_
 ·rintro wx rfl;go_simp
 refine O.Y 7 V8 58 rfl rfl hS ?_ ?_
 ·rintro wx rfl;have l:=HS;go_simp
 refine O.z2j (by kernel_rfl) rfl (fun K hK=>?_)
 refine z0E rfl ?_;go_simp;refine HRC.out.mono ?_;rintro e w9⟨u9,rfl,U9,hb9⟩;dsimp only;have b9:=(Below.refl w8.heap.size w8).drew.trans hb9;obtain⟨t9,ht9⟩:∃ y,y=csC (z1o (y7.c i)) u9:=⟨_,rfl⟩;rw[← ht9];have HT:=hide ht9;clear ht9;refine hK _ _ ?_;clear hK K;refine O.X 11 (.pointer (some ⟨g,99+i * 22,none⟩)) 62 rfl rfl ?_ ?_
 ·intro wx;go_simp
 have q1:(Option.map (fun x=>x.size) (prog.info? 63))=some t9.size:=by rw[HT.out,z3C];rfl
 have q2:t9.all (fun x=>x.oneCell')=true:=by rw[HT.out];exact z2k U9
 have q3:w9.there g (99+i * 22) t9.size:=by rw[HT.out];exact by simpa using (q1L y8 v8 hi (z1o (y7.c i)) u9).there (H8.out.1.over b9)
 refine O.z2n (i:=12) (by kernel_rfl) rfl rfl 63 _ _ rfl rfl g (99+i * 22) t9 rfl rfl q3 q1 q2 ?_
 refine wpAny_done (by kernel_rfl) ?_ _
 have U9':CIn (New (New P w 0) w8 0) w9 (z1o (y7.c i)) u9:=U9.mono fun b _ hb=>by
  rcases hb with⟨hb,hl⟩ | hb
  ·exact .inl ⟨hb,hl⟩
  ·exact .inr (by have:w8.drew.heap.size=w8.heap.size:=rfl;omega)
 have Z9:=q2c H8.out.2.1 hng (Below.refl _ w8) H8.out.1 hlt8 b9 hi U9';rw[← HT.out]at Z9;have HZ:=hide (z1a.trans H8.out.2.2.1 Z9);generalize w9.setCells g (99+i * 22) t9.toList=w10 at *;have hfin:({ y8 with c:=z2L y8.c i (z1o (y7.c i)) }:Wo)=q3C y7 i:=by rw[H8.out.2.2.2];rfl
 rw[hfin]at HZ;clear q1 q2 q3 HS hS U9 U9' hb9 HRC Z9 hfin;go_simp;go_wp2;go_ret;rw[HD.out];exact⟨rfl,HZ.out⟩
end Wd
end Go.Proofs.YtmopekkhmhhcaaaGreat
