/- Parts of the proof. -/
import Derived.Test.YtmopekkhmhhcaaaGreatEL
import Derived.Test.YtmopekkhmhhcaaaGreatEK8
import Derived.Test.YtmopekkhmhhcaaaGreatEK23
set_option maxRecDepth 100000
set_option maxHeartbeats 16000000
namespace Go.Proofs.YtmopekkhmhhcaaaGreat
open Go.Proofs.Tryz
namespace Wd
open Go.RowKit Pv Kc
theorem j7l{P:Nat->Prop}{w2:World}{r:Pr}{v2:PrV}(P2:PIn P w2 r v2):∃ w3,(z4I (.pointer (some ⟨w2.heap.size,0,none⟩)) (.agg (prC r v2))).run prog (w2.alloc (.cells zeroCells57 57))=.ok () w3/\CAt 57 w3 w2.heap.size (prC r v2)/\PIn (fun b=>P b/\b<w2.heap.size) w3 r v2/\Below w2.heap.size w2 w3:=by
 have R0:=CAt.new 57 w2 zeroCells57;have bS:Below w2.heap.size w2 ((w2.alloc (.cells zeroCells57 57)).setCells w2.heap.size 0 (prC r v2).toList):=z0a (Nat.le_refl _) _ _ _ (znw w2 _);exact ⟨_,z0j R0 z0d (z0b _ _) (z0V P2),R0.z0s (by rw[z0d];rfl),(P2.mono (P':=fun b=>P b/\b<w2.heap.size) fun _ hl hp=>⟨hp,hl⟩).over bS,bS⟩
theorem j5n{P:Nat->Prop}{w:World}{g:Nat}{x:Wo}{v:WoV}(hI:WIn P w x v)(hg:¬ P g)(C0:CAt 98 w g (wdC x v)){x':Wo}{o:Nat}{ds es:List Value}(hA:At (wdC x v) o ds es (wdC x' v))(hp:x'.p=x.p)(hc:x'.c=x.c):z0W P w g x' (w.setCells g o es):=by
 have A3:Alt g w (w.setCells g o es):=(Alt.refl g w).sets _ _;have h:=hI.new hg A3 0;exact ⟨v,hA.sets C0,⟨by rw[hp];exact h.p,fun i hi=>by rw[hc];exact h.c i hi⟩,A3⟩
attribute [local go_sem ↓] z0F z0v z1n z1e q4F
theorem q4P(g:Nat)(x:Wo)(v:WoV)(P:Nat->Prop)(w:World)(c:Int)(hC:CAt 98 w g (wdC x v))(hI:WIn P w x v)(hg:¬ P g) :
  Calls prog 59 #[.pointer (some ⟨g,0,none⟩),.int .i64 c] w (z9z P w g (z4j x c)):=by
 have hD:z4j x c=if isC c=true then (if (z1O x.p c).2=0 then ({ x with p:=(z1O x.p c).1,c:=z2Y x.c c.toNat (z2A (z1O x.p c).1.set (z1O x.p c).1.h x.ck),hp:=q5Z x.hp c.toNat hd0,hc:=q5Z x.hc c.toNat hd0 },(z1O x.p c).1.h,0) else (x,0,(z1O x.p c).2)) else (x,0,4):=by unfold z4j;rfl
 have HBG:=hide (q5K x.p v.p P w c hI.p);generalize z4j x c=D at *;generalize z1O x.p c=r at *;obtain ⟨rp,re⟩:=r;dsimp only at hD;have HD:=hide hD;have HCC:=hide (fun (wx:World)=>z2V c wx);clear hD;have hlt:=hC.lt;have m0:=j0t ((z7Z x v x.p v.p).part hC) (z0b _ _);have HC:=hide hC;have HI:=hide hI;clear hC hI
 go_enter func59,ntmps59
 by_cases hcc:isC c=true
 case neg =>
  replace HD:=hide (HD.out.trans (if_neg hcc));have hcc':isC c=false:=by simpa using hcc
  rw[hcc']at HCC
  go_wp2_with (go_at_call 30;refine (HCC.out _).mono ?_;rintro e w' ⟨rfl,rfl⟩)
  go_ret2;rw[HD.out];exact ⟨rfl,.same HC.out HI.out hg (Alt.refl _ _)⟩
 replace HD:=hide (HD.out.trans (if_pos hcc));obtain ⟨i,rfl,hi⟩:=z8Y hcc;rw[hcc]at HCC;rw[Int.toNat_natCast]at HD;clear hcc;have hi2:(i:Int)<2:=by omega
 have hi0:(0:Int)<=(i:Int):=by omega
 go_upto_region 4 with (first
  | (go_at_call 30;refine (HCC.out _).mono ?_;rintro e w' ⟨rfl,rfl⟩)
  | (go_at_call 67;refine HBG.out.mono ?_;rintro e w2 ⟨u2,rfl,U2,hb2⟩;dsimp only at U2;dsimp only;clear m0;obtain ⟨w3,s2,D3,Q3,bS⟩:=j7l U2;have HL3:=hide (show _/\_/\_ from ⟨D3,Q3,zbt hb2 bS⟩);have hs2:=hb2.size;clear D3 Q3 bS hb2 U2))
 clear s2 HBG;obtain ⟨gn,hgn⟩:∃ y,y=w2.heap.size:=⟨_,rfl⟩;rw[← hgn]at HL3 hs2 ⊢;have hgg:g≠gn:=by omega
 have HGN:=hide hgn;clear hgn;generalize Value.agg (prC x.p v.p)=V0
 by_cases hE:re=0
 case neg =>
  replace HD:=hide (HD.out.trans (if_neg hE));have hE':(re != 0)=true:=by simpa using hE
  generalize Value.agg (prC rp u2)=V2;go_wp2;go_ret2;rw[HD.out];exact ⟨rfl,.same (HC.out.over HL3.out.2.2) HI.out hg (Alt.of HL3.out.2.2)⟩
 subst hE;replace HD:=hide (HD.out.trans (if_pos rfl));have hp3:=z0V HL3.out.2.1;have l3:=z0i HL3.out.1 (z0b _ _);have s3:=j6k ((z7Z x v rp u2).there (HC.out.over HL3.out.2.2)) (z0b _ _) hp3;have hw:New P w 2=New P w 2:=rfl;have HP4:=hide (z9Y HI.out hg (Below.refl _ w) HC.out hlt HL3.out.2.2 (HL3.out.2.1.mono (P':=New P w 2) fun b _ hb=>hb.1));have Q4:=HL3.out.2.1.sets (g:=g) (fun h=>by rcases h.1 with ⟨h,_⟩ | h;exact hg h;omega) 2 (prC rp u2).toList
 have D4:=HL3.out.1.others (c:=g) (o:=2) (by omega) (prC rp u2).toList
 have H4:=hide (show _/\_/\_ from ⟨HP4.out,Q4,D4⟩);clear Q4 D4 hw HP4 hp3;generalize hV2:Value.agg (prC rp u2)=V2 at l3 s3 ⊢;clear hV2;generalize w3.setCells g 2 (prC rp u2).toList=w4 at *
 go_upto_region 7 with fail
 clear l3 s3;obtain ⟨⟨v4,C4,I4,A4⟩,Q4,D4⟩:=H4.out;clear H4;have hd4:=(Below.refl w4.heap.size w4).drew;have HS:w4.drew.cell? ⟨gn,65,none⟩=some u2.set/\w4.drew.cell? ⟨gn,0,none⟩=some (.int .i64 rp.h)/\w4.drew.cell? ⟨g,0,none⟩=some (.int .i64 x.ck):=⟨(D4.over hd4).cell 65,(D4.over hd4).cell 0,(C4.over hd4).cell 0⟩;have HBC:=hide (q4f rp.set u2.set rp.h x.ck (fun b=>New P w 2 b/\b<gn) w4.drew (Q4.set.over hd4));have hlt4:=C4.lt;have hgn4:=D4.lt;have hng:¬ New P w 0 g:=Pv.z0K hg hlt;have H4:=hide (show _/\_/\_/\_ from ⟨C4,I4,A4,D4⟩);clear C4 I4 A4 D4 Q4 hd4;refine Od.z1f (c:=10) (S:=fun wx=>wx=w4.drew) (by kernel_rfl) ?_
 have hS:w4.drew=w4.drew:=rfl;refine Od.z0w (i:=0) (v:=(.pointer (some ⟨g,0,none⟩))) (some 27) rfl rfl (by kernel_rfl) (by kernel_rfl) (by kernel_rfl) (by decide) (fun _ _ _ h=>h) (Or.inl ⟨by rfl,?_⟩) hS ?_
 ·intro wx;go_simp
 refine Od.z0w (i:=1) (v:=(.int .i64 (i:Int))) (some 28) rfl rfl (by kernel_rfl) (by kernel_rfl) (by kernel_rfl) (by decide) (fun _ _ _ h=>h) (Or.inl ⟨by rfl,?_⟩) hS ?_
 ·intro wx;go_simp
 refine Od.z0w (i:=11) (v:=(.pointer (some ⟨g,0,none⟩))) (some 38) rfl rfl (by kernel_rfl) (by kernel_rfl) (by kernel_rfl) (by decide) (fun _ _ _ h=>h) (Or.inl ⟨by rfl,?_⟩) hS ?_
 ·intro wx;go_simp
 refine Od.z0w (i:=12) (v:=(.pointer (some ⟨g,99,none⟩))) (some 39) rfl rfl (by kernel_rfl) (by kernel_rfl) (by kernel_rfl) (by decide) (fun _ _ _ h=>h) (Or.inl ⟨by rfl,?_⟩) hS ?_
 ·intro wx;go_simp
 refine Od.Y 2 (.pointer (some ⟨gn,65,none⟩)) 29 rfl rfl hS ?_ ?_
 ·rintro wx rfl;go_simp
 refine Od.Y 3 u2.set 30 rfl rfl hS ?_ ?_
 ·rintro wx rfl;have l:=HS.1;go_simp
 refine Od.Y 4 (.pointer (some ⟨gn,0,none⟩)) 31 rfl rfl hS ?_ ?_
 ·rintro wx rfl;go_simp
 refine Od.Y 5 (.int .i64 rp.h) 32 rfl rfl hS ?_ ?_
 ·rintro wx rfl;have l:=HS.2.1;go_simp
 refine Od.Y 6 (.pointer (some ⟨g,0,none⟩)) 33 rfl rfl hS ?_ ?_
 ·rintro wx rfl;go_simp
 refine Od.Y 7 (.pointer (some ⟨g,0,none⟩)) 34 rfl rfl hS ?_ ?_
 ·rintro wx rfl;go_simp
 refine Od.Y 8 (.pointer (some ⟨g,0,none⟩)) 35 rfl rfl hS ?_ ?_
 ·rintro wx rfl;go_simp
 refine Od.Y 9 (.int .i64 x.ck) 36 rfl rfl hS ?_ ?_
 ·rintro wx rfl;have l:=HS.2.2;go_simp
 refine Od.z1W (by kernel_rfl) rfl (fun K hK=>?_)
 refine z0A rfl ?_;go_simp;refine HBC.out.mono ?_;rintro e w5 ⟨u5,rfl,U5,hb5⟩;dsimp only;have b5:=(Below.refl w4.heap.size w4).drew.trans hb5;obtain ⟨ts,hts⟩:∃ y,y=csC (z2A rp.set rp.h x.ck) u5:=⟨_,rfl⟩;rw[← hts];have HT:=hide hts;clear hts;refine hK _ _ ?_;clear hK K;refine Od.X 13 (.pointer (some ⟨g,99+i * 22,none⟩)) 40 rfl rfl ?_ ?_
 ·intro wx;go_simp
 have q1:(Option.map (fun x=>x.size) (prog.info? 63))=some ts.size:=by rw[HT.out,z3j];rfl
 have q2:ts.all (fun x=>x.oneCell')=true:=by rw[HT.out];exact z1B U5
 have q3:w5.there g (99+i * 22) ts.size:=by rw[HT.out];exact by simpa using (q0F { x with p:=rp } v4 hi (z2A rp.set rp.h x.ck) u5).there (H4.out.1.over b5)
 refine Od.z1V (i:=14) (by kernel_rfl) rfl rfl 63 _ _ rfl rfl g (99+i * 22) ts rfl rfl q3 q1 q2 ?_
 refine wpAny_done (by kernel_rfl) ?_ _
 have U5':CIn (New (New P w 0) w4 0) w5 (z2A rp.set rp.h x.ck) u5:=U5.mono fun b _ hb=>by
  rcases hb with ⟨hb,hl⟩ | hb
  ·rcases hb.1 with h | h
   ·exact .inl ⟨.inl h,hl⟩
   ·exact .inl ⟨.inr (by omega),hl⟩
  ·exact .inr (by have:w4.drew.heap.size=w4.heap.size:=rfl;omega)
 have HZ:=hide (q1Q H4.out.2.1 hng (Below.refl _ w4) H4.out.1 hlt4 b5 hi U5');have D6:=(H4.out.2.2.2.over b5).others (c:=g) (o:=99+i * 22) (by omega) ts.toList
 rw[← HT.out]at HZ;generalize w5.setCells g (99+i * 22) ts.toList=w6 at *;clear q1 q2 q3 HS hS U5 U5' hb5 HBC;obtain ⟨v6,C6,I6,A6⟩:=HZ.out;have hng6:¬ New (New P w 0) w4 0 g:=Pv.z0K hng hlt4;have s8:=j8u ((j8L { x with p:=rp,c:=z2Y x.c i (z2A rp.set rp.h x.ck) } v6 hi hd0 hd0).there C6) rfl (by rfl)
 have Z7:=j5n I6 hng6 C6 (j8L { x with p:=rp,c:=z2Y x.c i (z2A rp.set rp.h x.ck) } v6 hi hd0 hd0) rfl rfl
 have D7:=D6.others (c:=g) (o:=143+i * 8) (by omega) (hdL hd0 ++ hdL hd0)
 change (q2g (.pointer (some ⟨g,143+i * 8,none⟩)) (.agg #[.int .i64 0,.int .i64 0,.int .i64 0,.int .i64 0,.int .i64 0,.int .i64 0,.int .i64 0,.int .i64 0])).run prog w6=_ at s8;have hlt6:=C6.lt;have HX:=hide (z0W.trans H4.out.2.2.1 (z0W.trans A6 Z7));generalize w6.setCells g (143+i * 8) (hdL hd0 ++ hdL hd0)=w7 at *;have y7:w7.cell? ⟨gn,0,none⟩=some (.int .i64 rp.h):=D7.cell 0;have hz7:=D7.lt;clear C6 I6 A6 Z7 D6 D7 HZ;go_simp;go_wp2;go_ret2;rw[HD.out];exact ⟨rfl,HX.out⟩
end Wd
namespace Wd
open Go.RowKit Pv Kc
def Jn2{α β:Type}(A:α->β->Act)(R:α->β->World->Prop)(ex:Exit)(a:Act)(w:World):Prop:=∃ x y,ex=Exit.normal/\a=A x y/\R x y w
theorem q0E{α β:Type}{P:Program}{c:Code}{Q:Exit->Act->World->Prop}{a:Act}{w:World}(R:α->β->World->Prop)(A:α->β->Act)(h1:Code.wp P c (Jn2 A R) a w)(h2:∀ x y w',R x y w'->Q Exit.normal (A x y) w'):Code.wp P c Q a w:=
 Code.wp_mono (fun e a' w' h=>by obtain ⟨x,y,rfl,rfl,h⟩:=h;exact h2 x y w' h) h1
def Jn3{α β γ:Type}(A:α->β->γ->Act)(R:α->β->γ->World->Prop)(ex:Exit)(a:Act)(w:World):Prop:=∃ x y z,ex=Exit.normal/\a=A x y z/\R x y z w
theorem j5R{α β γ:Type}{P:Program}{c:Code}{Q:Exit->Act->World->Prop}{a:Act}{w:World}(R:α->β->γ->World->Prop)(A:α->β->γ->Act)(h1:Code.wp P c (Jn3 A R) a w)(h2:∀ x y z w',R x y z w'->Q Exit.normal (A x y z) w'):Code.wp P c Q a w:=
 Code.wp_mono (fun e a' w' h=>by obtain ⟨x,y,z,rfl,rfl,h⟩:=h;exact h2 x y z w' h) h1
structure j7V(P:Nat->Prop)(w0:World)(rc:Cs)(gn:Nat)(ts:Array Value)(w:World):Prop where
 ex:∃ u,ts=csC rc u/\CIn (fun b=>New P w0 0 b/\b≠gn) w rc u
 cat:CAt 63 w gn ts
 bel:Below w0.heap.size w0 w
 le:w0.heap.size<=gn
theorem j0B{P:Nat->Prop}{w0 wx w3:World}{rc:Cs}{u:CsV}{k:Nat}(h:CIn (New (fun b=>P b/\b<w0.heap.size) wx k) w3 rc u)(hx:wx.heap.size=w0.heap.size)(hb:Below w0.heap.size w0 w3):j7V P w0 rc w3.heap.size (csC rc u) ((w3.alloc (.cells Z22 63)).setCells w3.heap.size 0 (csC rc u).toList):=by
 have bS:Below w3.heap.size w3 ((w3.alloc (.cells Z22 63)).setCells w3.heap.size 0 (csC rc u).toList):=z0a (Nat.le_refl _) _ _ _ (znw w3 _);refine ⟨⟨u,rfl,?_⟩,(CAt.new 63 w3 Z22).z0s (by rw[z0m];rfl),zbt hb bS,hb.size⟩
 refine ((h.mono (P':=fun b=>New P w0 0 b/\b≠w3.heap.size) fun b hl hp=>⟨?_,by omega⟩).over bS)
 rcases hp with ⟨hp,_⟩ | hp
 ·exact .inl hp
 ·exact .inr (by omega)
theorem j1Z{P:Nat->Prop}{w0 wx w3:World}{rc:Cs}{u:CsV}{k:Nat}(h:CIn (New (fun b=>P b/\b<w0.heap.size) wx k) w3 rc u)(hx:wx.heap.size=w0.heap.size+1)(hb:Below w0.heap.size w0 w3)(hc:CAt 63 w3 w0.heap.size Z22):j7V P w0 rc w0.heap.size (csC rc u) (w3.setCells w0.heap.size 0 (csC rc u).toList):=by
 refine ⟨⟨u,rfl,?_⟩,hc.z0s (by rw[z0m];rfl),z0a (Nat.le_refl _) _ _ _ hb,Nat.le_refl _⟩
 have h':CIn (fun b=>New P w0 0 b/\b≠w0.heap.size) w3 rc u:=h.mono fun b _ hp=>by
  rcases hp with ⟨hp,_⟩ | hp
  ·exact ⟨.inl hp,by omega⟩
  ·exact ⟨.inr (by omega),by omega⟩
 exact h'.sets (fun e=>e.2 rfl) _ _
theorem j3a{w:World}{g:Nat}{x:Wo}{v:WoV}(h:CAt 98 w g (wdC x v)){i:Nat}(hi:i<2):w.cell? ⟨g,68+i * 14+6+2,none⟩=some (.int .i64 (x.p.L i).out.g):=by
 rw[h.cell]
 match i,hi with
 | 0,_=>rfl
 | 1,_=>rfl
theorem z0W.q2U{P:Nat->Prop}{w w' w1:World}{g:Nat}{x:Wo}(h:z0W P w g x w')(_:¬ P g)(he:w1.heap.size=w.heap.size:=by rfl):z0W (New P w1 0) w g x w':=by
 obtain ⟨v,c,i,a⟩:=h;refine ⟨v,c,i.mono fun b _ hb=>?_,a⟩
 rcases hb with ⟨hb,hl⟩ | hb
 ·exact .inl ⟨.inl ⟨hb,by omega⟩,hl⟩
 ·exact .inr hb
attribute [local go_sem ↓] z1n z1e z5S
theorem q7m(g:Nat)(x:Wo)(v:WoV)(P:Nat->Prop)(w:World)(i:Nat)(hi:i<2)(hC:CAt 98 w g (wdC x v))(hI:WIn P w x v)(hg:¬ P g)(hsz:((x.c i).rp.length+(x.c i).pd.length) * 16<=168884986026393) :
  Calls prog 69 #[.pointer (some ⟨g,0,none⟩),.int .i64 (i:Int)] w (q1I P w g (z5M x i)):=by
 have hD:z5M x i=if (q1q (x.c i) x.ck).2=0 then ({ x with c:=z2Y x.c i (q1q (x.c i) x.ck).1,hc:=q5Z x.hc i (z8g (q1q (x.c i) x.ck).1 (x.p.L i).out.g) },0) else (x,(q1q (x.c i) x.ck).2):=by unfold z5M;rfl
 have hlt:=hC.lt;have hi2:(i:Int)<2:=by omega
 have hi0:(0:Int)<=(i:Int):=by omega
 have HEN:=hide (fun (wx:World) (hb:Below w.heap.size w wx)=>j1P (x.c i) (v.c i) (fun b=>P b/\b<w.heap.size) wx x.ck (((hI.c i hi).mono (P':=fun b=>P b/\b<w.heap.size) fun b hl hp=>⟨hp,hl⟩).over hb) hsz);have HLF:=hide (fun (wx:World) (hb:Below w.heap.size w wx)=>(show (z3t (.pointer (some ⟨g,99+i * 22,none⟩))).run prog wx=.ok (.agg (csC (x.c i) (v.c i))) wx/\wx.cell? ⟨g,0,none⟩=some (.int .i64 x.ck) from ⟨j4v ((q0F x v hi (x.c i) (v.c i)).part (hC.over hb)) (z0h _ _),(hC.over hb).cell 0⟩));generalize z5M x i=D at *;generalize q1q (x.c i) x.ck=r at *;obtain ⟨rc,re⟩:=r;dsimp only at hD;have HD:=hide hD;have HC:=hide hC;have HI:=hide hI;clear hD hC hI hsz;generalize Value.agg (csC (x.c i) (v.c i))=V0 at HEN HLF;have HALd:Hid (Below w.heap.size w (w.alloc (.cells Z22 63)).drew):=(znw w _).drew;have HACd:Hid (CAt 63 (w.alloc (.cells Z22 63)).drew w.heap.size Z22):=CAt.new 63 w Z22;unfold Z22 at HALd
 go_enter func69,ntmps69
 go_upto_region 1 with fail
 apply q0E (fun (gn:Nat) (ts:Array Value) w'=>j7V P w rc gn ts w')
 ·skip;refine wp_region_noPanic ?_;refine wp_region_held_drew (S:=fun wx=>Below w.heap.size w wx) (by kernel_rfl) (Below.refl _ _).drew (fun hS=>?_)
  refine Od.G 0 (.pointer (some ⟨g,0,none⟩)) 8 rfl rfl hS ?_;refine Od.G 1 (.int .i64 (i:Int)) 9 rfl rfl hS ?_;refine Od.G 2 (.pointer (some ⟨g,0,none⟩)) 10 rfl rfl hS ?_;refine Od.G 3 (.pointer (some ⟨g,99,none⟩)) 11 rfl rfl hS ?_;refine Od.G 4 (.pointer (some ⟨g,99+i * 22,none⟩)) 12 rfl rfl hS ?_;refine Od.Z 5 V0 13 rfl rfl hS (fun wx hSw=>by obtain ⟨l1,l2⟩:=HLF.out wx hSw;go_simp) ?_
  refine Od.G 6 (.pointer (some ⟨g,0,none⟩)) 14 rfl rfl hS ?_;refine Od.G 7 (.pointer (some ⟨g,0,none⟩)) 15 rfl rfl hS ?_;refine Od.G 8 (.pointer (some ⟨g,0,none⟩)) 16 rfl rfl hS ?_;refine Od.Z 9 (.int .i64 x.ck) 17 rfl rfl hS (fun wx hSw=>by obtain ⟨l1,l2⟩:=HLF.out wx hSw;go_simp) ?_
  refine Od.z3g (i:=10) (j:=14) (by kernel_rfl) rfl rfl rfl rfl (fun K hK=>?_) (fun K hK=>?_)
  ·go_simp
   go_at_call 89
   refine (HEN.out _ (by with_reducible exact (Below.refl w.heap.size w).drew)).mono ?_
   rintro e w3 ⟨u3,rfl,U3,hb3⟩;dsimp only at U3;have hb:=(Below.refl w.heap.size w).drew.trans (hb3.mono (Below.refl w.heap.size w).drew.size);obtain ⟨ts,hts⟩:∃ y:Array Value,y=csC rc u3:=⟨_,rfl⟩;dsimp only;rw[← hts];have HT:=hide hts;clear hts;refine hK _ _ hb ?_;clear hK K;refine Od.Z 11 (.tuple #[.agg ts,(.int .i64 re)]) 7 rfl rfl hb (fun wx hSw=>?_) ?_
   ·go_simp
   refine Od.Z 12 (.agg ts) 19 rfl rfl hb (fun wx hSw=>?_) ?_
   ·go_simp
   refine Od.Z 13 (.int .i64 re) 20 rfl rfl hb (fun wx hSw=>?_) ?_
   ·go_simp
   refine Od.z0Q (i:=14) (by kernel_rfl) rfl rfl (fun K hK=>?_)
   go_simp;refine hK _ _ (hb.alloc hb.size _) ?_;clear hK K;have q2:ts.all (fun x=>x.oneCell')=true:=by rw[HT.out];exact z1B U3
   have HST:=j0B U3 (by rfl) hb
   rw[← HT.out]at HST;change wpAnyH _ _ _ _ _ _ _ _ (w3.alloc (.cells Z22 63));refine Od.z0n (i:=15) (by kernel_rfl) rfl rfl 63 _ _ rfl rfl w3.heap.size 0 ts rfl rfl ((CAt.new 63 w3 Z22).there 0 _ (by rw[HT.out];exact Nat.le_of_eq rfl)) (by rw[HT.out,z3j];rfl) q2 HST.bel ?_
   refine Od.Z 16 (.int .i64 re) 6 rfl rfl HST.bel (fun wx hSw=>?_) ?_
   ·go_simp
   refine wpAnyH_done (by kernel_rfl) ?_ _
   obtain ⟨gn,hgn⟩:∃ y,y=w3.heap.size:=⟨_,rfl⟩;rw[← hgn]at HST ⊢;simp only[Od.pp,Od.pb,Od.pc];exact NoPanic.normal ⟨gn,ts,rfl,rfl,HST⟩
  ·go_simp;refine hK _ _ (hS.alloc hS.size _) ?_;clear hK K;refine Od.z0Q (i:=10) (by kernel_rfl) rfl rfl (fun K hK=>?_)
   go_simp
   go_at_call 89
   refine (HEN.out _ (by with_reducible exact HALd.out)).mono ?_
   rintro e w3 ⟨u3,rfl,U3,hb3⟩;dsimp only at U3;have hb:=zbt HALd.out hb3;obtain ⟨ts,hts⟩:∃ y:Array Value,y=csC rc u3:=⟨_,rfl⟩;dsimp only;rw[← hts];have HT:=hide hts;clear hts;refine hK _ _ hb ?_;clear hK K;refine Od.Z 11 (.tuple #[.agg ts,(.int .i64 re)]) 7 rfl rfl hb (fun wx hSw=>?_) ?_
   ·go_simp
   refine Od.Z 12 (.agg ts) 19 rfl rfl hb (fun wx hSw=>?_) ?_
   ·go_simp
   refine Od.Z 13 (.int .i64 re) 20 rfl rfl hb (fun wx hSw=>?_) ?_
   ·go_simp
   have q2:ts.all (fun x=>x.oneCell')=true:=by rw[HT.out];exact z1B U3
   have R3:=HACd.out.over hb3;have HST:=j1Z U3 (by simp) hb R3
   rw[← HT.out]at HST;refine Od.z0n (i:=15) (by kernel_rfl) rfl rfl 63 _ _ rfl rfl w.heap.size 0 ts rfl rfl (R3.there 0 _ (by rw[HT.out];exact Nat.le_of_eq rfl)) (by rw[HT.out,z3j];rfl) q2 HST.bel ?_
   refine Od.Z 16 (.int .i64 re) 6 rfl rfl HST.bel (fun wx hSw=>?_) ?_
   ·go_simp
   refine wpAnyH_done (by kernel_rfl) ?_ _
   obtain ⟨gn,hgn⟩:∃ y,y=w.heap.size:=⟨_,rfl⟩;rw[← hgn]at HST ⊢;simp only[Od.pp,Od.pb,Od.pc];exact NoPanic.normal ⟨gn,ts,rfl,rfl,HST⟩
 rintro gn ts w5 S5;have HS5:=hide S5;have hle:=S5.le;have hlt5:=S5.cat.lt;clear S5 HLF HEN HALd HACd;have hgg:g≠gn:=by omega
 simp only[Exit.then];apply_assumption
 by_cases hE:re=0
 case neg =>
  replace HD:=hide (HD.out.trans (if_neg hE));have hE':(re != 0)=true:=by simpa using hE
  go_wp2;go_ret;rw[HD.out];exact ⟨rfl,.same (HC.out.over HS5.out.bel) HI.out hg (Alt.of HS5.out.bel)⟩
 subst hE;replace HD:=hide (HD.out.trans (if_pos rfl))
 go_upto_region 4 with fail
 obtain ⟨u,hu1,hu2⟩:=HS5.out.ex;have hts:ts.size=22:=by rw[hu1];rfl
 have HU:=hide (show _/\_ from ⟨hu1,hu2.over (Below.refl w5.heap.size w5).drew⟩);clear hu1;refine wp_region_held_drew (S:=fun wx=>(z3t (.pointer (some ⟨gn,0,none⟩))).run prog wx=.ok (.agg ts) wx) (by kernel_rfl) (z2l (HS5.out.cat.over (Below.refl w5.heap.size w5).drew) hts) (fun hS=>?_)
 refine Od.G 0 (.pointer (some ⟨g,0,none⟩)) 24 rfl rfl hS ?_;refine Od.G 1 (.int .i64 (i:Int)) 25 rfl rfl hS ?_;refine Od.Z 2 (.agg ts) 26 rfl rfl hS (fun wx hSw=>?_) ?_
 ·(try dsimp only at hSw);have l:=hSw;go_simp
 refine Od.G 3 (.pointer (some ⟨g,0,none⟩)) 27 rfl rfl hS ?_;refine Od.G 4 (.pointer (some ⟨g,99,none⟩)) 28 rfl rfl hS ?_;refine Od.G 5 (.pointer (some ⟨g,99+i * 22,none⟩)) 29 rfl rfl hS ?_;have q1:(Option.map (fun x=>x.size) (prog.info? 63))=some ts.size:=by rw[hts,z3j]
 have q2:ts.all (fun x=>x.oneCell')=true:=by rw[HU.out.1];exact z1B HU.out.2
 have q3:w5.drew.there g (99+i * 22) ts.size:=by rw[HU.out.1];exact by simpa using (q0F x v hi rc u).there ((HC.out.over HS5.out.bel).over (Below.refl w5.heap.size w5).drew)
 have qS:=z2l ((HS5.out.cat.over (Below.refl w5.heap.size w5).drew).others (c:=g) (o:=99+i * 22) (by omega) ts.toList) hts
 simp only[Od.pp,Od.pb,Od.pc];refine Od.z0n (i:=6) (by kernel_rfl) rfl rfl 63 _ _ rfl rfl g (99+i * 22) ts rfl rfl q3 q1 q2 qS ?_
 refine wpAnyH_done (by kernel_rfl) ?_ _
 have Z6:=q1Q HI.out hg (Below.refl _ w) HC.out hlt (HS5.out.bel.trans ((Below.refl w5.heap.size w5).drew.mono HS5.out.bel.size)) hi (HU.out.2.mono (P':=New P w 0) fun b _ hb=>hb.1);rw[← HU.out.1]at Z6;have D6:=(HS5.out.cat.over (Below.refl w5.heap.size w5).drew).others (c:=g) (o:=99+i * 22) (by omega) ts.toList
 clear q1 q2 q3 qS hS;generalize w5.drew.setCells g (99+i * 22) ts.toList=w6 at *;obtain ⟨v6,C6,I6,A6⟩:=Z6;obtain ⟨As,Ds,es,-,-⟩:=z4W hu2.said (z1L rc.out.S) (by decide)
 rw[HU.out.1]at D6;have hlt6:=C6.lt;have hd6:=(Below.refl w6.heap.size w6).drew
 have HS6:w6.drew.cell? ⟨gn,2,none⟩=some (.int .i64 rc.h)/\w6.drew.cell? ⟨gn,3,none⟩=some (.int .i64 rc.t)/\w6.drew.cell? ⟨gn,14,none⟩=some (.slice As rc.out.S.length Ds)/\w6.drew.cell? ⟨g,68+i * 14+6+2,none⟩=some (.int .i64 (x.p.L i).out.g):=
  ⟨(D6.over hd6).cell 2,(D6.over hd6).cell 3,by rw[← es];exact (D6.over hd6).cell 14,j3a (C6.over hd6) hi⟩
 have hA7:=j6K { x with c:=z2Y x.c i rc } v6 hi (z8g rc (x.p.L i).out.g)
 rw[show 147+i * 8=143+i * 8+4 by omega]at hA7
 have HA7:=hide hA7;have D7:=(D6.over hd6).others (c:=g) (o:=143+i * 8+4) (by omega) (hdL (z8g rc (x.p.L i).out.g))
 have C7:=hA7.sets (C6.over hd6)
 have HS7:Hid ((w6.drew.setCells g (143+i * 8+4) (hdL (z8g rc (x.p.L i).out.g))).cell? ⟨gn,2,none⟩=some (.int .i64 rc.h)/\(w6.drew.setCells g (143+i * 8+4) (hdL (z8g rc (x.p.L i).out.g))).cell? ⟨gn,3,none⟩=some (.int .i64 rc.t)/\(w6.drew.setCells g (143+i * 8+4) (hdL (z8g rc (x.p.L i).out.g))).cell? ⟨gn,14,none⟩=some (.slice As rc.out.S.length Ds)/\(w6.drew.setCells g (143+i * 8+4) (hdL (z8g rc (x.p.L i).out.g))).cell? ⟨g,68+i * 14+6+2,none⟩=some (.int .i64 (x.p.L i).out.g)):=
  ⟨D7.cell 2,D7.cell 3,by rw[← es];exact D7.cell 14,j3a C7 hi⟩
 have hng:¬ New P w 0 g:=Pv.z0K hg hlt;have Z7:=j5n (I6.over hd6) hng (C6.over hd6) hA7 rfl rfl;have HX:=hide (z0W.trans A6 (z0W.trans (Alt.of (g:=g) hd6) (Z7.q2U hng)));have H6:=hide (show _/\_ from ⟨C6,I6⟩);clear C6 I6 A6 D6 D7 C7 Z7 hA7 hd6 es hu2;go_simp
 go_upto_region 5 with fail
 refine wp_region_held_drew (S:=fun wx=>wx.cell? ⟨gn,2,none⟩=some (.int .i64 rc.h)/\wx.cell? ⟨gn,3,none⟩=some (.int .i64 rc.t)/\wx.cell? ⟨gn,14,none⟩=some (.slice As rc.out.S.length Ds)/\wx.cell? ⟨g,68+i * 14+6+2,none⟩=some (.int .i64 (x.p.L i).out.g)) (by kernel_rfl) HS6 (fun hS=>?_)
 refine Od.G 0 (.pointer (some ⟨g,0,none⟩)) 30 rfl rfl hS ?_;refine Od.G 1 (.int .i64 (i:Int)) 31 rfl rfl hS ?_;refine Od.G 2 (.pointer (some ⟨gn,2,none⟩)) 32 rfl rfl hS ?_;refine Od.Z 3 (.int .i64 rc.h) 33 rfl rfl hS (fun wx hSw=>by obtain ⟨l1,l2,l3,l4⟩:=hSw;go_simp) ?_
 refine Od.G 4 (.pointer (some ⟨gn,3,none⟩)) 34 rfl rfl hS ?_;refine Od.Z 5 (.int .i64 rc.t) 35 rfl rfl hS (fun wx hSw=>by obtain ⟨l1,l2,l3,l4⟩:=hSw;go_simp) ?_
 refine Od.G 6 (.pointer (some ⟨gn,14,none⟩)) 36 rfl rfl hS ?_;refine Od.G 7 (.pointer (some ⟨gn,14,none⟩)) 37 rfl rfl hS ?_;refine Od.Z 8 (.slice As rc.out.S.length Ds) 38 rfl rfl hS (fun wx hSw=>by obtain ⟨l1,l2,l3,l4⟩:=hSw;go_simp) ?_
 refine Od.G 9 (.int .i64 (rc.out.S.length:Int)) 39 rfl rfl hS ?_;refine Od.G 10 (.pointer (some ⟨g,0,none⟩)) 40 rfl rfl hS ?_;refine Od.G 11 (.int .i64 (i:Int)) 41 rfl rfl hS ?_;refine Od.G 12 (.pointer (some ⟨g,0,none⟩)) 42 rfl rfl hS ?_;refine Od.G 13 (.pointer (some ⟨g,2,none⟩)) 43 rfl rfl hS ?_;refine Od.G 14 (.pointer (some ⟨g,68,none⟩)) 44 rfl rfl hS ?_;refine Od.G 15 (.pointer (some ⟨g,68+i * 14,none⟩)) 45 rfl rfl hS ?_;refine Od.G 16 (.pointer (some ⟨g,68+i * 14+6,none⟩)) 46 rfl rfl hS ?_;refine Od.G 17 (.pointer (some ⟨g,68+i * 14+6+2,none⟩)) 47 rfl rfl hS ?_;refine Od.Z 18 (.int .i64 (x.p.L i).out.g) 48 rfl rfl hS (fun wx hSw=>by obtain ⟨l1,l2,l3,l4⟩:=hSw;go_simp) ?_
 refine Od.G 19 (.agg #[.int .i64 rc.h,.int .i64 rc.t,.int .i64 (rc.out.S.length:Int),.int .i64 (x.p.L i).out.g]) 49 rfl rfl hS ?_;refine Od.G 20 (.pointer (some ⟨g,0,none⟩)) 50 rfl rfl hS ?_;refine Od.G 21 (.pointer (some ⟨g,143,none⟩)) 51 rfl rfl hS ?_;refine Od.G 22 (.pointer (some ⟨g,143+i * 8,none⟩)) 52 rfl rfl hS ?_;refine Od.G 23 (.pointer (some ⟨g,143+i * 8+4,none⟩)) 53 rfl rfl hS ?_;have q1:(Option.map (fun x=>x.size) (prog.info? 49))=some (#[.int .i64 rc.h,.int .i64 rc.t,.int .i64 (rc.out.S.length:Int),.int .i64 (x.p.L i).out.g]:Array Value).size:=by rw[q3k];rfl
 have q2:(#[.int .i64 rc.h,.int .i64 rc.t,.int .i64 (rc.out.S.length:Int),.int .i64 (x.p.L i).out.g]:Array Value).all (fun x=>x.oneCell')=true:=by simp[Value.oneCell']
 have q3:w6.drew.there g (143+i * 8+4) (#[.int .i64 rc.h,.int .i64 rc.t,.int .i64 (rc.out.S.length:Int),.int .i64 (x.p.L i).out.g]:Array Value).size:=HA7.out.there (H6.out.1.over (Below.refl w6.heap.size w6).drew);simp only[Od.pp,Od.pb,Od.pc];refine Od.z0n (i:=24) (by kernel_rfl) rfl rfl 49 _ _ rfl rfl g (143+i * 8+4) #[.int .i64 rc.h,.int .i64 rc.t,.int .i64 (rc.out.S.length:Int),.int .i64 (x.p.L i).out.g] rfl rfl q3 q1 q2 HS7.out ?_
 refine wpAnyH_done (by kernel_rfl) ?_ _
 change Exit.then _ _ _ _ (w6.drew.setCells g (143+i * 8+4) (hdL (z8g rc (x.p.L i).out.g)));clear q1 q2 q3 hS HS6 HS7;generalize w6.drew.setCells g (143+i * 8+4) (hdL (z8g rc (x.p.L i).out.g))=w7 at *;go_simp;go_wp2;go_ret;rw[HD.out];exact ⟨rfl,HX.out⟩
end Wd
end Go.Proofs.YtmopekkhmhhcaaaGreat
