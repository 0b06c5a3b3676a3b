/- Parts of the proof. -/
import Derived.Test.YtmopekkhmhhcaaaGreatEL
import Derived.Test.YtmopekkhmhhcaaaGreatEK10
import Derived.Test.YtmopekkhmhhcaaaGreatEK25
set_option maxRecDepth 100000
set_option maxHeartbeats 16000000
namespace Go.Proofs.YtmopekkhmhhcaaaGreat
open Go.Proofs.Tryz
namespace Wd
open Go.RowKit Pv Kc
theorem j7y{P:Nat->Prop}{w2:World}{r:Pr}{v2:PrV}(P2:PIn P w2 r v2):∃ w3,(z6p (.pointer (some ⟨w2.heap.size,0,none⟩)) (.agg (prC r v2))).run prog (w2.alloc (.cells zeroCells57 57))=.ok () w3/\CAt 57 w3 w2.heap.size (prC r v2)/\PIn (fun b=>P b/\b<w2.heap.size) w3 r v2/\Below w2.heap.size w2 w3:=by
 have R0:=CAt.new 57 w2 zeroCells57;have bS:Below w2.heap.size w2 ((w2.alloc (.cells zeroCells57 57)).setCells w2.heap.size 0 (prC r v2).toList):=z0b (Nat.le_refl _) _ _ _ (znw w2 _);exact ⟨_,z0k R0 z0d (z0a _ _) (z1c P2),R0.z0G (by rw[z0d];rfl),(P2.mono (P':=fun b=>P b/\b<w2.heap.size) fun _ hl hp=>⟨hp,hl⟩).over bS,bS⟩
theorem j5v{P:Nat->Prop}{w:World}{g:Nat}{x:Wo}{v:WoV}(hI:WIn P w x v)(hg:¬ P g)(C0:CAt 98 w g (wdC x v)){x':Wo}{o:Nat}{ds es:List Value}(hA:At (wdC x v) o ds es (wdC x' v))(hp:x'.p=x.p)(hc:x'.c=x.c):z0Y P w g x' (w.setCells g o es):=by
 have A3:Alt g w (w.setCells g o es):=(Alt.refl g w).sets _ _;have h:=hI.new hg A3 0;exact ⟨v,hA.sets C0,⟨by rw[hp];exact h.p,fun i hi=>by rw[hc];exact h.c i hi⟩,A3⟩
attribute [local go_sem ↓] z0J z0y z1O z1w q3F
theorem q4H(g:Nat)(x:Wo)(v:WoV)(P:Nat->Prop)(w:World)(c:Int)(hC:CAt 98 w g (wdC x v))(hI:WIn P w x v)(hg:¬ P g) :
  Calls prog 59 #[.pointer (some ⟨g,0,none⟩),.int .i64 c] w (z8W P w g (z3w x c)):=by
 have hD:z3w x c=if isC c=true then (if (z0T x.p c).2=0 then ({ x with p:=(z0T x.p c).1,c:=z2Q x.c c.toNat (z2J (z0T x.p c).1.set (z0T x.p c).1.h x.ck),hp:=q5K x.hp c.toNat hd0,hc:=q5K x.hc c.toNat hd0 },(z0T x.p c).1.h,0) else (x,0,(z0T x.p c).2)) else (x,0,4):=by unfold z3w;rfl
 have HBG:=hide (q4n x.p v.p P w c hI.p);generalize z3w x c=D at *;generalize z0T x.p c=r at *;obtain ⟨rp,re⟩:=r;dsimp only at hD;have HD:=hide hD;have HCC:=hide (fun (wx:World)=>z2X c wx);clear hD;have hlt:=hC.lt;have m0:=j1g ((z7K x v x.p v.p).part hC) (z0a _ _);have HC:=hide hC;have HI:=hide hI;clear hC hI
 go_enter func59,ntmps59
 by_cases hcc:isC c=true
 case neg =>
  replace HD:=hide (HD.out.trans (if_neg hcc));have hcc':isC c=false:=by simpa using hcc
  rw[hcc']at HCC
  go_wp2_with (go_at_call 30;refine (HCC.out _).mono ?_;rintro e w' ⟨rfl,rfl⟩)
  go_ret2;rw[HD.out];exact ⟨rfl,.same HC.out HI.out hg (Alt.refl _ _)⟩
 replace HD:=hide (HD.out.trans (if_pos hcc));obtain ⟨i,rfl,hi⟩:=z8F hcc;rw[hcc]at HCC;rw[Int.toNat_natCast]at HD;clear hcc;have hi2:(i:Int)<2:=by omega
 have hi0:(0:Int)<=(i:Int):=by omega
 go_upto_region 4 with (first
  | (go_at_call 30;refine (HCC.out _).mono ?_;rintro e w' ⟨rfl,rfl⟩)
  | (go_at_call 67;refine HBG.out.mono ?_;rintro e w2 ⟨u2,rfl,U2,hb2⟩;dsimp only at U2;dsimp only;clear m0;obtain ⟨w3,s2,D3,Q3,bS⟩:=j7y U2;have HL3:=hide (show _/\_/\_ from ⟨D3,Q3,zbt hb2 bS⟩);have hs2:=hb2.size;clear D3 Q3 bS hb2 U2))
 clear s2 HBG;obtain ⟨gn,hgn⟩:∃ y,y=w2.heap.size:=⟨_,rfl⟩;rw[← hgn]at HL3 hs2 ⊢;have hgg:g≠gn:=by omega
 have HGN:=hide hgn;clear hgn;generalize Value.agg (prC x.p v.p)=V0
 by_cases hE:re=0
 case neg =>
  replace HD:=hide (HD.out.trans (if_neg hE));have hE':(re != 0)=true:=by simpa using hE
  generalize Value.agg (prC rp u2)=V2;go_wp2;go_ret2;rw[HD.out];exact ⟨rfl,.same (HC.out.over HL3.out.2.2) HI.out hg (Alt.of HL3.out.2.2)⟩
 subst hE;replace HD:=hide (HD.out.trans (if_pos rfl));have hp3:=z1c HL3.out.2.1;have l3:=z0j HL3.out.1 (z0a _ _);have s3:=j6L ((z7K x v rp u2).there (HC.out.over HL3.out.2.2)) (z0a _ _) hp3;have hw:New P w 2=New P w 2:=rfl;have HP4:=hide (z9T HI.out hg (Below.refl _ w) HC.out hlt HL3.out.2.2 (HL3.out.2.1.mono (P':=New P w 2) fun b _ hb=>hb.1));have Q4:=HL3.out.2.1.sets (g:=g) (fun h=>by rcases h.1 with ⟨h,_⟩ | h;exact hg h;omega) 2 (prC rp u2).toList
 have D4:=HL3.out.1.others (c:=g) (o:=2) (by omega) (prC rp u2).toList
 have H4:=hide (show _/\_/\_ from ⟨HP4.out,Q4,D4⟩);clear Q4 D4 hw HP4 hp3;generalize hV2:Value.agg (prC rp u2)=V2 at l3 s3 ⊢;clear hV2;generalize w3.setCells g 2 (prC rp u2).toList=w4 at *
 go_upto_region 7 with fail
 clear l3 s3;obtain ⟨⟨v4,C4,I4,A4⟩,Q4,D4⟩:=H4.out;clear H4;have hd4:=(Below.refl w4.heap.size w4).drew;have HS:w4.drew.cell? ⟨gn,65,none⟩=some u2.set/\w4.drew.cell? ⟨gn,0,none⟩=some (.int .i64 rp.h)/\w4.drew.cell? ⟨g,0,none⟩=some (.int .i64 x.ck):=⟨(D4.over hd4).cell 65,(D4.over hd4).cell 0,(C4.over hd4).cell 0⟩;have HBC:=hide (q4S rp.set u2.set rp.h x.ck (fun b=>New P w 2 b/\b<gn) w4.drew (Q4.set.over hd4));have hlt4:=C4.lt;have hgn4:=D4.lt;have hng:¬ New P w 0 g:=Pv.z0I hg hlt;have H4:=hide (show _/\_/\_/\_ from ⟨C4,I4,A4,D4⟩);clear C4 I4 A4 D4 Q4 hd4;refine Od.z1g (c:=10) (S:=fun wx=>wx=w4.drew) (by kernel_rfl) ?_
 have hS:w4.drew=w4.drew:=rfl;refine Od.z0r (i:=0) (v:=(.pointer (some ⟨g,0,none⟩))) (some 27) rfl rfl (by kernel_rfl) (by kernel_rfl) (by kernel_rfl) (by decide) (fun _ _ _ h=>h) (Or.inl ⟨by rfl,?_⟩) hS ?_
 ·intro wx;go_simp
 refine Od.z0r (i:=1) (v:=(.int .i64 (i:Int))) (some 28) rfl rfl (by kernel_rfl) (by kernel_rfl) (by kernel_rfl) (by decide) (fun _ _ _ h=>h) (Or.inl ⟨by rfl,?_⟩) hS ?_
 ·intro wx;go_simp
 refine Od.z0r (i:=11) (v:=(.pointer (some ⟨g,0,none⟩))) (some 38) rfl rfl (by kernel_rfl) (by kernel_rfl) (by kernel_rfl) (by decide) (fun _ _ _ h=>h) (Or.inl ⟨by rfl,?_⟩) hS ?_
 ·intro wx;go_simp
 refine Od.z0r (i:=12) (v:=(.pointer (some ⟨g,99,none⟩))) (some 39) rfl rfl (by kernel_rfl) (by kernel_rfl) (by kernel_rfl) (by decide) (fun _ _ _ h=>h) (Or.inl ⟨by rfl,?_⟩) hS ?_
 ·intro wx;go_simp
 refine Od.Y 2 (.pointer (some ⟨gn,65,none⟩)) 29 rfl rfl hS ?_ ?_
 ·rintro wx rfl;go_simp
 refine Od.Y 3 u2.set 30 rfl rfl hS ?_ ?_
 ·rintro wx rfl;have l:=HS.1;go_simp
 refine Od.Y 4 (.pointer (some ⟨gn,0,none⟩)) 31 rfl rfl hS ?_ ?_
 ·rintro wx rfl;go_simp
 refine Od.Y 5 (.int .i64 rp.h) 32 rfl rfl hS ?_ ?_
 ·rintro wx rfl;have l:=HS.2.1;go_simp
 refine Od.Y 6 (.pointer (some ⟨g,0,none⟩)) 33 rfl rfl hS ?_ ?_
 ·rintro wx rfl;go_simp
 refine Od.Y 7 (.pointer (some ⟨g,0,none⟩)) 34 rfl rfl hS ?_ ?_
 ·rintro wx rfl;go_simp
 refine Od.Y 8 (.pointer (some ⟨g,0,none⟩)) 35 rfl rfl hS ?_ ?_
 ·rintro wx rfl;go_simp
 refine Od.Y 9 (.int .i64 x.ck) 36 rfl rfl hS ?_ ?_
 ·rintro wx rfl;have l:=HS.2.2;go_simp
 refine Od.z1Y (by kernel_rfl) rfl (fun K hK=>?_)
 refine z0C rfl ?_;go_simp;refine HBC.out.mono ?_;rintro e w5 ⟨u5,rfl,U5,hb5⟩;dsimp only;have b5:=(Below.refl w4.heap.size w4).drew.trans hb5;obtain ⟨ts,hts⟩:∃ y,y=csC (z2J rp.set rp.h x.ck) u5:=⟨_,rfl⟩;rw[← hts];have HT:=hide hts;clear hts;refine hK _ _ ?_;clear hK K;refine Od.X 13 (.pointer (some ⟨g,99+i * 22,none⟩)) 40 rfl rfl ?_ ?_
 ·intro wx;go_simp
 have q1:(Option.map (fun x=>x.size) (prog.info? 63))=some ts.size:=by rw[HT.out,z3j];rfl
 have q2:ts.all (fun x=>x.oneCell')=true:=by rw[HT.out];exact z1W U5
 have q3:w5.there g (99+i * 22) ts.size:=by rw[HT.out];exact by simpa using (q0N { x with p:=rp } v4 hi (z2J rp.set rp.h x.ck) u5).there (H4.out.1.over b5)
 refine Od.z1Z (i:=14) (by kernel_rfl) rfl rfl 63 _ _ rfl rfl g (99+i * 22) ts rfl rfl q3 q1 q2 ?_
 refine wpAny_done (by kernel_rfl) ?_ _
 have U5':CIn (New (New P w 0) w4 0) w5 (z2J rp.set rp.h x.ck) u5:=U5.mono fun b _ hb=>by
  rcases hb with ⟨hb,hl⟩ | hb
  ·rcases hb.1 with h | h
   ·exact .inl ⟨.inl h,hl⟩
   ·exact .inl ⟨.inr (by omega),hl⟩
  ·exact .inr (by have:w4.drew.heap.size=w4.heap.size:=rfl;omega)
 have HZ:=hide (q1Z H4.out.2.1 hng (Below.refl _ w4) H4.out.1 hlt4 b5 hi U5');have D6:=(H4.out.2.2.2.over b5).others (c:=g) (o:=99+i * 22) (by omega) ts.toList
 rw[← HT.out]at HZ;generalize w5.setCells g (99+i * 22) ts.toList=w6 at *;clear q1 q2 q3 HS hS U5 U5' hb5 HBC;obtain ⟨v6,C6,I6,A6⟩:=HZ.out;have hng6:¬ New (New P w 0) w4 0 g:=Pv.z0I hng hlt4;have s8:=j8H ((j8U { x with p:=rp,c:=z2Q x.c i (z2J rp.set rp.h x.ck) } v6 hi hd0 hd0).there C6) rfl (by rfl)
 have Z7:=j5v I6 hng6 C6 (j8U { x with p:=rp,c:=z2Q x.c i (z2J rp.set rp.h x.ck) } v6 hi hd0 hd0) rfl rfl
 have D7:=D6.others (c:=g) (o:=143+i * 8) (by omega) (hdL hd0 ++ hdL hd0)
 change (q1K (.pointer (some ⟨g,143+i * 8,none⟩)) (.agg #[.int .i64 0,.int .i64 0,.int .i64 0,.int .i64 0,.int .i64 0,.int .i64 0,.int .i64 0,.int .i64 0])).run prog w6=_ at s8;have hlt6:=C6.lt;have HX:=hide (z0Y.trans H4.out.2.2.1 (z0Y.trans A6 Z7));generalize w6.setCells g (143+i * 8) (hdL hd0 ++ hdL hd0)=w7 at *;have y7:w7.cell? ⟨gn,0,none⟩=some (.int .i64 rp.h):=D7.cell 0;have hz7:=D7.lt;clear C6 I6 A6 Z7 D6 D7 HZ;go_simp;go_wp2;go_ret2;rw[HD.out];exact ⟨rfl,HX.out⟩
end Wd
namespace Wd
open Go.RowKit Pv Kc
def Jn2{α β:Type}(A:α->β->Act)(R:α->β->World->Prop)(ex:Exit)(a:Act)(w:World):Prop:=∃ x y,ex=Exit.normal/\a=A x y/\R x y w
theorem z9G{α β:Type}{P:Program}{c:Code}{Q:Exit->Act->World->Prop}{a:Act}{w:World}(R:α->β->World->Prop)(A:α->β->Act)(h1:Code.wp P c (Jn2 A R) a w)(h2:∀ x y w',R x y w'->Q Exit.normal (A x y) w'):Code.wp P c Q a w:=
 Code.wp_mono (fun e a' w' h=>by obtain ⟨x,y,rfl,rfl,h⟩:=h;exact h2 x y w' h) h1
def Jn3{α β γ:Type}(A:α->β->γ->Act)(R:α->β->γ->World->Prop)(ex:Exit)(a:Act)(w:World):Prop:=∃ x y z,ex=Exit.normal/\a=A x y z/\R x y z w
theorem j7B{α β γ:Type}{P:Program}{c:Code}{Q:Exit->Act->World->Prop}{a:Act}{w:World}(R:α->β->γ->World->Prop)(A:α->β->γ->Act)(h1:Code.wp P c (Jn3 A R) a w)(h2:∀ x y z w',R x y z w'->Q Exit.normal (A x y z) w'):Code.wp P c Q a w:=
 Code.wp_mono (fun e a' w' h=>by obtain ⟨x,y,z,rfl,rfl,h⟩:=h;exact h2 x y z w' h) h1
structure j8I(P:Nat->Prop)(w0:World)(rc:Cs)(gn:Nat)(ts:Array Value)(w:World):Prop where
 ex:∃ u,ts=csC rc u/\CIn (fun b=>New P w0 0 b/\b≠gn) w rc u
 cat:CAt 63 w gn ts
 bel:Below w0.heap.size w0 w
 le:w0.heap.size<=gn
theorem j0j{P:Nat->Prop}{w0 wx w3:World}{rc:Cs}{u:CsV}{k:Nat}(h:CIn (New (fun b=>P b/\b<w0.heap.size) wx k) w3 rc u)(hx:wx.heap.size=w0.heap.size)(hb:Below w0.heap.size w0 w3):j8I P w0 rc w3.heap.size (csC rc u) ((w3.alloc (.cells Z22 63)).setCells w3.heap.size 0 (csC rc u).toList):=by
 have bS:Below w3.heap.size w3 ((w3.alloc (.cells Z22 63)).setCells w3.heap.size 0 (csC rc u).toList):=z0b (Nat.le_refl _) _ _ _ (znw w3 _);refine ⟨⟨u,rfl,?_⟩,(CAt.new 63 w3 Z22).z0G (by rw[z0u];rfl),zbt hb bS,hb.size⟩
 refine ((h.mono (P':=fun b=>New P w0 0 b/\b≠w3.heap.size) fun b hl hp=>⟨?_,by omega⟩).over bS)
 rcases hp with ⟨hp,_⟩ | hp
 ·exact .inl hp
 ·exact .inr (by omega)
theorem q9Q{P:Nat->Prop}{w0 wx w3:World}{rc:Cs}{u:CsV}{k:Nat}(h:CIn (New (fun b=>P b/\b<w0.heap.size) wx k) w3 rc u)(hx:wx.heap.size=w0.heap.size+1)(hb:Below w0.heap.size w0 w3)(hc:CAt 63 w3 w0.heap.size Z22):j8I P w0 rc w0.heap.size (csC rc u) (w3.setCells w0.heap.size 0 (csC rc u).toList):=by
 refine ⟨⟨u,rfl,?_⟩,hc.z0G (by rw[z0u];rfl),z0b (Nat.le_refl _) _ _ _ hb,Nat.le_refl _⟩
 have h':CIn (fun b=>New P w0 0 b/\b≠w0.heap.size) w3 rc u:=h.mono fun b _ hp=>by
  rcases hp with ⟨hp,_⟩ | hp
  ·exact ⟨.inl hp,by omega⟩
  ·exact ⟨.inr (by omega),by omega⟩
 exact h'.sets (fun e=>e.2 rfl) _ _
theorem j2H{w:World}{g:Nat}{x:Wo}{v:WoV}(h:CAt 98 w g (wdC x v)){i:Nat}(hi:i<2):w.cell? ⟨g,68+i * 14+6+2,none⟩=some (.int .i64 (x.p.L i).out.g):=by
 rw[h.cell]
 match i,hi with
 | 0,_=>rfl
 | 1,_=>rfl
theorem z0Y.q3b{P:Nat->Prop}{w w' w1:World}{g:Nat}{x:Wo}(h:z0Y P w g x w')(_:¬ P g)(he:w1.heap.size=w.heap.size:=by rfl):z0Y (New P w1 0) w g x w':=by
 obtain ⟨v,c,i,a⟩:=h;refine ⟨v,c,i.mono fun b _ hb=>?_,a⟩
 rcases hb with ⟨hb,hl⟩ | hb
 ·exact .inl ⟨.inl ⟨hb,by omega⟩,hl⟩
 ·exact .inr hb
attribute [local go_sem ↓] z1O z1w z5L
theorem q8q(g:Nat)(x:Wo)(v:WoV)(P:Nat->Prop)(w:World)(i:Nat)(hi:i<2)(hC:CAt 98 w g (wdC x v))(hI:WIn P w x v)(hg:¬ P g)(hsz:((x.c i).rp.length+(x.c i).pd.length) * 16<=168884986026393) :
  Calls prog 69 #[.pointer (some ⟨g,0,none⟩),.int .i64 (i:Int)] w (q1g P w g (z5u x i)):=by
 have hD:z5u x i=if (z9F (x.c i) x.ck).2=0 then ({ x with c:=z2Q x.c i (z9F (x.c i) x.ck).1,hc:=q5K x.hc i (z7U (z9F (x.c i) x.ck).1 (x.p.L i).out.g) },0) else (x,(z9F (x.c i) x.ck).2):=by unfold z5u;rfl
 have hlt:=hC.lt;have hi2:(i:Int)<2:=by omega
 have hi0:(0:Int)<=(i:Int):=by omega
 have HEN:=hide (fun (wx:World) (hb:Below w.heap.size w wx)=>j0b (x.c i) (v.c i) (fun b=>P b/\b<w.heap.size) wx x.ck (((hI.c i hi).mono (P':=fun b=>P b/\b<w.heap.size) fun b hl hp=>⟨hp,hl⟩).over hb) hsz);have HLF:=hide (fun (wx:World) (hb:Below w.heap.size w wx)=>(show (z6v (.pointer (some ⟨g,99+i * 22,none⟩))).run prog wx=.ok (.agg (csC (x.c i) (v.c i))) wx/\wx.cell? ⟨g,0,none⟩=some (.int .i64 x.ck) from ⟨j4e ((q0N x v hi (x.c i) (v.c i)).part (hC.over hb)) (z0m _ _),(hC.over hb).cell 0⟩));generalize z5u x i=D at *;generalize z9F (x.c i) x.ck=r at *;obtain ⟨rc,re⟩:=r;dsimp only at hD;have HD:=hide hD;have HC:=hide hC;have HI:=hide hI;clear hD hC hI hsz;generalize Value.agg (csC (x.c i) (v.c i))=V0 at HEN HLF;have HALd:Hid (Below w.heap.size w (w.alloc (.cells Z22 63)).drew):=(znw w _).drew;have HACd:Hid (CAt 63 (w.alloc (.cells Z22 63)).drew w.heap.size Z22):=CAt.new 63 w Z22;unfold Z22 at HALd
 go_enter func69,ntmps69
 go_upto_region 1 with fail
 apply z9G (fun (gn:Nat) (ts:Array Value) w'=>j8I P w rc gn ts w')
 ·skip;refine wp_region_noPanic ?_;refine wp_region_held_drew (S:=fun wx=>Below w.heap.size w wx) (by kernel_rfl) (Below.refl _ _).drew (fun hS=>?_)
  refine Od.G 0 (.pointer (some ⟨g,0,none⟩)) 8 rfl rfl hS ?_;refine Od.G 1 (.int .i64 (i:Int)) 9 rfl rfl hS ?_;refine Od.G 2 (.pointer (some ⟨g,0,none⟩)) 10 rfl rfl hS ?_;refine Od.G 3 (.pointer (some ⟨g,99,none⟩)) 11 rfl rfl hS ?_;refine Od.G 4 (.pointer (some ⟨g,99+i * 22,none⟩)) 12 rfl rfl hS ?_;refine Od.Z 5 V0 13 rfl rfl hS (fun wx hSw=>by obtain ⟨l1,l2⟩:=HLF.out wx hSw;go_simp) ?_
  refine Od.G 6 (.pointer (some ⟨g,0,none⟩)) 14 rfl rfl hS ?_;refine Od.G 7 (.pointer (some ⟨g,0,none⟩)) 15 rfl rfl hS ?_;refine Od.G 8 (.pointer (some ⟨g,0,none⟩)) 16 rfl rfl hS ?_;refine Od.Z 9 (.int .i64 x.ck) 17 rfl rfl hS (fun wx hSw=>by obtain ⟨l1,l2⟩:=HLF.out wx hSw;go_simp) ?_
  refine Od.z3U (i:=10) (j:=14) (by kernel_rfl) rfl rfl rfl rfl (fun K hK=>?_) (fun K hK=>?_)
  ·go_simp
   go_at_call 89
   refine (HEN.out _ (by with_reducible exact (Below.refl w.heap.size w).drew)).mono ?_
   rintro e w3 ⟨u3,rfl,U3,hb3⟩;dsimp only at U3;have hb:=(Below.refl w.heap.size w).drew.trans (hb3.mono (Below.refl w.heap.size w).drew.size);obtain ⟨ts,hts⟩:∃ y:Array Value,y=csC rc u3:=⟨_,rfl⟩;dsimp only;rw[← hts];have HT:=hide hts;clear hts;refine hK _ _ hb ?_;clear hK K;refine Od.Z 11 (.tuple #[.agg ts,(.int .i64 re)]) 7 rfl rfl hb (fun wx hSw=>?_) ?_
   ·go_simp
   refine Od.Z 12 (.agg ts) 19 rfl rfl hb (fun wx hSw=>?_) ?_
   ·go_simp
   refine Od.Z 13 (.int .i64 re) 20 rfl rfl hb (fun wx hSw=>?_) ?_
   ·go_simp
   refine Od.z1b (i:=14) (by kernel_rfl) rfl rfl (fun K hK=>?_)
   go_simp;refine hK _ _ (hb.alloc hb.size _) ?_;clear hK K;have q2:ts.all (fun x=>x.oneCell')=true:=by rw[HT.out];exact z1W U3
   have HST:=j0j U3 (by rfl) hb
   rw[← HT.out]at HST;change wpAnyH _ _ _ _ _ _ _ _ (w3.alloc (.cells Z22 63));refine Od.z0v (i:=15) (by kernel_rfl) rfl rfl 63 _ _ rfl rfl w3.heap.size 0 ts rfl rfl ((CAt.new 63 w3 Z22).there 0 _ (by rw[HT.out];exact Nat.le_of_eq rfl)) (by rw[HT.out,z3j];rfl) q2 HST.bel ?_
   refine Od.Z 16 (.int .i64 re) 6 rfl rfl HST.bel (fun wx hSw=>?_) ?_
   ·go_simp
   refine wpAnyH_done (by kernel_rfl) ?_ _
   obtain ⟨gn,hgn⟩:∃ y,y=w3.heap.size:=⟨_,rfl⟩;rw[← hgn]at HST ⊢;simp only[Od.pp,Od.pb,Od.pc];exact NoPanic.normal ⟨gn,ts,rfl,rfl,HST⟩
  ·go_simp;refine hK _ _ (hS.alloc hS.size _) ?_;clear hK K;refine Od.z1b (i:=10) (by kernel_rfl) rfl rfl (fun K hK=>?_)
   go_simp
   go_at_call 89
   refine (HEN.out _ (by with_reducible exact HALd.out)).mono ?_
   rintro e w3 ⟨u3,rfl,U3,hb3⟩;dsimp only at U3;have hb:=zbt HALd.out hb3;obtain ⟨ts,hts⟩:∃ y:Array Value,y=csC rc u3:=⟨_,rfl⟩;dsimp only;rw[← hts];have HT:=hide hts;clear hts;refine hK _ _ hb ?_;clear hK K;refine Od.Z 11 (.tuple #[.agg ts,(.int .i64 re)]) 7 rfl rfl hb (fun wx hSw=>?_) ?_
   ·go_simp
   refine Od.Z 12 (.agg ts) 19 rfl rfl hb (fun wx hSw=>?_) ?_
   ·go_simp
   refine Od.Z 13 (.int .i64 re) 20 rfl rfl hb (fun wx hSw=>?_) ?_
   ·go_simp
   have q2:ts.all (fun x=>x.oneCell')=true:=by rw[HT.out];exact z1W U3
   have R3:=HACd.out.over hb3;have HST:=q9Q U3 (by simp) hb R3
   rw[← HT.out]at HST;refine Od.z0v (i:=15) (by kernel_rfl) rfl rfl 63 _ _ rfl rfl w.heap.size 0 ts rfl rfl (R3.there 0 _ (by rw[HT.out];exact Nat.le_of_eq rfl)) (by rw[HT.out,z3j];rfl) q2 HST.bel ?_
   refine Od.Z 16 (.int .i64 re) 6 rfl rfl HST.bel (fun wx hSw=>?_) ?_
   ·go_simp
   refine wpAnyH_done (by kernel_rfl) ?_ _
   obtain ⟨gn,hgn⟩:∃ y,y=w.heap.size:=⟨_,rfl⟩;rw[← hgn]at HST ⊢;simp only[Od.pp,Od.pb,Od.pc];exact NoPanic.normal ⟨gn,ts,rfl,rfl,HST⟩
 rintro gn ts w5 S5;have HS5:=hide S5;have hle:=S5.le;have hlt5:=S5.cat.lt;clear S5 HLF HEN HALd HACd;have hgg:g≠gn:=by omega
 simp only[Exit.then];apply_assumption
 by_cases hE:re=0
 case neg =>
  replace HD:=hide (HD.out.trans (if_neg hE));have hE':(re != 0)=true:=by simpa using hE
  go_wp2;go_ret;rw[HD.out];exact ⟨rfl,.same (HC.out.over HS5.out.bel) HI.out hg (Alt.of HS5.out.bel)⟩
 subst hE;replace HD:=hide (HD.out.trans (if_pos rfl))
 go_upto_region 4 with fail
 obtain ⟨u,hu1,hu2⟩:=HS5.out.ex;have hts:ts.size=22:=by rw[hu1];rfl
 have HU:=hide (show _/\_ from ⟨hu1,hu2.over (Below.refl w5.heap.size w5).drew⟩);clear hu1;refine wp_region_held_drew (S:=fun wx=>(z6v (.pointer (some ⟨gn,0,none⟩))).run prog wx=.ok (.agg ts) wx) (by kernel_rfl) (z2O (HS5.out.cat.over (Below.refl w5.heap.size w5).drew) hts) (fun hS=>?_)
 refine Od.G 0 (.pointer (some ⟨g,0,none⟩)) 24 rfl rfl hS ?_;refine Od.G 1 (.int .i64 (i:Int)) 25 rfl rfl hS ?_;refine Od.Z 2 (.agg ts) 26 rfl rfl hS (fun wx hSw=>?_) ?_
 ·(try dsimp only at hSw);have l:=hSw;go_simp
 refine Od.G 3 (.pointer (some ⟨g,0,none⟩)) 27 rfl rfl hS ?_;refine Od.G 4 (.pointer (some ⟨g,99,none⟩)) 28 rfl rfl hS ?_;refine Od.G 5 (.pointer (some ⟨g,99+i * 22,none⟩)) 29 rfl rfl hS ?_;have q1:(Option.map (fun x=>x.size) (prog.info? 63))=some ts.size:=by rw[hts,z3j]
 have q2:ts.all (fun x=>x.oneCell')=true:=by rw[HU.out.1];exact z1W HU.out.2
 have q3:w5.drew.there g (99+i * 22) ts.size:=by rw[HU.out.1];exact by simpa using (q0N x v hi rc u).there ((HC.out.over HS5.out.bel).over (Below.refl w5.heap.size w5).drew)
 have qS:=z2O ((HS5.out.cat.over (Below.refl w5.heap.size w5).drew).others (c:=g) (o:=99+i * 22) (by omega) ts.toList) hts
 simp only[Od.pp,Od.pb,Od.pc];refine Od.z0v (i:=6) (by kernel_rfl) rfl rfl 63 _ _ rfl rfl g (99+i * 22) ts rfl rfl q3 q1 q2 qS ?_
 refine wpAnyH_done (by kernel_rfl) ?_ _
 have Z6:=q1Z HI.out hg (Below.refl _ w) HC.out hlt (HS5.out.bel.trans ((Below.refl w5.heap.size w5).drew.mono HS5.out.bel.size)) hi (HU.out.2.mono (P':=New P w 0) fun b _ hb=>hb.1);rw[← HU.out.1]at Z6;have D6:=(HS5.out.cat.over (Below.refl w5.heap.size w5).drew).others (c:=g) (o:=99+i * 22) (by omega) ts.toList
 clear q1 q2 q3 qS hS;generalize w5.drew.setCells g (99+i * 22) ts.toList=w6 at *;obtain ⟨v6,C6,I6,A6⟩:=Z6;obtain ⟨As,Ds,es,-,-⟩:=z4M hu2.said (z1P rc.out.S) (by decide)
 rw[HU.out.1]at D6;have hlt6:=C6.lt;have hd6:=(Below.refl w6.heap.size w6).drew
 have HS6:w6.drew.cell? ⟨gn,2,none⟩=some (.int .i64 rc.h)/\w6.drew.cell? ⟨gn,3,none⟩=some (.int .i64 rc.t)/\w6.drew.cell? ⟨gn,14,none⟩=some (.slice As rc.out.S.length Ds)/\w6.drew.cell? ⟨g,68+i * 14+6+2,none⟩=some (.int .i64 (x.p.L i).out.g):=
  ⟨(D6.over hd6).cell 2,(D6.over hd6).cell 3,by rw[← es];exact (D6.over hd6).cell 14,j2H (C6.over hd6) hi⟩
 have hA7:=j6O { x with c:=z2Q x.c i rc } v6 hi (z7U rc (x.p.L i).out.g)
 rw[show 147+i * 8=143+i * 8+4 by omega]at hA7
 have HA7:=hide hA7;have D7:=(D6.over hd6).others (c:=g) (o:=143+i * 8+4) (by omega) (hdL (z7U rc (x.p.L i).out.g))
 have C7:=hA7.sets (C6.over hd6)
 have HS7:Hid ((w6.drew.setCells g (143+i * 8+4) (hdL (z7U rc (x.p.L i).out.g))).cell? ⟨gn,2,none⟩=some (.int .i64 rc.h)/\(w6.drew.setCells g (143+i * 8+4) (hdL (z7U rc (x.p.L i).out.g))).cell? ⟨gn,3,none⟩=some (.int .i64 rc.t)/\(w6.drew.setCells g (143+i * 8+4) (hdL (z7U rc (x.p.L i).out.g))).cell? ⟨gn,14,none⟩=some (.slice As rc.out.S.length Ds)/\(w6.drew.setCells g (143+i * 8+4) (hdL (z7U rc (x.p.L i).out.g))).cell? ⟨g,68+i * 14+6+2,none⟩=some (.int .i64 (x.p.L i).out.g)):=
  ⟨D7.cell 2,D7.cell 3,by rw[← es];exact D7.cell 14,j2H C7 hi⟩
 have hng:¬ New P w 0 g:=Pv.z0I hg hlt;have Z7:=j5v (I6.over hd6) hng (C6.over hd6) hA7 rfl rfl;have HX:=hide (z0Y.trans A6 (z0Y.trans (Alt.of (g:=g) hd6) (Z7.q3b hng)));have H6:=hide (show _/\_ from ⟨C6,I6⟩);clear C6 I6 A6 D6 D7 C7 Z7 hA7 hd6 es hu2;go_simp
 go_upto_region 5 with fail
 refine wp_region_held_drew (S:=fun wx=>wx.cell? ⟨gn,2,none⟩=some (.int .i64 rc.h)/\wx.cell? ⟨gn,3,none⟩=some (.int .i64 rc.t)/\wx.cell? ⟨gn,14,none⟩=some (.slice As rc.out.S.length Ds)/\wx.cell? ⟨g,68+i * 14+6+2,none⟩=some (.int .i64 (x.p.L i).out.g)) (by kernel_rfl) HS6 (fun hS=>?_)
 refine Od.G 0 (.pointer (some ⟨g,0,none⟩)) 30 rfl rfl hS ?_;refine Od.G 1 (.int .i64 (i:Int)) 31 rfl rfl hS ?_;refine Od.G 2 (.pointer (some ⟨gn,2,none⟩)) 32 rfl rfl hS ?_;refine Od.Z 3 (.int .i64 rc.h) 33 rfl rfl hS (fun wx hSw=>by obtain ⟨l1,l2,l3,l4⟩:=hSw;go_simp) ?_
 refine Od.G 4 (.pointer (some ⟨gn,3,none⟩)) 34 rfl rfl hS ?_;refine Od.Z 5 (.int .i64 rc.t) 35 rfl rfl hS (fun wx hSw=>by obtain ⟨l1,l2,l3,l4⟩:=hSw;go_simp) ?_
 refine Od.G 6 (.pointer (some ⟨gn,14,none⟩)) 36 rfl rfl hS ?_;refine Od.G 7 (.pointer (some ⟨gn,14,none⟩)) 37 rfl rfl hS ?_;refine Od.Z 8 (.slice As rc.out.S.length Ds) 38 rfl rfl hS (fun wx hSw=>by obtain ⟨l1,l2,l3,l4⟩:=hSw;go_simp) ?_
 refine Od.G 9 (.int .i64 (rc.out.S.length:Int)) 39 rfl rfl hS ?_;refine Od.G 10 (.pointer (some ⟨g,0,none⟩)) 40 rfl rfl hS ?_;refine Od.G 11 (.int .i64 (i:Int)) 41 rfl rfl hS ?_;refine Od.G 12 (.pointer (some ⟨g,0,none⟩)) 42 rfl rfl hS ?_;refine Od.G 13 (.pointer (some ⟨g,2,none⟩)) 43 rfl rfl hS ?_;refine Od.G 14 (.pointer (some ⟨g,68,none⟩)) 44 rfl rfl hS ?_;refine Od.G 15 (.pointer (some ⟨g,68+i * 14,none⟩)) 45 rfl rfl hS ?_;refine Od.G 16 (.pointer (some ⟨g,68+i * 14+6,none⟩)) 46 rfl rfl hS ?_;refine Od.G 17 (.pointer (some ⟨g,68+i * 14+6+2,none⟩)) 47 rfl rfl hS ?_;refine Od.Z 18 (.int .i64 (x.p.L i).out.g) 48 rfl rfl hS (fun wx hSw=>by obtain ⟨l1,l2,l3,l4⟩:=hSw;go_simp) ?_
 refine Od.G 19 (.agg #[.int .i64 rc.h,.int .i64 rc.t,.int .i64 (rc.out.S.length:Int),.int .i64 (x.p.L i).out.g]) 49 rfl rfl hS ?_;refine Od.G 20 (.pointer (some ⟨g,0,none⟩)) 50 rfl rfl hS ?_;refine Od.G 21 (.pointer (some ⟨g,143,none⟩)) 51 rfl rfl hS ?_;refine Od.G 22 (.pointer (some ⟨g,143+i * 8,none⟩)) 52 rfl rfl hS ?_;refine Od.G 23 (.pointer (some ⟨g,143+i * 8+4,none⟩)) 53 rfl rfl hS ?_;have q1:(Option.map (fun x=>x.size) (prog.info? 49))=some (#[.int .i64 rc.h,.int .i64 rc.t,.int .i64 (rc.out.S.length:Int),.int .i64 (x.p.L i).out.g]:Array Value).size:=by rw[q3t];rfl
 have q2:(#[.int .i64 rc.h,.int .i64 rc.t,.int .i64 (rc.out.S.length:Int),.int .i64 (x.p.L i).out.g]:Array Value).all (fun x=>x.oneCell')=true:=by simp[Value.oneCell']
 have q3:w6.drew.there g (143+i * 8+4) (#[.int .i64 rc.h,.int .i64 rc.t,.int .i64 (rc.out.S.length:Int),.int .i64 (x.p.L i).out.g]:Array Value).size:=HA7.out.there (H6.out.1.over (Below.refl w6.heap.size w6).drew);simp only[Od.pp,Od.pb,Od.pc];refine Od.z0v (i:=24) (by kernel_rfl) rfl rfl 49 _ _ rfl rfl g (143+i * 8+4) #[.int .i64 rc.h,.int .i64 rc.t,.int .i64 (rc.out.S.length:Int),.int .i64 (x.p.L i).out.g] rfl rfl q3 q1 q2 HS7.out ?_
 refine wpAnyH_done (by kernel_rfl) ?_ _
 change Exit.then _ _ _ _ (w6.drew.setCells g (143+i * 8+4) (hdL (z7U rc (x.p.L i).out.g)));clear q1 q2 q3 hS HS6 HS7;generalize w6.drew.setCells g (143+i * 8+4) (hdL (z7U rc (x.p.L i).out.g))=w7 at *;go_simp;go_wp2;go_ret;rw[HD.out];exact ⟨rfl,HX.out⟩
end Wd
namespace Pv
open Go.RowKit
structure j7r(P:Nat->Prop)(w wl:World)(lv:Value)(l:List (Int×Pkt))(z:List (Value×Value)):Prop where
 len:z.length=l.length
 own:wl.ownsRow (w.heap.size+1) 85 7 lv l.length (quL l z)
 ins:∀ (i:Nat) (x:Int×Pkt) (y:Value×Value),l[i]?=some x->z[i]?=some y->Rep P w y.1 2 16 (pwC x.2.S)/\Rep P w y.2 1 8 (inC x.2.D)
theorem q2P(w:World)(x:Int×Pkt)(y:Value×Value)(t:TypeId):∀ j u,(akL x y)[j]?=some u->(w.alloc (.cells #[.int .i64 x.1,.int .i64 x.2.k,.int .i64 x.2.i,.int .i64 x.2.v,.int .i64 x.2.n,y.1,y.2] t)).cell? ((⟨w.heap.size,0,none⟩:Addr).add j)=some u:=fun j u hu=>by
 rw[Addr.add_lit,Nat.zero_add];have h:=(CAt.new t w #[.int .i64 x.1,.int .i64 x.2.k,.int .i64 x.2.i,.int .i64 x.2.v,.int .i64 x.2.n,y.1,y.2]).cell j;rw[h]
 simpa [akL] using hu
theorem q3W(z:QS)(a:Int×Pkt):(z1R z a).left.length<=z.left.length+1:=by
 unfold z1R
 split
 ·simp
 ·split
  ·simp
  ·simp
theorem q4a{p:Pr}{c:Nat}{x:Pkt}(h:(z1A p c x).2=false):(z1A p c x).1=p:=by
 unfold z1A at *
 repeat' split at h
 all_goals first | (cases h;done) | skip
 all_goals simp_all
theorem j7F(p:Pr)(c:Nat)(x:Pkt):(z1A p c x).1.q=p.q:=by
 unfold z1A
 repeat' split
 all_goals rfl
theorem z8U:∀ (l:List (Int×Pkt)) (z:QS),(l.foldl z1R z).p.q=z.p.q/\(l.foldl z1R z).left.length<=z.left.length+l.length
 | [],z=>⟨rfl,Nat.le_refl _⟩
 | a :: l,z=>by
  have h:=z8U l (z1R z a);rw[List.foldl_cons];refine ⟨h.1.trans ?_,by have:=q3W z a;rw[List.length_cons];omega⟩
  unfold z1R
  split
  ·rfl
  ·split
   ·exact j7F _ _ _
   ·rfl
structure QuR(Inv:Pr->Prop)(P:Nat->Prop)(w:World)(g:Nat)(s:QS)(lv:Value)(wl:World):Prop where
 st:∃ (v:PrV) (Q:Nat->Prop),CAt 57 wl g (prC s.p v)/\PIn Q wl s.p v/\(∀ b,Q b->New P w 0 b)/\¬ Q g/\¬ Q w.heap.size/\(∀ r,lv.ownBlock=some r->¬ Q r)
 wt:CAt 190 wl w.heap.size #[.bool (s.wt 0),.bool (s.wt 1)]
 lf:∃ z,j7r P w wl lv s.left z
 A:Alt g w wl
 inv:Inv s.p
theorem Alt.past{g:Nat}{w w':World}(h:Alt g w w'){b:Nat}(hb:w.heap.size<=b)(o:Nat)(x:Value):Alt g w (w'.setCell ⟨b,o,none⟩ x):=
 ⟨h.os,h.tape,h.output,(by simp[World.setCell];exact h.size),fun k hk hn=>(Below.heap_setCell _ _ _ _ (show k≠b by omega)).trans (h.block k hk hn)⟩
theorem QuR.wait{Inv:Pr->Prop}{P:Nat->Prop}{w w8 w9:World}{g:Nat}{s:QS}{lv v':Value}{v7:PrV}{Q:Nat->Prop}{z5:List (Value×Value)}{wt':Nat->Bool}{x:Int×Pkt}{y:Value×Value}{ob:Obj}
  (hgw:g<w.heap.size) (C8:CAt 57 w8 g (prC s.p v7)) (P8:PIn Q w8 s.p v7) (hq1:∀ b,Q b->New P w 0 b) (hq2:¬ Q g) (hq3:¬ Q w.heap.size) (hq4:∀ r,lv.ownBlock=some r->¬ Q r) (W8:CAt 190 w8 w.heap.size #[.bool (wt' 0),.bool (wt' 1)])
  (O8:w8.ownsRow (w.heap.size+1) 85 7 lv s.left.length (quL s.left z5)) (hl:z5.length=s.left.length) (hi:∀ (i:Nat) (x:Int×Pkt) (y:Value×Value),s.left[i]?=some x->z5[i]?=some y->Rep P w y.1 2 16 (pwC x.2.S)/\Rep P w y.2 1 8 (inC x.2.D)) (A8:Alt g w w8) (I8:Inv s.p)
  (hin:Rep P w y.1 2 16 (pwC x.2.S)/\Rep P w y.2 1 8 (inC x.2.D)) (ho:w9.ownsRow (w.heap.size+1) 85 7 v' (s.left.length+1) (quL s.left z5 ++ akL x y)) (hg:(w8.alloc ob).grownBy w9 lv.ownBlock) (hat:v'.ownBlock=lv.ownBlock∨v'.ownBlock=some (w8.alloc ob).heap.size) :
  QuR Inv P w g { s with wt:=wt',left:=s.left ++ [x] } v' w9:=by
 have bA:Below w8.heap.size w8 (w8.alloc ob):=znw w8 _;have hsz:=bA.size;have hown:∀ r,lv.ownBlock=some r->w.heap.size+1<=r/\r<w8.heap.size:=fun r e=>World.ownsRow.lt O8 r e;have C9:CAt 57 w9 g (prC s.p v7):=(hg.block g (Nat.lt_of_lt_of_le C8.lt hsz) (fun e=>by have:=(hown g e.symm).1;omega)).trans (C8.over bA)
 have W9:CAt 190 w9 w.heap.size #[.bool (wt' 0),.bool (wt' 1)]:=(hg.block w.heap.size (Nat.lt_of_lt_of_le W8.lt hsz) (fun e=>by have:=(hown _ e.symm).1;omega)).trans (W8.over bA)
 have hne:∀ b,b<w8.heap.size->Q b->some b≠v'.ownBlock:=fun b hb hq e=>by
  rcases hat with h | h
  ·exact hq4 b (by rw[← h,e]) hq
  ·rw[h]at e;cases e;omega
 have P9:PIn (fun b=>Q b/\some b≠v'.ownBlock) w9 s.p v7:=((P8.mono (P':=fun b=>(Q b/\some b≠v'.ownBlock)) fun b hl' hb=>⟨hb,hne b hl' hb⟩).over bA).keep fun b hb hlt=>hg.block b hlt fun e=>hq4 b e.symm hb.1;refine ⟨⟨v7,_,C9,P9,fun b h=>hq1 b h.1,fun h=>hq2 h.1,fun h=>hq3 h.1,fun r e h=>h.2 e.symm⟩,W9,⟨z5 ++ [y],by simp[hl],?_,fun i a b ha hb=>?_⟩,?_,I8⟩
 ·rw[q2b s.left z5 x y hl,List.length_append];exact ho
 ·by_cases h:i<s.left.length
  ·rw[List.getElem?_append_left h]at ha;rw[List.getElem?_append_left (by rw[hl];exact h)]at hb
   exact hi i a b ha hb
  ·rw[List.getElem?_append_right (by omega)]at ha
   rw[List.getElem?_append_right (by rw[hl];omega),hl]at hb
   rcases Nat.eq_zero_or_pos (i - s.left.length) with h0 | h0
   ·rw[h0]at ha hb
    simp at ha hb
    subst ha hb;exact hin
   ·rw[List.getElem?_eq_none (by simp;omega)]at ha
    cases ha
 ·exact ⟨hg.os.trans A8.os,hg.tape.trans A8.tape,hg.output.trans A8.output,Nat.le_trans A8.size (Nat.le_trans hsz hg.size),fun k hk hn=>((hg.block k (by have:=A8.size;omega) (fun e=>by have:=(hown k e.symm).1;omega)).trans (bA.block k (by have:=A8.size;omega))).trans (A8.block k hk hn)⟩
theorem j8k(p:Pr)(v:PrV)(l:List (Int×Pkt))(x:Value):(prC p v).setIfInBounds 96 x=prC { p with q:=l } { v with q:=x }:=rfl
theorem j2L(f:Nat->Bool){m:Nat}(hm:m<2):(#[.bool (f 0),.bool (f 1)]:Array Value).setIfInBounds m (.bool true)=#[.bool ((fun i=>if i=m then true else f i) 0),.bool ((fun i=>if i=m then true else f i) 1)]:=by
 rcases (show m=0∨m=1 by omega) with rfl | rfl <;> rfl
theorem q7v(Inv:Pr->Prop)(g:Nat)(p:Pr)(v:PrV)(P:Nat->Prop)(w:World)(hC:CAt 57 w g (prC p v))(hp:PIn P w p v)(hg:¬ P g)(h0:Inv p)(hq88:p.q.length * 88<=140737488355328)(hq:∀ a∈p.q,0<=a.1/\a.1<2)
  (HDL:∀ a∈p.q,∀ (p':Pr) (v':PrV) (P':Nat->Prop) (wx:World) (y1 y2:Value),Inv p'->CAt 57 wx g (prC p' v')->PIn P' wx p' v'->¬ P' g->Calls prog 114 #[.pointer (some ⟨g,0,none⟩),.agg #[.int .i64 a.1,.int .i64 a.2.k,.int .i64 a.2.i,.int .i64 a.2.v,.int .i64 a.2.n,y1,y2]] wx (z4f wx g P' (z1A p' a.1.toNat a.2)))
  (hI:∀ a∈p.q,∀ p',Inv p'->Inv (z1A p' a.1.toNat a.2).1) :
  Calls prog 83 #[.pointer (some ⟨g,0,none⟩)] w (Turns w g P (z0L p)):=by
 obtain ⟨i0,hi,hz0,hz1,hz2⟩:=info_parts q6d;have hgl:=hC.lt;have hQP:z0L p={ (goQ p).p with q:=(goQ p).left }:=rfl
 have hGO:goQ p=p.q.foldl z1R ⟨p,fun _=>false,[]⟩:=rfl;generalize z0L p=D at *;generalize goQ p=G at *;obtain ⟨z,hzl,hzr,hzi⟩:=id hp.q;obtain ⟨Aq,Cq,eq,sq,-,cq,-⟩:=hzr.open (z2i _ _ hzl) (by decide)
 have HZL:=hide hzl;have HZI:=hide hzi;have HCQ:=hide cq;have hqlen:p.q.length<=1759218604390:=by omega
 have HHQ:=hide hq;have HDD:=hide HDL;have HII:=hide hI;have HQP:=hide hQP;have HGO:=hide hGO;have B0:Below w.heap.size w (w.alloc (.cells #[.bool false,.bool false] 190)):=znw w _;have H0:Hid (QuR Inv P w g ⟨p,fun _=>false,[]⟩ (.slice none 0 0) (w.alloc (.cells #[.bool false,.bool false] 190))):=⟨⟨v,fun b=>P b/\b<w.heap.size,hC.over B0,(hp.mono fun b hl h=>⟨h,hl⟩).over B0,fun b h=>.inl h,fun h=>hg h.1,fun h=>by have:=h.2;omega,fun r e=>by cases e⟩,CAt.new _ _ _,⟨[],rfl,World.ownsRow_nil _ _ _ _,fun i x y h=>by cases h⟩,Alt.of B0,h0⟩
 clear hzl hzi hzr cq hq HDL hI hQP hGO B0 h0 sq
 go_enter func83,ntmps83
 go_upto_region 2 with fail
 have c96:(w.alloc (.cells #[.bool false,.bool false] 190)).cell? ⟨g,96,none⟩=some (.slice Aq p.q.length Cq):=by rw[← eq];exact (hC.alloc _).cell 96
 generalize w.alloc (.cells #[.bool false,.bool false] 190)=w0 at *
 go_upto_region 3 with fail
 clear c96 eq
 go_loopw [3,11] (fun lv i wl=>∃ (k:Nat),k<=p.q.length/\i=.int .i64 (k:Int)/\Hid (QuR Inv P w g ((p.q.take k).foldl z1R ⟨p,fun _=>false,[]⟩) lv wl)) (fun _ i _=>p.q.length - (intOf i).toNat)
 case atStart=>exact ⟨0,Nat.zero_le _,rfl,H0⟩
 case round =>
  obtain ⟨k,hk,rfl,HR⟩:=hrel
  by_cases hlt:k<p.q.length
  ·have hkI:(k:Int)<(p.q.length:Int):=by omega
   have hk0:(0:Int)<=(k:Int):=by omega
   have hx:p.q[k]?=some p.q[k]:=List.getElem?_eq_getElem hlt;have hzk:k<z.length:=by rw[HZL.out];exact hlt
   have hy:z[k]?=some z[k]:=List.getElem?_eq_getElem hzk;have hin:=HZI.out k _ _ hx hy;have hmem:p.q[k]∈p.q:=List.getElem_mem hlt;have hst:(p.q.take (k+1)).foldl z1R ⟨p,fun _=>false,[]⟩=z1R ((p.q.take k).foldl z1R ⟨p,fun _=>false,[]⟩) p.q[k]:=by rw[List.take_succ_eq_append_getElem hlt,List.foldl_append];rfl
   have hll:=(z8U (p.q.take k) ⟨p,fun _=>false,[]⟩).2;rw[List.length_take,Nat.min_eq_left hk]at hll;have HST:=hide hst;have hdl:=HDD.out _ hmem;have hii:=HII.out _ hmem;have hqq:=HHQ.out _ hmem;generalize (p.q.take k).foldl z1R ⟨p,fun _=>false,[]⟩=s at *;have hlen1:s.left.length+1<=p.q.length:=by simp at hll;omega
   obtain ⟨bq,oq,rfl,hPb,hbl,hcell⟩:=HCQ.out (by omega)
   have hbg:bq≠g:=fun e=>hg (e ▸ hPb)
   have hc:∀ j,j<7->∀ u,(akL p.q[k] z[k])[j]?=some u->wr.cell? ⟨bq,oq+k * 7+j,none⟩=some u:=fun j hj u hu=>by
    rw[World.cell?_of_block (w:=w) (a:=⟨bq,oq+k * 7+j,none⟩) (HR.out.A.block bq hbl hbg),Nat.add_assoc];exact hcell _ _ ((z6e p.q z k _ _ j hx hy hj).trans hu)
   have e0:=hc 0 (by omega) _ rfl
   have e1:=hc 1 (by omega) _ rfl
   have e2:=hc 2 (by omega) _ rfl
   have e3:=hc 3 (by omega) _ rfl
   have e4:=hc 4 (by omega) _ rfl
   have e5:=hc 5 (by omega) _ rfl
   have e6:=hc 6 (by omega) _ rfl
   rw[Nat.add_zero]at e0;generalize p.q[k]=x at *;generalize z[k]=y at *;obtain ⟨y1,y2⟩:=y;dsimp only at hin e5 e6;obtain ⟨⟨B1,n1,D1,ey1,-⟩,⟨B2,n2,D2,ey2,-⟩⟩:=id hin;subst ey1 ey2;obtain ⟨x1,x2⟩:=x;dsimp only at hqq hdl hii hin e0 e1 e2 e3 e4;obtain ⟨m,rfl⟩:∃ m:Nat,x1=(m:Int):=⟨x1.toNat,by omega⟩
   have hm2:m<2:=by omega
   have hmI:(m:Int)<2:=by omega
   have hm0:(0:Int)<=(m:Int):=by omega
   rw[Int.toNat_natCast]at hdl hii;have HIN:=hide hin;have HDL1:=hide hdl;have HII1:=hide hii;have bA:Below wr.heap.size wr (wr.alloc (.cells #[.int .i64 (m:Int),.int .i64 x2.k,.int .i64 x2.i,.int .i64 x2.v,.int .i64 x2.n,.slice B1 n1 D1,.slice B2 n2 D2] 85)):=znw wr _;have K5:=CAt.new 85 wr #[.int .i64 (m:Int),.int .i64 x2.k,.int .i64 x2.i,.int .i64 x2.v,.int .i64 x2.n,.slice B1 n1 D1,.slice B2 n2 D2];clear hc hcell hx hy hin hdl hii hst hmem hbl hPb hbg hqq
   go_upto_region 5 with fail
   clear e0 e1 e2 e3 e4 e5 e6;obtain ⟨w5,ew5⟩:∃ w5,w5=wr.alloc (.cells #[.int .i64 (m:Int),.int .i64 x2.k,.int .i64 x2.i,.int .i64 x2.v,.int .i64 x2.n,.slice B1 n1 D1,.slice B2 n2 D2] 85):=⟨_,rfl⟩;rw[← ew5]at K5 bA;rw[← ew5];clear ew5;obtain ⟨⟨v5,Q,C5,P5,hq1,hq2,hq3,hq4⟩,W5,⟨z5,L5⟩,A5,I5⟩:=HR.out;have hzr0:w.heap.size<wr.heap.size:=W5.lt;have C6:=C5.over bA;have P6:=P5.over bA;have W6:=W5.over bA;have A6:=A5.trans (Alt.of bA);have O6:=Ln.z8S L5.own bA;have hz5:=bA.size;have hgw:=hgl;have k0:w5.cell? ⟨wr.heap.size,0,none⟩=some (.int .i64 (m:Int)):=K5.cell 0;have k1:w5.cell? ⟨wr.heap.size,1,none⟩=some (.int .i64 x2.k):=K5.cell 1;have k2:w5.cell? ⟨wr.heap.size,2,none⟩=some (.int .i64 x2.i):=K5.cell 2;have k3:w5.cell? ⟨wr.heap.size,3,none⟩=some (.int .i64 x2.v):=K5.cell 3;have k4:w5.cell? ⟨wr.heap.size,4,none⟩=some (.int .i64 x2.n):=K5.cell 4;have k5:w5.cell? ⟨wr.heap.size,5,none⟩=some (.slice B1 n1 D1):=K5.cell 5;have k6:w5.cell? ⟨wr.heap.size,6,none⟩=some (.slice B2 n2 D2):=K5.cell 6
   have aW:w5.cell? ⟨w.heap.size,m,none⟩=some (.bool (s.wt m)):=by
    rw[W6.cell m]
    rcases (show m=0∨m=1 by omega) with rfl | rfl <;> rfl
   have HDC:=hide (HDL1.out s.p v5 Q w5 (.slice B1 n1 D1) (.slice B2 n2 D2) I5 C6 P6 hq2)
   have hstep:z1R s ((m:Int),x2)=if s.wt m=true then { s with left:=s.left ++ [((m:Int),x2)] } else if (z1A s.p m x2).2=true then { s with p:=(z1A s.p m x2).1 } else { s with wt:=fun i=>if i=m then true else s.wt i,left:=s.left ++ [((m:Int),x2)] }:=by
    unfold z1R;rw[Int.toNat_natCast]
   have HSP:=hide hstep;have HID:=hide (HII1.out s.p I5);have HDF:=hide (fun h=>q4a (p:=s.p) (c:=m) (x:=x2) h);have H6:=hide (show _/\_/\_/\_/\_/\_/\_ from ⟨C6,P6,W6,A6,O6,K5,I5⟩);have HL5:=hide (show _/\_ from ⟨L5.len,L5.ins⟩);have HQS:=hide (show _/\_/\_/\_ from ⟨hq1,hq2,hq3,hq4⟩);clear C5 P5 W5 A5 L5 I5 C6 P6 W6 A6 O6 K5 hq1 hq2 hq3 hq4 hstep HR bA HDL1 HII1;generalize z1A s.p m x2=dl at *;obtain ⟨p',b'⟩:=dl;dsimp only at HSP HID HDF HDC;cases hwt:s.wt m
   ·rw[hwt]at aW;replace HSP:=hide (HSP.out.trans (if_neg (by simp[hwt])))
    cases b'
    ·
     replace HSP:=hide (HSP.out.trans (if_neg (by simp)))
     have e:=HDF.out rfl;subst e
     go_upto_region 6 with (go_at_call 114;refine HDC.out.mono ?_;rintro e w7 ⟨v7,rfl,C7,P7,A7⟩;dsimp only at C7 P7;have HD7:=hide (show _/\_/\_ from ⟨C7,P7,A7⟩);clear C7 P7 A7;dsimp only)
     have hz7:w5.heap.size<=w7.heap.size:=HD7.out.2.2.size
     have HQ7:Hid ((∀ b,New Q w5 0 b->New P w 0 b)/\¬ New Q w5 0 g/\¬ New Q w5 0 w.heap.size/\∀ r,u3.ownBlock=some r->¬ New Q w5 0 r):=by
      obtain ⟨hq1,hq2,hq3,hq4⟩:=HQS.out;refine ⟨fun b h=>?_,z0I hq2 (by omega),z0I hq3 (by omega),fun r e=>z0I (hq4 r e) (by have:=(World.ownsRow.lt H6.out.2.2.2.2.1 r e).2;omega)⟩
      rcases h with ⟨h,_⟩ | h
      ·exact hq1 b h
      ·exact .inr (by omega)
     have HW7:=hide (show _/\_/\_/\_/\_/\_ from ⟨HD7.out.1,HD7.out.2.1,HD7.out.2.2.cat (by omega) H6.out.2.2.1,Ln.z1h H6.out.2.2.2.2.1 fun r e=>HD7.out.2.2.block r (World.ownsRow.lt H6.out.2.2.2.2.1 r e).2 (by have:=(World.ownsRow.lt H6.out.2.2.2.2.1 r e).1;omega),HD7.out.2.2.cat (b:=wr.heap.size) (by omega) H6.out.2.2.2.2.2.1,H6.out.2.2.2.1.trans HD7.out.2.2⟩)
     clear HD7 HDC
     have aW7:w7.cell? ⟨w.heap.size,m,none⟩=some (.bool (s.wt m)):=by
      rw[HW7.out.2.2.1.cell m]
      rcases (show m=0∨m=1 by omega) with rfl | rfl <;> rfl
     have f7:=HW7.out.2.2.1.free m;have j0:w7.cell? ⟨wr.heap.size,0,none⟩=some (.int .i64 (m:Int)):=HW7.out.2.2.2.2.1.cell 0;have hlt7:=HW7.out.2.2.1.lt;have C8:=HW7.out.1.other (c:=w.heap.size) (o:=m) (by omega) (.bool true)
     have P8:=HW7.out.2.1.keep (w':=w7.setCell ⟨w.heap.size,m,none⟩ (.bool true)) fun b hb _=>Below.heap_setCell w7 ⟨w.heap.size,m,none⟩ (.bool true) b (show b≠w.heap.size from fun e=>HQ7.out.2.2.1 (e ▸ hb));have W8:=HW7.out.2.2.1.set m (.bool true);rw[j2L s.wt hm2]at W8;have O8:=Ln.z1h HW7.out.2.2.2.1 (w':=w7.setCell ⟨w.heap.size,m,none⟩ (.bool true)) fun r e=>Below.heap_setCell w7 ⟨w.heap.size,m,none⟩ (.bool true) r (show r≠w.heap.size by have:=(World.ownsRow.lt HW7.out.2.2.2.1 r e).1;omega)
     have K8:=HW7.out.2.2.2.2.1.other (c:=w.heap.size) (o:=m) (by omega) (.bool true)
     have A8:=HW7.out.2.2.2.2.2.past (b:=w.heap.size) (Nat.le_refl _) m (.bool true);have H8:=hide (show _/\_/\_/\_/\_/\_ from ⟨C8,P8,W8,O8,K8,A8⟩);clear C8 P8 W8 O8 K8 A8 k0 k1 k2 k3 k4 k5 k6 aW
     go_upto_region 7 with fail
     clear aW7 f7 j0 hlt7;generalize w7.setCell ⟨w.heap.size,m,none⟩ (.bool true)=w8 at *;have k0:w8.cell? ⟨wr.heap.size,0,none⟩=some (.int .i64 (m:Int)):=H8.out.2.2.2.2.1.cell 0;have k1:w8.cell? ⟨wr.heap.size,1,none⟩=some (.int .i64 x2.k):=H8.out.2.2.2.2.1.cell 1;have k2:w8.cell? ⟨wr.heap.size,2,none⟩=some (.int .i64 x2.i):=H8.out.2.2.2.2.1.cell 2;have k3:w8.cell? ⟨wr.heap.size,3,none⟩=some (.int .i64 x2.v):=H8.out.2.2.2.2.1.cell 3;have k4:w8.cell? ⟨wr.heap.size,4,none⟩=some (.int .i64 x2.n):=H8.out.2.2.2.2.1.cell 4;have k5:w8.cell? ⟨wr.heap.size,5,none⟩=some (.slice B1 n1 D1):=H8.out.2.2.2.2.1.cell 5;have k6:w8.cell? ⟨wr.heap.size,6,none⟩=some (.slice B2 n2 D2):=H8.out.2.2.2.2.1.cell 6;have hw8:w.heap.size<w8.heap.size:=H8.out.2.2.1.lt;have ho8:=World.ownsRow.alloc H8.out.2.2.2.1 (.cells #[.int .i64 (m:Int),.int .i64 x2.k,.int .i64 x2.i,.int .i64 x2.v,.int .i64 x2.n,.slice B1 n1 D1,.slice B2 n2 D2] 85);have HO8:=hide ho8;clear ho8
     go_upto_region 8 with (at_builtin;refine wpList_append_own_at _ rfl _ _ 55 rfl (w.heap.size+1) 85 i0 (.agg #[.int .i64 0,.int .i64 0,.int .i64 0,.int .i64 0,.int .i64 0,.slice none 0 0,.slice none 0 0]) 7 88 underlying55 hi hz0 hz1 hz2 rfl (by decide) _ _ _ rfl HO8.out ⟨w8.heap.size,0,none⟩ 1 1 (akL ((m:Int),x2) (.slice B1 n1 D1,.slice B2 n2 D2)) rfl rfl (q2P w8 ((m:Int),x2) (.slice B1 n1 D1,.slice B2 n2 D2) 85) (by intro u hu;simp[akL]at hu;rcases hu with rfl | rfl | rfl | rfl | rfl | rfl | rfl <;> rfl) (by unfold maxLen;omega) (by omega) (by simp;omega) ?_;intro v9 w9 hown' hgrow _ hat;have HW9:=hide (show _/\_/\_ from ⟨hown',hgrow,hat⟩);clear hown' hgrow hat)
     have HN:Hid (QuR Inv P w g { s with wt:=fun i=>if i=m then true else s.wt i,left:=s.left ++ [((m:Int),x2)] } v9 w9):=QuR.wait hgw H8.out.1 H8.out.2.1 HQ7.out.1 HQ7.out.2.1 HQ7.out.2.2.1 HQ7.out.2.2.2 H8.out.2.2.1 H8.out.2.2.2.1 HL5.out.1 HL5.out.2 H8.out.2.2.2.2.2 H6.out.2.2.2.2.2.2 HIN.out HW9.out.1 HW9.out.2.1 HW9.out.2.2
     clear k0 k1 k2 k3 k4 k5 k6;go_wp2
     first | exact ⟨⟨k+1,by omega,by go_num,by rw[HST.out,HSP.out];exact HN.out⟩,by simp[intOf];omega⟩ | ((repeat apply Exists.intro);exact ⟨⟨k+1,by omega,by go_num,by rw[HST.out,HSP.out];exact HN.out⟩,rfl⟩)
    ·replace HSP:=hide (HSP.out.trans (if_pos rfl))
     go_upto_region 8 with (go_at_call 114;refine HDC.out.mono ?_;rintro e w7 ⟨v7,rfl,C7,P7,A7⟩;dsimp only at C7 P7;have HW7:=hide (show _/\_/\_ from ⟨C7,P7,A7⟩);clear C7 P7 A7;dsimp only)
     clear k0 k1 k2 k3 k4 k5 k6 aW
     have HN:Hid (QuR Inv P w g { s with p:=p' } u3 w7):=by
      obtain ⟨C7,P7,A7⟩:=HW7.out;obtain ⟨hq1,hq2,hq3,hq4⟩:=HQS.out;refine ⟨⟨v7,New Q w5 0,C7,P7,fun b h=>?_,z0I hq2 (by omega),z0I hq3 (by omega),fun r e=>z0I (hq4 r e) (by have:=(World.ownsRow.lt H6.out.2.2.2.2.1 r e).2;omega)⟩,A7.cat (by omega) H6.out.2.2.1,⟨z5,HL5.out.1,Ln.z1h H6.out.2.2.2.2.1 fun r e=>A7.block r (World.ownsRow.lt H6.out.2.2.2.2.1 r e).2 (by have:=(World.ownsRow.lt H6.out.2.2.2.2.1 r e).1;omega),HL5.out.2⟩,H6.out.2.2.2.1.trans A7,HID.out⟩
      rcases h with ⟨h,_⟩ | h
      ·exact hq1 b h
      ·exact .inr (by omega)
     go_wp2
     first | exact ⟨⟨k+1,by omega,by go_num,by rw[HST.out,HSP.out];exact HN.out⟩,by simp[intOf];omega⟩ | ((repeat apply Exists.intro);exact ⟨⟨k+1,by omega,by go_num,by rw[HST.out,HSP.out];exact HN.out⟩,rfl⟩)
   ·have hwt':(fun i=>if i=m then true else s.wt i)=s.wt:=funext fun i=>by
     by_cases e:i=m
     ·rw[if_pos e,e,hwt]
     ·rw[if_neg e]
    rw[hwt]at aW;replace HSP:=hide ((HSP.out.trans (if_pos hwt)).trans (by rw[hwt']:_=({ s with wt:=fun i=>if i=m then true else s.wt i,left:=s.left ++ [((m:Int),x2)] }:QS)))
    clear hwt'
    go_upto_region 6 with fail
    obtain ⟨w7,ew7⟩:∃ w7,w7=w5:=⟨_,rfl⟩;have HQ7:=HQS;have HW7:Hid (CAt 57 w7 g (prC s.p v5)/\PIn Q w7 s.p v5/\CAt 190 w7 w.heap.size #[.bool (s.wt 0),.bool (s.wt 1)]/\w7.ownsRow (w.heap.size+1) 85 7 u3 s.left.length (quL s.left z5)/\CAt 85 w7 wr.heap.size #[.int .i64 (m:Int),.int .i64 x2.k,.int .i64 x2.i,.int .i64 x2.v,.int .i64 x2.n,.slice B1 n1 D1,.slice B2 n2 D2]/\Alt g w w7):=by rw[ew7];exact ⟨H6.out.1,H6.out.2.1,H6.out.2.2.1,H6.out.2.2.2.2.1,H6.out.2.2.2.2.2.1,H6.out.2.2.2.1⟩
    rw[← ew7];clear ew7 HDC
    have aW7:w7.cell? ⟨w.heap.size,m,none⟩=some (.bool (s.wt m)):=by
     rw[HW7.out.2.2.1.cell m]
     rcases (show m=0∨m=1 by omega) with rfl | rfl <;> rfl
    have f7:=HW7.out.2.2.1.free m;have j0:w7.cell? ⟨wr.heap.size,0,none⟩=some (.int .i64 (m:Int)):=HW7.out.2.2.2.2.1.cell 0;have hlt7:=HW7.out.2.2.1.lt;have C8:=HW7.out.1.other (c:=w.heap.size) (o:=m) (by omega) (.bool true)
    have P8:=HW7.out.2.1.keep (w':=w7.setCell ⟨w.heap.size,m,none⟩ (.bool true)) fun b hb _=>Below.heap_setCell w7 ⟨w.heap.size,m,none⟩ (.bool true) b (show b≠w.heap.size from fun e=>HQ7.out.2.2.1 (e ▸ hb));have W8:=HW7.out.2.2.1.set m (.bool true);rw[j2L s.wt hm2]at W8;have O8:=Ln.z1h HW7.out.2.2.2.1 (w':=w7.setCell ⟨w.heap.size,m,none⟩ (.bool true)) fun r e=>Below.heap_setCell w7 ⟨w.heap.size,m,none⟩ (.bool true) r (show r≠w.heap.size by have:=(World.ownsRow.lt HW7.out.2.2.2.1 r e).1;omega)
    have K8:=HW7.out.2.2.2.2.1.other (c:=w.heap.size) (o:=m) (by omega) (.bool true)
    have A8:=HW7.out.2.2.2.2.2.past (b:=w.heap.size) (Nat.le_refl _) m (.bool true);have H8:=hide (show _/\_/\_/\_/\_/\_ from ⟨C8,P8,W8,O8,K8,A8⟩);clear C8 P8 W8 O8 K8 A8 k0 k1 k2 k3 k4 k5 k6 aW
    go_upto_region 7 with fail
    clear aW7 f7 j0 hlt7;generalize w7.setCell ⟨w.heap.size,m,none⟩ (.bool true)=w8 at *;have k0:w8.cell? ⟨wr.heap.size,0,none⟩=some (.int .i64 (m:Int)):=H8.out.2.2.2.2.1.cell 0;have k1:w8.cell? ⟨wr.heap.size,1,none⟩=some (.int .i64 x2.k):=H8.out.2.2.2.2.1.cell 1;have k2:w8.cell? ⟨wr.heap.size,2,none⟩=some (.int .i64 x2.i):=H8.out.2.2.2.2.1.cell 2;have k3:w8.cell? ⟨wr.heap.size,3,none⟩=some (.int .i64 x2.v):=H8.out.2.2.2.2.1.cell 3;have k4:w8.cell? ⟨wr.heap.size,4,none⟩=some (.int .i64 x2.n):=H8.out.2.2.2.2.1.cell 4;have k5:w8.cell? ⟨wr.heap.size,5,none⟩=some (.slice B1 n1 D1):=H8.out.2.2.2.2.1.cell 5;have k6:w8.cell? ⟨wr.heap.size,6,none⟩=some (.slice B2 n2 D2):=H8.out.2.2.2.2.1.cell 6;have hw8:w.heap.size<w8.heap.size:=H8.out.2.2.1.lt;have ho8:=World.ownsRow.alloc H8.out.2.2.2.1 (.cells #[.int .i64 (m:Int),.int .i64 x2.k,.int .i64 x2.i,.int .i64 x2.v,.int .i64 x2.n,.slice B1 n1 D1,.slice B2 n2 D2] 85);have HO8:=hide ho8;clear ho8
    go_upto_region 8 with (at_builtin;refine wpList_append_own_at _ rfl _ _ 55 rfl (w.heap.size+1) 85 i0 (.agg #[.int .i64 0,.int .i64 0,.int .i64 0,.int .i64 0,.int .i64 0,.slice none 0 0,.slice none 0 0]) 7 88 underlying55 hi hz0 hz1 hz2 rfl (by decide) _ _ _ rfl HO8.out ⟨w8.heap.size,0,none⟩ 1 1 (akL ((m:Int),x2) (.slice B1 n1 D1,.slice B2 n2 D2)) rfl rfl (q2P w8 ((m:Int),x2) (.slice B1 n1 D1,.slice B2 n2 D2) 85) (by intro u hu;simp[akL]at hu;rcases hu with rfl | rfl | rfl | rfl | rfl | rfl | rfl <;> rfl) (by unfold maxLen;omega) (by omega) (by simp;omega) ?_;intro v9 w9 hown' hgrow _ hat;have HW9:=hide (show _/\_/\_ from ⟨hown',hgrow,hat⟩);clear hown' hgrow hat)
    have HN:Hid (QuR Inv P w g { s with wt:=fun i=>if i=m then true else s.wt i,left:=s.left ++ [((m:Int),x2)] } v9 w9):=QuR.wait hgw H8.out.1 H8.out.2.1 HQ7.out.1 HQ7.out.2.1 HQ7.out.2.2.1 HQ7.out.2.2.2 H8.out.2.2.1 H8.out.2.2.2.1 HL5.out.1 HL5.out.2 H8.out.2.2.2.2.2 H6.out.2.2.2.2.2.2 HIN.out HW9.out.1 HW9.out.2.1 HW9.out.2.2
    clear k0 k1 k2 k3 k4 k5 k6;go_wp2
    first | exact ⟨⟨k+1,by omega,by go_num,by rw[HST.out,HSP.out];exact HN.out⟩,by simp[intOf];omega⟩ | ((repeat apply Exists.intro);exact ⟨⟨k+1,by omega,by go_num,by rw[HST.out,HSP.out];exact HN.out⟩,rfl⟩)
  ·obtain rfl:k=p.q.length:=by omega
   rw[List.take_length,← HGO.out]at HR;have hql:=(z8U p.q ⟨p,fun _=>false,[]⟩).2;rw[← HGO.out]at hql;have hql':G.left.length<=p.q.length:=by simpa using hql
   have HQL:=hide hql';clear hql hql';obtain ⟨⟨v5,Q,C5,P5,hq1,hq2,hq3,hq4⟩,W5,⟨z5,L5⟩,A5,I5⟩:=HR.out;obtain ⟨Al,Cl,el⟩:=Ln.z3h L5.own;subst el;have c96:wr.cell? ⟨g,96,none⟩=some v5.q:=C5.cell 96;have f96:=C5.free 96;have hlt5:=C5.lt;have C6:=C5.set 96 (.slice Al G.left.length Cl);rw[j8k G.p v5 G.left]at C6;have A6:=A5.set 96 (.slice Al G.left.length Cl);have k6:∀ b,b≠g->(wr.setCell ⟨g,96,none⟩ (.slice Al G.left.length Cl)).heap[b]?=wr.heap[b]?:=fun b hb=>Below.heap_setCell wr ⟨g,96,none⟩ _ b hb
   have N6:PIn (New P w 0) (wr.setCell ⟨g,96,none⟩ (.slice Al G.left.length Cl)) { G.p with q:=G.left } { v5 with q:=.slice Al G.left.length Cl }:=by
    have n5:=(P5.keep (w':=wr.setCell ⟨g,96,none⟩ (.slice Al G.left.length Cl)) fun b hb _=>k6 b fun e=>hq2 (e ▸ hb)).mono (P':=New P w 0) fun b _ hb=>hq1 b hb;refine ⟨n5.ws,n5.set,n5.lk,⟨z5,L5.len,?_,fun i x y hx hy=>?_⟩⟩
    ·have o6:=Ln.z1h L5.own (w':=wr.setCell ⟨g,96,none⟩ (.slice Al G.left.length Cl)) fun r e=>k6 r (by have:=(World.ownsRow.lt L5.own r e).1;omega)
     exact (Rep.own (bts:=80) o6 (by have:=HQL.out;omega)).mono fun b _ hb=>.inr (by omega)
    ·have h2:=L5.ins i x y hx hy;have key:∀ {u:Value} {sz bts:Nat} {cs:List Value},Rep P w u sz bts cs->Rep (New P w 0) (wr.setCell ⟨g,96,none⟩ (.slice Al G.left.length Cl)) u sz bts cs:=fun h=>(A6.rep (P:=fun b=>P b/\b<w.heap.size) (fun h=>hg h.1) (h.mono fun b hl hb=>⟨hb,hl⟩)).mono fun b _ hb=>.inl hb;exact ⟨key h2.1,key h2.2⟩
   have HZ:=hide (show _/\_/\_ from ⟨C6,N6,A6⟩);have HQP':=HQP;clear C5 P5 hq1 hq2 hq3 hq4 W5 L5 A5 I5 C6 A6 k6 N6 HR;go_wp2;go_end0;rw[HQP'.out];exact ⟨_,rfl,HZ.out.1,HZ.out.2.1,HZ.out.2.2⟩
end Pv
end Go.Proofs.YtmopekkhmhhcaaaGreat
