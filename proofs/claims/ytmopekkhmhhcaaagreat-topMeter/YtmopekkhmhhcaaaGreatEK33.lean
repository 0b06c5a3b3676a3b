/- Parts of the proof. -/
import Derived.Test.YtmopekkhmhhcaaaGreatEL
import Derived.Test.YtmopekkhmhhcaaaGreatEK16
set_option maxRecDepth 100000
set_option maxHeartbeats 16000000
namespace Go.Proofs.YtmopekkhmhhcaaaGreat
open Go.Proofs.Tryz
namespace Wd
open Go.RowKit Pv Kc
theorem j5X(l:List ByteArray):∀ u∈txC l,u.oneCell'=true:=fun u hu=>by
 obtain ⟨x,_,rfl⟩:=List.mem_map.1 hu;rfl
theorem q6V(l:List Int):∀ u∈inC l,u.oneCell'=true:=fun u hu=>by
 obtain ⟨x,_,rfl⟩:=List.mem_map.1 hu;rfl
attribute [local go_sem ↓] z2I z2h
theorem z8L(l:Ln.Line)(v1 v2:Value)(P:Nat->Prop)(w:World)(h1:z0D P w v1 1 16 (txC l.S))(h2:z0D P w v2 1 8 (inC l.D)) :
  Calls prog 43 #[.agg #[v1,v2,.int .i64 l.g,.bool l.cl]] w fun e w'=>∃ u1 u2,e=.returned (.agg #[u1,u2,.int .i64 l.g,.bool l.cl])/\z0D (fun b=>w.heap.size+2<=b) w' u1 1 16 (txC l.S)/\z0D (fun b=>w.heap.size+2<=b) w' u2 1 8 (inC l.D)/\Below w.heap.size w w':=by
 obtain ⟨A1,C1,rfl,R1,hb1⟩:=z4M h1 (z1P l.S) (by decide)
 obtain ⟨A2,C2,rfl,R2,hb2⟩:=z4M h2 (z0n l.D) (by decide)
 have HT:=hide (fun (wx:World) (hb:Below w.heap.size w wx)=>q4k A1 l.S.length C1 (txC l.S) wx (by obtain ⟨B,D,e,R,-⟩:=z4M (h1.over hb) (z1P l.S) (by decide);cases e;exact R) (j5X _) hb1)
 have HI:=hide (fun (wx:World) (hb:Below w.heap.size w wx)=>z5P A2 l.D.length C2 (inC l.D) wx (by obtain ⟨B,D,e,R,-⟩:=z4M (h2.over hb) (z0n l.D) (by decide);cases e;exact R) (q6V _) hb2)
 clear h1 h2 R1 R2 hb1 hb2;generalize l.g=lg at *;generalize l.cl=lc at *;have K0:=(CAt.new 47 w #[.slice A1 l.S.length C1,.slice A2 l.D.length C2,.int .i64 lg,.bool lc]).alloc (.cells Z4' 47);have R0:=CAt.new2 47 w (.cells #[.slice A1 l.S.length C1,.slice A2 l.D.length C2,.int .i64 lg,.bool lc] 47) Z4';have b0:Below w.heap.size w ((w.alloc (.cells #[.slice A1 l.S.length C1,.slice A2 l.D.length C2,.int .i64 lg,.bool lc] 47)).alloc (.cells Z4' 47)):=(znw w _).alloc (by simp) _
 go_enter func43,ntmps43
 go_upto_region 1 with fail
 change Code.wp prog _ _ _ ((w.alloc (.cells #[.slice A1 l.S.length C1,.slice A2 l.D.length C2,.int .i64 lg,.bool lc] 47)).alloc (.cells Z4' 47));generalize (w.alloc (.cells #[.slice A1 l.S.length C1,.slice A2 l.D.length C2,.int .i64 lg,.bool lc] 47)).alloc (.cells Z4' 47)=w0 at *;have a0:w0.cell? ⟨w.heap.size,0,none⟩=some (.slice A1 l.S.length C1):=K0.cell 0;have HX:=hide (show _/\_/\_ from ⟨K0,R0,b0⟩);have hz0:=R0.lt;clear K0 R0 b0
 go_upto_region 2 with (go_at_call 61;refine (HT.out _ HX.out.2.2).mono ?_;rintro e w1 ⟨B1,D1,rfl,U1,hb1⟩;have K1:=HX.out.1.over hb1;have f1:=K1.free 0;have y1:w1.cell? ⟨w.heap.size,0,none⟩=some (.slice A1 l.S.length C1):=K1.cell 0;have hz1:=K1.lt;have HU1:=hide (show _/\_ from ⟨U1,hb1⟩);clear a0 U1 hb1)
 have K2:=K1.set 0 (.slice B1 l.S.length D1);have R2:=((HX.out.2.1.over HU1.out.2).other (c:=w.heap.size) (o:=0) (by omega) (.slice B1 l.S.length D1))
 have B1':=zbt HX.out.2.2 HU1.out.2;have b2:=B1'.setCell (p:=⟨w.heap.size,0,none⟩) (Nat.le_refl _) (.slice B1 l.S.length D1);have U2:=HU1.out.1.sets (g:=w.heap.size) (fun h=>by omega) 0 [.slice B1 l.S.length D1]
 change Rep _ (w1.setCell ⟨w.heap.size,0,none⟩ (.slice B1 l.S.length D1)) _ _ _ _ at U2;clear y1 f1 K1 HX;generalize w1.setCell ⟨w.heap.size,0,none⟩ (.slice B1 l.S.length D1)=w2 at *;have a2:w2.cell? ⟨w.heap.size,1,none⟩=some (.slice A2 l.D.length C2):=K2.cell 1;have HX:=hide (show _/\_/\_/\_ from ⟨K2,R2,b2,U2⟩);have hz2:=R2.lt;have hs0:w.heap.size+2<=w0.heap.size:=hz0;clear K2 R2 b2 U2 B1' HU1
 go_upto_region 3 with (go_at_call 42;refine (HI.out _ HX.out.2.2.1).mono ?_;rintro e w3 ⟨B3,D3,rfl,U3,hb3⟩;have K3:=HX.out.1.over hb3;have f3:=K3.free 1;have y3:w3.cell? ⟨w.heap.size,1,none⟩=some (.slice A2 l.D.length C2):=K3.cell 1;have hz3:=K3.lt;have HU3:=hide (show _/\_ from ⟨U3,hb3⟩);clear a2 U3 hb3)
 have K4:=K3.set 1 (.slice B3 l.D.length D3);have R4:=((HX.out.2.1.over HU3.out.2).other (c:=w.heap.size) (o:=1) (by omega) (.slice B3 l.D.length D3))
 have b4:=(zbt HX.out.2.2.1 HU3.out.2).setCell (p:=⟨w.heap.size,1,none⟩) (Nat.le_refl _) (.slice B3 l.D.length D3);have U4:=HU3.out.1.sets (g:=w.heap.size) (fun h=>by omega) 1 [.slice B3 l.D.length D3]
 have V4:=((HX.out.2.2.2.over HU3.out.2).sets (g:=w.heap.size) (fun h=>by omega) 1 [.slice B3 l.D.length D3])
 change Rep _ (w3.setCell ⟨w.heap.size,1,none⟩ (.slice B3 l.D.length D3)) _ _ _ _ at U4;change Rep _ (w3.setCell ⟨w.heap.size,1,none⟩ (.slice B3 l.D.length D3)) _ _ _ _ at V4;clear y3 f3 K3;generalize w3.setCell ⟨w.heap.size,1,none⟩ (.slice B3 l.D.length D3)=w4 at *;have hz4:=R4.lt;have s0:w.heap.size+2<=w2.heap.size:=hz2;have K4':CAt 47 w4 w.heap.size #[.slice B1 l.S.length D1,.slice B3 l.D.length D3,.int .i64 lg,.bool lc]:=K4;have l4:=z6A K4'.range rfl;have s4:=q1y (w:=w4) (g:=w.heap.size+1) (o:=0) (cs:=[.slice B1 l.S.length D1,.slice B3 l.D.length D3,.int .i64 lg,.bool lc]) (R4.there 0 _ (Nat.le_refl _)) rfl (by simp[Value.oneCell'])
 have R5:CAt 47 (w4.setCells (w.heap.size+1) 0 [.slice B1 l.S.length D1,.slice B3 l.D.length D3,.int .i64 lg,.bool lc]) (w.heap.size+1) #[.slice B1 l.S.length D1,.slice B3 l.D.length D3,.int .i64 lg,.bool lc]:=R4.z0G (ds:=#[.slice B1 l.S.length D1,.slice B3 l.D.length D3,.int .i64 lg,.bool lc]) rfl;have b5:=z0b (b:=w.heap.size+1) (Nat.le_succ _) [.slice B1 l.S.length D1,.slice B3 l.D.length D3,.int .i64 lg,.bool lc] 0 _ b4;have U5:=U4.sets (g:=w.heap.size+1) (fun h=>by omega) 0 [.slice B1 l.S.length D1,.slice B3 l.D.length D3,.int .i64 lg,.bool lc]
 have V5:=V4.sets (g:=w.heap.size+1) (fun h=>by omega) 0 [.slice B1 l.S.length D1,.slice B3 l.D.length D3,.int .i64 lg,.bool lc]
 have HZ:=hide (show _/\_/\_/\_ from ⟨R5,b5,(U5.mono (P':=fun b=>w.heap.size+2<=b) fun b _ hb=>by omega).c,(V5.mono (P':=fun b=>w.heap.size+2<=b) fun b _ hb=>by omega).c⟩)
 change (z2x (.pointer (some ⟨w.heap.size,0,none⟩))).run prog w4=.ok (.agg #[.slice B1 l.S.length D1,.slice B3 l.D.length D3,.int .i64 lg,.bool lc]) w4 at l4;change (z3q (.pointer (some ⟨w.heap.size+1,0,none⟩)) (.agg #[.slice B1 l.S.length D1,.slice B3 l.D.length D3,.int .i64 lg,.bool lc])).run prog w4=_ at s4;generalize w4.setCells (w.heap.size+1) 0 [.slice B1 l.S.length D1,.slice B3 l.D.length D3,.int .i64 lg,.bool lc]=w5 at *;clear K4 K4' R4 b4 U4 V4 R5 b5 U5 V5 HX HU3;go_wp2;exact bodyPost_ret (v:=.agg #[.slice B1 l.S.length D1,.slice B3 l.D.length D3,.int .i64 lg,.bool lc]) (results_cell_row results43 _ _ (w.heap.size+1) 47 _ (0,0) _ rfl HZ.out.1 underlying47 rfl (by kernel_rfl)) rfl ⟨_,_,rfl,HZ.out.2.2.2,HZ.out.2.2.1,HZ.out.2.1⟩
theorem z7m(g o:Nat)(ty:TypeId)(cs:Array Value)(S:List (Int×Int))(Dl:List Int)(v1 v2:Value)(P:Nat->Prop)(w:World)(hC:CAt ty w g cs)(c4:cs[o+4]?=some v1)(c5:cs[o+5]?=some v2)(h1:Rep P w v1 2 16 (pwC S))(h2:Rep P w v2 1 8 (inC Dl))(hg:¬ P g) :
  Calls prog 45 #[.pointer (some ⟨g,o,none⟩)] w fun e w'=>∃ u1 u2,e=.returned (.tuple #[])/\CAt ty w' g ((cs.setIfInBounds (o+4) u1).setIfInBounds (o+5) u2)/\Rep (fun b=>w.heap.size<=b) w' u1 2 16 (pwC S)/\Rep (fun b=>w.heap.size<=b) w' u2 1 8 (inC Dl)/\Alt g w w':=by
 obtain ⟨A1,C1,rfl,R1,hb1⟩:=row_of h1 (z0c S) (by decide)
 obtain ⟨A2,C2,rfl,R2,hb2⟩:=row_of h2 (z0n Dl) (by decide)
 have HP:=hide (z4z A1 S.length C1 (pwC S) w R1 (z5R _) hb1);have HI:=hide (fun (wx:World) (ha:Alt g w wx)=>z5P A2 Dl.length C2 (inC Dl) wx (by obtain ⟨B,D,e,R,-⟩:=row_of (ha.rep hg h2) (z0n Dl) (by decide);cases e;exact R) (q6V _) hb2)
 have hlt:=hC.lt;have a4:w.cell? ⟨g,o+4,none⟩=some (.slice A1 S.length C1):=(hC.cell _).trans c4;have HC:=hide hC;have h5:o+5<cs.size:=(Array.getElem?_eq_some_iff.1 c5).1;have H5:=hide c5;clear h1 h2 R1 R2 hb1 hb2 hC c4 c5
 go_enter func45,ntmps45
 go_upto_region 1 with (go_at_call 41;refine HP.out.mono ?_;rintro e w1 ⟨B1,D1,rfl,U1,hb1⟩;have K1:=HC.out.over hb1;have f1:=K1.free (o+4);have y1:w1.cell? ⟨g,o+4,none⟩=some (.slice A1 S.length C1):=(by have:=hb1.cell (p:=⟨g,o+4,none⟩) hlt;rw[this];exact a4);have hz1:=K1.lt;have HU1:=hide (show _/\_ from ⟨U1,hb1⟩);clear U1 hb1)
 have K2:=K1.set (o+4) (.slice B1 S.length D1);have A2':Alt g w (w1.setCell ⟨g,o+4,none⟩ (.slice B1 S.length D1)):=(Alt.of (g:=g) HU1.out.2).set _ _;have U2:=((Alt.refl g w1).set (o+4) (.slice B1 S.length D1)).rep (P:=fun b=>w.heap.size<=b) (fun h=>by omega) HU1.out.1
 clear y1 f1 a4 K1;generalize w1.setCell ⟨g,o+4,none⟩ (.slice B1 S.length D1)=w2 at *;have a5:w2.cell? ⟨g,o+5,none⟩=some (.slice A2 Dl.length C2):=by rw[K2.cell,Array.getElem?_setIfInBounds_ne (by omega)];exact H5.out
 have hz2:=K2.lt;have HX:=hide (show _/\_/\_ from ⟨K2,A2',U2⟩);clear K2 A2' U2 HU1
 go_wp2_with (go_at_call 42;refine (HI.out _ HX.out.2.1).mono ?_;rintro e w3 ⟨B3,D3,rfl,U3,hb3⟩;have K3:=HX.out.1.over hb3;have f3:=K3.free (o+5);have y3:w3.cell? ⟨g,o+5,none⟩=some (.slice A2 Dl.length C2):=(by have:=hb3.cell (p:=⟨g,o+5,none⟩) hz2;rw[this];exact a5);have hz3:=K3.lt;have HU3:=hide (show _/\_ from ⟨U3,hb3⟩);clear U3 hb3)
 go_end0;have ha:=HX.out.2.1.size;refine ⟨_,_,rfl,K3.set (o+5) (.slice B3 Dl.length D3),?_,?_,HX.out.2.1.trans ((Alt.of (g:=g) HU3.out.2).set _ _)⟩
 ·exact ((Alt.of (g:=g) HU3.out.2).set (o+5) (.slice B3 Dl.length D3)).rep (P:=fun b=>w.heap.size<=b) (fun h=>by omega) HX.out.2.2
 ·exact (((Alt.refl g w3).set (o+5) (.slice B3 Dl.length D3)).rep (P:=fun b=>w2.heap.size<=b) (fun h=>by omega) HU3.out.1).mono fun b _ hb=>by omega
end Wd
namespace Wd
open Go.RowKit Pv Kc
theorem q3X(A:Option Addr)(n C:Nat)(cs:List Value)(w:World)(h:Row w A n C 7 cs)(h1:∀ u∈cs,u.oneCell'=true)(hb:n * 88<=140737488351232) :
  Calls prog 44 #[.slice A n C] w fun e w'=>∃ A' C',e=.returned (.slice A' n C')/\w'.ownsRow w.heap.size 85 7 (.slice A' n C') n cs/\Below w.heap.size w w':=by
 cases A with
 | none =>
  obtain ⟨rfl,rfl⟩:=h.nil rfl;obtain rfl:cs=[]:=List.length_eq_zero_iff.1 (by rw[h.len])
  have hq:=fun w=>j2z w none 0 0;clear h h1
  go_enter func44,ntmps44
  go_wp2;go_ret;exact ⟨_,_,rfl,World.ownsRow_nil _ _ _ _,Below.refl _ _⟩
 | some a =>
  have hq:=fun w=>j2z w (some a) n C;have HH:=hide h;have H1:=hide h1;clear h h1
  go_enter func44,ntmps44
  go_upto_region 3 with fail
  apply wp_region_lit
  iterate 6 go_step
  refine q4l rfl rfl _ _ rfl a n C cs rfl rfl HH.out H1.out hb ?_;rintro A' C' w' ⟨h1,h2⟩;have H1:=hide h1;have H2:=hide h2;clear h1 h2;go_wp2;go_ret;exact ⟨_,_,rfl,H1.out,H2.out⟩
theorem q3N(A:Option Addr)(n C:Nat)(cs:List Value)(w:World)(h:Row w A n C 6 cs)(h1:∀ u∈cs,u.oneCell'=true)(hb:n * 80<=140737488351232) :
  Calls prog 46 #[.slice A n C] w fun e w'=>∃ A' C',e=.returned (.slice A' n C')/\w'.ownsRow w.heap.size 70 6 (.slice A' n C') n cs/\Below w.heap.size w w':=by
 cases A with
 | none =>
  obtain ⟨rfl,rfl⟩:=h.nil rfl;obtain rfl:cs=[]:=List.length_eq_zero_iff.1 (by rw[h.len])
  have hq:=fun w=>j2p w none 0 0;clear h h1
  go_enter func46,ntmps46
  go_wp2;go_ret;exact ⟨_,_,rfl,World.ownsRow_nil _ _ _ _,Below.refl _ _⟩
 | some a =>
  have hq:=fun w=>j2p w (some a) n C;have HH:=hide h;have H1:=hide h1;clear h h1
  go_enter func46,ntmps46
  go_upto_region 3 with fail
  apply wp_region_lit
  iterate 6 go_step
  refine q5c rfl rfl _ _ rfl a n C cs rfl rfl HH.out H1.out hb ?_;rintro A' C' w' ⟨h1,h2⟩;have H1:=hide h1;have H2:=hide h2;clear h1 h2;go_wp2;go_ret;exact ⟨_,_,rfl,H1.out,H2.out⟩
theorem z9b{w:World}{base n C size:Nat}{e:TypeId}{A:Option Addr}{xs:List Value}(h:w.ownsRow base e size (.slice A n C) n xs)(h0:0<n):∃ g cur,A=some ⟨g,0,none⟩/\base<=g/\CAt e w g cur/\n<=C/\C<=maxLen/\cur.size=C * size/\cur.toList.take (n * size)=xs:=by
 rcases h.2 with ⟨_,hn⟩ | ⟨g,cap,cur,hv,h1,h2,h3,h4,h5,h6⟩
 ·omega
 ·cases hv;exact ⟨g,cur,rfl,h1,h2,h3,h4,h5,h6⟩
theorem q2s{w':World}{base n C size g:Nat}{e:TypeId}{cur:Array Value}{xs:List Value}(hl:xs.length=n * size)(hb:base<=g)(hn:n<=C)(hm:C<=maxLen)(hs:cur.size=C * size)(ht:cur.toList.take (n * size)=xs)(j1 j2:Nat)(u1 u2:Value)(hc:CAt e w' g ((cur.setIfInBounds j1 u1).setIfInBounds j2 u2)):w'.ownsRow base e size (.slice (some ⟨g,0,none⟩) n C) n ((xs.set j1 u1).set j2 u2):=by
 refine ⟨by simpa using hl,.inr ⟨g,C,_,rfl,hb,hc,hn,hm,by simpa using hs,?_⟩⟩
 rw[← ht]
 simp[List.take_set]
theorem z6H{n size k:Nat}{cur:Array Value}{xs:List Value}(ht:cur.toList.take (n * size)=xs){u:Value}(h:xs[k]?=some u):cur[k]?=some u:=by
 rw[← ht,List.getElem?_take]at h
 split at h
 ·simpa using h
 ·cases h
theorem q3c:∀ (q:List Pkt) (z:List (Value×Value)) (k:Nat) (u1 u2:Value),z.length=q.length->k<q.length->((pdL q z).set (k * 6+4) u1).set (k * 6+5) u2=pdL q (z.set k (u1,u2))
 | x :: q,y :: z,0,u1,u2,_,_=>by
  show ((pkL x y ++ pdL q z).set (0 * 6+4) u1).set (0 * 6+5) u2=pkL x (u1,u2) ++ pdL q z
  rfl
 | x :: q,y :: z,k+1,u1,u2,h,hk=>by
  have ih:=q3c q z k u1 u2 (by simpa using h) (by simpa using hk)
  show ((pkL x y ++ pdL q z).set ((k+1) * 6+4) u1).set ((k+1) * 6+5) u2=pkL x y ++ pdL q (z.set k (u1,u2))
  rw[← ih,List.set_append_right _ _ (by show 6<=_;omega),List.set_append_right _ _ (by show 6<=_;omega)]
  show pkL x y ++ ((pdL q z).set ((k+1) * 6+4 - 6) u1).set ((k+1) * 6+5 - 6) u2=_
  rw[show (k+1) * 6+4 - 6=k * 6+4 by omega,show (k+1) * 6+5 - 6=k * 6+5 by omega]
 | [],_,_,_,_,_,hk=>by simp at hk
 | _ :: _,[],_,_,_,h,_=>by simp at h
theorem q3y:∀ (q:List (Int×Pkt)) (z:List (Value×Value)) (k:Nat) (u1 u2:Value),z.length=q.length->k<q.length->((quL q z).set (k * 7+1+4) u1).set (k * 7+1+5) u2=quL q (z.set k (u1,u2))
 | x :: q,y :: z,0,u1,u2,_,_=>by
  show ((akL x y ++ quL q z).set (0 * 7+1+4) u1).set (0 * 7+1+5) u2=akL x (u1,u2) ++ quL q z
  rfl
 | x :: q,y :: z,k+1,u1,u2,h,hk=>by
  have ih:=q3y q z k u1 u2 (by simpa using h) (by simpa using hk)
  show ((akL x y ++ quL q z).set ((k+1) * 7+1+4) u1).set ((k+1) * 7+1+5) u2=akL x y ++ quL q (z.set k (u1,u2))
  rw[← ih,List.set_append_right _ _ (by show 7<=_;omega),List.set_append_right _ _ (by show 7<=_;omega)]
  show akL x y ++ ((quL q z).set ((k+1) * 7+1+4 - 7) u1).set ((k+1) * 7+1+5 - 7) u2=_
  rw[show (k+1) * 7+1+4 - 7=k * 7+1+4 by omega,show (k+1) * 7+1+5 - 7=k * 7+1+5 by omega]
 | [],_,_,_,_,_,hk=>by simp at hk
 | _ :: _,[],_,_,_,h,_=>by simp at h
structure z7Q(P:Nat->Prop)(B g:Nat)(w:World)(q:List Pkt)(z:List (Value×Value))(k:Nat):Prop where
 len:z.length=q.length
 new:∀ (i:Nat) (x:Pkt) (y:Value×Value),i<k->q[i]?=some x->z[i]?=some y->Rep (fun b=>B<=b/\b≠g) w y.1 2 16 (pwC x.S)/\Rep (fun b=>B<=b/\b≠g) w y.2 1 8 (inC x.D)
 old:∀ (i:Nat) (x:Pkt) (y:Value×Value),k<=i->q[i]?=some x->z[i]?=some y->Rep P w y.1 2 16 (pwC x.S)/\Rep P w y.2 1 8 (inC x.D)
theorem z7Q.keep{P:Nat->Prop}{B g:Nat}{w w':World}{q:List Pkt}{z:List (Value×Value)}{k:Nat}(h:z7Q P B g w q z k)(hk:∀ b,b<w.heap.size->(P b∨(B<=b/\b≠g))->w'.heap[b]?=w.heap[b]?):z7Q P B g w' q z k:=
 ⟨h.len,fun i x y hi hx hy=>⟨(h.new i x y hi hx hy).1.keep fun b hb hl=>hk b hl (.inr hb),(h.new i x y hi hx hy).2.keep fun b hb hl=>hk b hl (.inr hb)⟩,fun i x y hi hx hy=>⟨(h.old i x y hi hx hy).1.keep fun b hb hl=>hk b hl (.inl hb),(h.old i x y hi hx hy).2.keep fun b hb hl=>hk b hl (.inl hb)⟩⟩
theorem z7Q.step{P:Nat->Prop}{B g:Nat}{w w':World}{q:List Pkt}{z:List (Value×Value)}{k:Nat}(h:z7Q P B g w q z k){x:Pkt}(hx:q[k]?=some x){u1 u2:Value}(h1:Rep (fun b=>w.heap.size<=b) w' u1 2 16 (pwC x.S))(h2:Rep (fun b=>w.heap.size<=b) w' u2 1 8 (inC x.D))(hB:B<=w.heap.size)(hg:g<w.heap.size)(ha:Alt g w w')(hP:¬ P g):z7Q P B g w' q (z.set k (u1,u2)) (k+1):=by
 have h':=h.keep (w':=w') fun b hl hb=>ha.block b hl fun e=>by
  rcases hb with hb | hb
  ·exact hP (e ▸ hb)
  ·exact hb.2 e
 refine ⟨by rw[List.length_set];exact h.len,fun i y p hi hy hp=>?_,fun i y p hi hy hp=>?_⟩
 ·by_cases e:i=k
  ·subst e;rw[hx]at hy;cases hy;have hk:i<z.length:=by have:=(List.getElem?_eq_some_iff.1 hx).1;have:=h.len;omega
   rw[List.getElem?_set_self hk]at hp;cases hp;exact ⟨h1.mono fun b _ hb=>⟨by omega,by omega⟩,h2.mono fun b _ hb=>⟨by omega,by omega⟩⟩
  ·rw[List.getElem?_set_ne (by omega)]at hp
   exact h'.new i y p (by omega) hy hp
 ·rw[List.getElem?_set_ne (by omega)]at hp
  exact h'.old i y p (by omega) hy hp
end Wd
namespace Wd
open Go.RowKit Pv Kc
theorem j3a{P:Nat->Prop}{w:World}:∀ (q:List Pkt) (z:List (Value×Value)),(∀ (i:Nat) (x:Pkt) (y:Value×Value),q[i]?=some x->z[i]?=some y->Rep P w y.1 2 16 (pwC x.S)/\Rep P w y.2 1 8 (inC x.D))->∀ u∈pdL q z,u.oneCell'=true
 | [],_,_,u,hu=>by cases hu
 | _ :: _,[],_,u,hu=>by cases hu
 | x :: q,y :: z,h,u,hu=>by
  rcases List.mem_append.1 hu with h1 | h1
  ·obtain ⟨a,b⟩:=h 0 x y rfl rfl;have e1:=z3e a;have e2:=z3e b;simp only[pkL,List.mem_cons,List.not_mem_nil,or_false]at h1
   rcases h1 with rfl | rfl | rfl | rfl | rfl | rfl <;> first | rfl | assumption
  ·exact j3a q z (fun i x' y' hx hy=>h (i+1) x' y' (by simpa using hx) (by simpa using hy)) u h1
theorem j0c{P:Nat->Prop}{w:World}{v:Value}{sz a b:Nat}{cs:List Value}(h:Rep P w v sz a cs)(hab:b<=a):Rep P w v sz b cs:=by
 obtain ⟨A,n,C,h1,h2,h3,h4⟩:=h;exact ⟨A,n,C,h1,h2,Nat.le_trans (Nat.mul_le_mul_left _ hab) h3,h4⟩
structure PdR(w:World)(c:Cs)(v:CsV)(P:Nat->Prop)(A:Option Addr)(C:Nat)(k:Nat)(wl:World):Prop where
 half:∃ v' z,v'={ v with set:=v'.set,pd:=.slice A c.pd.length C }/\(∃ X n D,v'.set=.slice X n D)/\CAt 63 wl w.heap.size (csC c v')/\wl.ownsRow (w.heap.size+2) 70 6 (.slice A c.pd.length C) c.pd.length (pdL c.pd z)/\(∀ g,A=some ⟨g,0,none⟩->z7Q (fun b=>P b/\b<w.heap.size) (w.heap.size+2) g wl c.pd z k/\Rep (fun b=>w.heap.size+2<=b/\b≠g) wl v'.set 2 16 (pwC c.set))/\Rep (fun b=>w.heap.size+2<=b) wl v'.set 2 16 (pwC c.set)
 res:CAt 63 wl (w.heap.size+1) Z22
 bel:Below w.heap.size w wl
structure q0V(w:World)(c:Cs)(v:CsV)(wl:World):Prop where
 cat:CAt 63 wl w.heap.size (csC c v)
 res:CAt 63 wl (w.heap.size+1) Z22
 bel:Below w.heap.size w wl
theorem q0V.over{w wl w':World}{c:Cs}{v:CsV}(h:q0V w c v wl)(hb:Below wl.heap.size wl w'):q0V w c v w':=⟨h.cat.over hb,h.res.over hb,zbt h.bel hb⟩
theorem q0V.set{w wl:World}{c:Cs}{v v':CsV}(h:q0V w c v wl)(o:Nat)(x:Value)(e:(csC c v).setIfInBounds o x=csC c v'):q0V w c v' (wl.setCell ⟨w.heap.size,o,none⟩ x):=by
 have k:=h.cat.set o x;rw[e]at k;exact ⟨k,h.res.other (by omega) x,h.bel.setCell (p:=⟨w.heap.size,o,none⟩) (Nat.le_refl _) x⟩
attribute [local go_sem ↓] z1O z1w z2I z2h
theorem q4b(c:Cs)(v:CsV)(P:Nat->Prop)(w:World)(hp:CIn P w c v)(h80:c.pd.length * 80<=140737488351232)(h16:c.rp.length * 16<=140737488351232) :
  Calls prog 31 #[.agg (csC c v)] w fun e w'=>∃ v',e=.returned (.agg (csC c v'))/\CIn (fun b=>w.heap.size+2<=b) w' c v'/\Below w.heap.size w w':=by
 have hp':CIn (fun b=>P b/\b<w.heap.size) w c v:=hp.mono fun b hl hb=>⟨hb,hl⟩;obtain ⟨z,hz,hzr,hzi⟩:=id hp'.pd;obtain ⟨A1,C1,e1,-,-⟩:=row_of hp'.set (z0c c.set) (by decide)
 obtain ⟨A2,C2,e2,-,-⟩:=row_of hzr (z2g c.pd z hz) (by decide)
 obtain ⟨A3,C3,e3,-,-⟩:=row_of hp'.rp (z0c c.rp) (by decide)
 have HS:=hide (fun (wx:World) (hb:Below w.heap.size w wx)=>z4z A1 c.set.length C1 (pwC c.set) wx (by obtain ⟨B,D,e,R,-⟩:=row_of (hp'.set.over hb) (z0c c.set) (by decide);rw[e1]at e;cases e;exact R) (z5R _) (by obtain ⟨_,_,_,_,h⟩:=row_of hp'.set (z0c c.set) (by decide);exact h))
 have HK:=hide (fun (wx:World) (hb:Below w.heap.size w wx)=>q3N A2 c.pd.length C2 (pdL c.pd z) wx (by obtain ⟨B,D,e,R,-⟩:=row_of (hzr.over hb) (z2g c.pd z hz) (by decide);rw[e2]at e;cases e;exact R) (j3a c.pd z hzi) h80)
 have HR:=hide (fun (wx:World) (hb:Below w.heap.size w wx)=>q5q A3 c.rp.length C3 (pwC c.rp) wx (by obtain ⟨B,D,e,R,-⟩:=row_of (hp'.rp.over hb) (z0c c.rp) (by decide);rw[e3]at e;cases e;exact R) (z5R _) h16)
 have HL:=hide (fun (wx:World) (hb:Below w.heap.size w wx)=>z8L c.out v.said v.due _ wx (hp'.said.over hb) (hp'.due.over hb));have HZ0:Hid (∀ g wx,w.heap.size<=g->Below w.heap.size w wx->z7Q (fun b=>P b/\b<w.heap.size) (w.heap.size+2) g wx c.pd z 0):=fun g wx hg hb=>⟨hz,fun i x y hi=>by omega,fun i x y _ hx hy=>⟨(hzi i x y hx hy).1.over hb,(hzi i x y hx hy).2.over hb⟩⟩
 have K0:q0V w c v ((w.alloc (.cells (csC c v) 63)).alloc (.cells Z22 63)):=⟨(CAt.new _ w _).alloc _,CAt.new2 _ w _ _,(znw w _).alloc (by simp) _⟩
 clear hp hp' hzr hzi
 go_enter func31,ntmps31
 go_upto_region 1 with fail
 change Code.wp prog _ _ _ ((w.alloc (.cells (csC c v) 63)).alloc (.cells Z22 63));generalize (w.alloc (.cells (csC c v) 63)).alloc (.cells Z22 63)=w0 at *;have a5:w0.cell? ⟨w.heap.size,5,none⟩=some (.slice A1 c.set.length C1):=by rw[← e1];exact K0.cat.cell 5
 have HK0:=hide K0;have hz0:w.heap.size+2<=w0.heap.size:=K0.res.lt;clear K0
 go_upto_region 2 with (go_at_call 41;refine (HS.out _ HK0.out.bel).mono ?_;rintro e w1 ⟨B1,D1,rfl,U1,hb1⟩;have K1:=HK0.out.over hb1;have f1:=K1.cat.free 5;have y1:w1.cell? ⟨w.heap.size,5,none⟩=some v.set:=K1.cat.cell 5;have hz1:=K1.cat.lt;have HU1:=hide (show _/\_ from ⟨U1,hb1.size⟩);clear a5 U1 hb1)
 have K2:=K1.set 5 (.slice B1 c.set.length D1) (v':={ v with set:=.slice B1 c.set.length D1 }) rfl
 have U2:=((Alt.refl w.heap.size w1).set 5 (.slice B1 c.set.length D1)).rep (P:=fun b=>w0.heap.size<=b) (fun h=>by omega) HU1.out.1
 have hs1:=HU1.out.2;clear y1 f1 K1 HU1 HK0;generalize w1.setCell ⟨w.heap.size,5,none⟩ (.slice B1 c.set.length D1)=w2 at *;have HE:=hide (show _/\_/\_ from ⟨e1,e2,e3⟩);have a6:w2.cell? ⟨w.heap.size,6,none⟩=some (.slice A2 c.pd.length C2):=by rw[← e2];exact K2.cat.cell 6
 have HK2:=hide (show _/\_ from ⟨K2,U2⟩);have hz2:w.heap.size+2<=w2.heap.size:=K2.res.lt;clear K2 U2 e1 e2 e3
 go_upto_region 3 with (go_at_call 46;refine (HK.out _ HK2.out.1.bel).mono ?_;rintro e w3 ⟨B3,D3,rfl,U3,hb3⟩;have K3:=HK2.out.1.over hb3;have f3:=K3.cat.free 6;have y3:w3.cell? ⟨w.heap.size,6,none⟩=some v.pd:=K3.cat.cell 6;have hz3:=K3.cat.lt;have HU3:=hide (show _/\_ from ⟨U3,hb3⟩);clear a6 U3 hb3)
 have K4:=K3.set 6 (.slice B3 c.pd.length D3) (v':={ v with set:=.slice B1 c.set.length D1,pd:=.slice B3 c.pd.length D3 }) rfl
 have A4:Alt w.heap.size w3 (w3.setCell ⟨w.heap.size,6,none⟩ (.slice B3 c.pd.length D3)):=(Alt.refl _ _).set 6 _;have V4:=A4.rep (P:=fun b=>w0.heap.size<=b/\b<w2.heap.size) (fun h=>by omega) ((HK2.out.2.mono (P':=fun b=>w0.heap.size<=b/\b<w2.heap.size) fun b hl hb=>⟨hb,hl⟩).over HU3.out.2)
 have O4:(w3.setCell ⟨w.heap.size,6,none⟩ (.slice B3 c.pd.length D3)).ownsRow (w.heap.size+2) 70 6 (.slice B3 c.pd.length D3) c.pd.length (pdL c.pd z):=z3T (z1h HU3.out.1 fun k hk=>A4.block k (World.ownsRow.lt HU3.out.1 k hk).2 (by have:=(World.ownsRow.lt HU3.out.1 k hk).1;omega)) (by omega)
 have hgb:∀ g,B3=some ⟨g,0,none⟩->w2.heap.size<=g:=fun g hg=>(World.ownsRow.lt HU3.out.1 g (by rw[hg];rfl)).1
 have HR0:Hid (PdR w c v P B3 D3 0 (w3.setCell ⟨w.heap.size,6,none⟩ (.slice B3 c.pd.length D3))):=⟨⟨_,z,rfl,⟨_,_,_,rfl⟩,K4.cat,O4,fun g hg=>⟨HZ0.out g _ (by have:=hgb g hg;omega) K4.bel,V4.mono fun b _ hb=>⟨by omega,by have:=hgb g hg;omega⟩⟩,V4.mono fun b _ hb=>by omega⟩,K4.res,K4.bel⟩
 have a6:(w3.setCell ⟨w.heap.size,6,none⟩ (.slice B3 c.pd.length D3)).cell? ⟨w.heap.size,6,none⟩=some (.slice B3 c.pd.length D3):=K4.cat.cell 6;have hz4:=K4.cat.lt;clear y3 f3 K3 K4 A4 V4 O4 hgb HU3 HK2 HZ0 HS HK;generalize w3.setCell ⟨w.heap.size,6,none⟩ (.slice B3 c.pd.length D3)=w4 at *
 go_upto_region 4 with fail
 go_loopw [15] (fun i wl=>∃ (k:Nat),k<=c.pd.length/\i=.int .i64 (k:Int)/\Hid (PdR w c v P B3 D3 k wl)) (fun i _=>c.pd.length - (intOf i).toNat)
 case atStart=>exact ⟨0,Nat.zero_le _,rfl,HR0⟩
 case round =>
  obtain ⟨k,hk,rfl,HRR⟩:=hrel;clear HR0 a6;obtain ⟨v',z',hv',hsl,C4,O4,hKH,hV⟩:=HRR.out.half
  by_cases hltk:k<c.pd.length
  ·obtain ⟨gq,cur,rfl,hgq,Cq,hnC,hCm,hcs,hct⟩:=z9b O4 (by omega)
   obtain ⟨KH,hV2⟩:=hKH gq rfl;have hx:c.pd[k]?=some c.pd[k]:=List.getElem?_eq_getElem hltk;have hkz:k<z'.length:=by have:=KH.len;omega
   have hy:z'[k]?=some z'[k]:=List.getElem?_eq_getElem hkz;generalize c.pd[k]=xk at hx;generalize z'[k]=yk at hy;have e4:=z6H hct ((z6M c.pd z' k xk yk 4 hx hy (by omega)).trans rfl)
   have e5:=z6H hct ((z6M c.pd z' k xk yk 5 hx hy (by omega)).trans rfl)
   obtain ⟨o1,o2⟩:=KH.old k xk yk (Nat.le_refl _) hx hy;have hgw:=Cq.lt;have HCL:=hide (z7m gq (k * 6) 70 cur xk.S xk.D yk.1 yk.2 _ wr Cq e4 e5 o1 o2 (fun h=>by omega))
   have x6:wr.cell? ⟨w.heap.size,6,none⟩=some (.slice (some ⟨gq,0,none⟩) c.pd.length D3):=by rw[hv']at C4;exact C4.cell 6
   have hwr:=C4.lt;have hkI:(k:Int)<(c.pd.length:Int):=by omega
   have HN:Hid (∀ u1 u2 w5,CAt 70 w5 gq ((cur.setIfInBounds (k * 6+4) u1).setIfInBounds (k * 6+5) u2)->Rep (fun b=>wr.heap.size<=b) w5 u1 2 16 (pwC xk.S)->Rep (fun b=>wr.heap.size<=b) w5 u2 1 8 (inC xk.D)->Alt gq wr w5->PdR w c v P (some ⟨gq,0,none⟩) D3 (k+1) w5):=fun u1 u2 w5 hc h1 h2 ha=>by
    have hbe:w.heap.size+2<=wr.heap.size:=HRR.out.res.lt;have O5:=q2s (base:=w.heap.size+2) O4.1 hgq hnC hCm hcs hct (k * 6+4) (k * 6+5) u1 u2 hc;rw[q3c c.pd z' k u1 u2 KH.len hltk]at O5;refine ⟨⟨v',_,hv',hsl,ha.cat (by omega) C4,O5,fun g hg=>?_,?_⟩,ha.cat (by omega) HRR.out.res,HRR.out.bel.trans (ha.below (by omega) HRR.out.bel.size)⟩
    ·cases hg;exact ⟨KH.step hx h1 h2 hbe hgw ha (fun h=>by omega),ha.rep (fun h=>h.2 rfl) hV2⟩
    ·exact (ha.rep (fun h=>h.2 rfl) hV2).mono fun b _ hb=>hb.1
   clear O4 hKH hV C4 Cq KH hV2 hx hy e4 e5 o1 o2 hct hcs
   go_wp2_with (go_at_call 45;refine HCL.out.mono ?_;rintro e w5 ⟨u1,u2,rfl,hc5,h15,h25,ha5⟩;have HM:=hide (HN.out u1 u2 w5 hc5 h15 h25 ha5);clear hc5 h15 h25 ha5)
   exact ⟨⟨k+1,by omega,by go_num,HM⟩,by simp[intOf];omega⟩
  ·obtain rfl:k=c.pd.length:=by omega
   have KR:z7w (fun b=>w.heap.size+2<=b) wr (.slice B3 c.pd.length D3) c.pd:=by
    by_cases h0:0<c.pd.length
    ·obtain ⟨gq,cur,rfl,-⟩:=z9b O4 h0;obtain ⟨KH,-⟩:=hKH gq rfl;exact ⟨z',KH.len,Rep.own O4 (by omega),fun i x y hx hy=>⟨(KH.new i x y (List.getElem?_eq_some_iff.1 hx).1 hx hy).1.mono fun b _ hb=>hb.1,(KH.new i x y (List.getElem?_eq_some_iff.1 hx).1 hx hy).2.mono fun b _ hb=>hb.1⟩⟩
    ·have e0:c.pd=[]:=List.length_eq_zero_iff.1 (by omega)
     have R:=Rep.own (bts:=40) O4 (by omega)
     rw[e0]at R ⊢;exact ⟨[],rfl,R,fun i x y hx=>by cases hx⟩
   obtain ⟨sv,pv,rv,sd,du⟩:=v';simp only[CsV.mk.injEq,true_and]at hv';obtain ⟨rfl,rfl,rfl,rfl⟩:=hv';obtain ⟨X,nX,DX,rfl⟩:=hsl;have x6:wr.cell? ⟨w.heap.size,6,none⟩=some (.slice B3 c.pd.length D3):=C4.cell 6;have x7:wr.cell? ⟨w.heap.size,7,none⟩=some (.slice A3 c.rp.length C3):=by rw[← HE.out.2.2];exact C4.cell 7
   have KX:q0V w c ⟨.slice X nX DX,.slice B3 c.pd.length D3,v.rp,v.said,v.due⟩ wr:=⟨C4,HRR.out.res,HRR.out.bel⟩;have hwr:w.heap.size+2<=wr.heap.size:=HRR.out.res.lt;have HX:=hide (show _/\_/\_ from ⟨KX,KR,hV⟩);clear KX KR hV C4 O4 hKH HRR
   go_upto_region 9 with (go_at_call 47;refine (HR.out _ HX.out.1.bel).mono ?_;rintro e w5 ⟨B5,D5,rfl,U5,hb5⟩;have K5:=HX.out.1.over hb5;have f5:=K5.cat.free 7;have y5:w5.cell? ⟨w.heap.size,7,none⟩=some v.rp:=K5.cat.cell 7;have hz5:=K5.cat.lt;have HU5:=hide (show _/\_ from ⟨U5,hb5⟩);clear x6 x7 U5 hb5)
   have K6:=K5.set 7 (.slice B5 c.rp.length D5) (v':=⟨.slice X nX DX,.slice B3 c.pd.length D3,.slice B5 c.rp.length D5,v.said,v.due⟩) rfl;have A6:Alt w.heap.size w5 (w5.setCell ⟨w.heap.size,7,none⟩ (.slice B5 c.rp.length D5)):=(Alt.refl _ _).set 7 _;have U6:=(j0c (A6.rep (P:=fun b=>wr.heap.size<=b) (fun h=>by omega) HU5.out.1) (b:=8) (by omega)).mono (P':=fun b=>w.heap.size+2<=b) fun b _ hb=>by omega
   have V6:=A6.rep (P:=fun b=>w.heap.size+2<=b) (fun h=>by omega) (HX.out.2.2.over HU5.out.2)
   have R6:=(HX.out.2.1.over HU5.out.2).keep (w':=w5.setCell ⟨w.heap.size,7,none⟩ (.slice B5 c.rp.length D5)) fun b hb hl=>A6.block b hl (by omega)
   clear y5 f5 K5 A6 HU5 HX;generalize w5.setCell ⟨w.heap.size,7,none⟩ (.slice B5 c.rp.length D5)=w6 at *;have l6:=z6A ((z9i c ⟨.slice X nX DX,.slice B3 c.pd.length D3,.slice B5 c.rp.length D5,v.said,v.due⟩ c.out v.said v.due).part K6.cat) rfl;change (z2x (.pointer (some ⟨w.heap.size,14,none⟩))).run prog w6=.ok (.agg #[v.said,v.due,.int .i64 c.out.g,.bool c.out.cl]) w6 at l6;have hz6:w.heap.size+2<=w6.heap.size:=K6.res.lt;have HX:=hide (show _/\_/\_/\_ from ⟨K6,V6,R6,U6⟩);clear K6 V6 R6 U6 HR
   go_upto_region 10 with (go_at_call 43;refine (HL.out _ HX.out.1.bel).mono ?_;rintro e w7 ⟨u1,u2,rfl,U7,V7,hb7⟩;have K7:=HX.out.1.over hb7;have s7:=q1y (w:=w7) (g:=w.heap.size) (o:=14) (cs:=[u1,u2,.int .i64 c.out.g,.bool c.out.cl]) ((z9i c ⟨.slice X nX DX,.slice B3 c.pd.length D3,.slice B5 c.rp.length D5,v.said,v.due⟩ c.out u1 u2).there K7.cat) rfl (by have a1:=U7.one;have a2:=V7.one;simp only[List.all_cons,List.all_nil,a1,a2];rfl);change (z3q (.pointer (some ⟨w.heap.size,14,none⟩)) (.agg #[u1,u2,.int .i64 c.out.g,.bool c.out.cl])).run prog w7=_ at s7;have HU7:=hide (show _/\_/\_ from ⟨U7,V7,hb7⟩);have HK7:=hide K7;clear l6 U7 V7 hb7 K7)
   have hz7:=HK7.out.res.lt;have C8:=(z9i c ⟨.slice X nX DX,.slice B3 c.pd.length D3,.slice B5 c.rp.length D5,v.said,v.due⟩ c.out u1 u2).sets HK7.out.cat;change CAt 63 (w7.setCells w.heap.size 14 [u1,u2,.int .i64 c.out.g,.bool c.out.cl]) w.heap.size (csC c ⟨.slice X nX DX,.slice B3 c.pd.length D3,.slice B5 c.rp.length D5,u1,u2⟩) at C8;have A8:Alt w.heap.size w7 (w7.setCells w.heap.size 14 [u1,u2,.int .i64 c.out.g,.bool c.out.cl]):=Alt.sets _ (Alt.refl _ _) 14;have R8:=A8.cat (by omega) HK7.out.res
   have b8:=z0b (b:=w.heap.size) (Nat.le_refl _) [u1,u2,.int .i64 c.out.g,.bool c.out.cl] 14 _ HK7.out.bel
   have I8:CIn (fun b=>w.heap.size+2<=b) (w7.setCells w.heap.size 14 [u1,u2,.int .i64 c.out.g,.bool c.out.cl]) c ⟨.slice X nX DX,.slice B3 c.pd.length D3,.slice B5 c.rp.length D5,u1,u2⟩:=
    CIn.sets ⟨HX.out.2.1.over HU7.out.2.2,HX.out.2.2.1.over HU7.out.2.2,HX.out.2.2.2.over HU7.out.2.2,HU7.out.1.mono fun b _ hb=>by omega,HU7.out.2.1.mono fun b _ hb=>by omega⟩ (by omega) _ _
   clear A8 HX HU7 HK7 s7;generalize w7.setCells w.heap.size 14 [u1,u2,.int .i64 c.out.g,.bool c.out.cl]=w8 at *;have l8:=z2O C8 (z0m _ _);have s8:=z2a R8 z0u (z0m c ⟨.slice X nX DX,.slice B3 c.pd.length D3,.slice B5 c.rp.length D5,u1,u2⟩) (z1W I8);have R9:=R8.z0G (ds:=csC c ⟨.slice X nX DX,.slice B3 c.pd.length D3,.slice B5 c.rp.length D5,u1,u2⟩) (by rw[z0u];rfl)
   have b9:=z0b (b:=w.heap.size+1) (Nat.le_succ _) (csC c ⟨.slice X nX DX,.slice B3 c.pd.length D3,.slice B5 c.rp.length D5,u1,u2⟩).toList 0 _ b8;have I9:=I8.sets (g:=w.heap.size+1) (by omega) 0 (csC c ⟨.slice X nX DX,.slice B3 c.pd.length D3,.slice B5 c.rp.length D5,u1,u2⟩).toList
   have HZ:=hide (show _/\_/\_ from ⟨R9,b9,I9⟩);clear C8 R8 b8 I8 R9 b9 I9;generalize w8.setCells (w.heap.size+1) 0 (csC c ⟨.slice X nX DX,.slice B3 c.pd.length D3,.slice B5 c.rp.length D5,u1,u2⟩).toList=w9 at *;go_wp2;exact bodyPost_ret (v:=.agg (csC c ⟨.slice X nX DX,.slice B3 c.pd.length D3,.slice B5 c.rp.length D5,u1,u2⟩)) (z4U results31 _ _ _ _ rfl HZ.out.1 rfl) rfl ⟨_,rfl,HZ.out.2.2,HZ.out.2.1⟩
end Wd
namespace Wd
open Go.RowKit Pv Kc
attribute [local go_sem ↓] z2I z2h z4A
theorem j7L(f:Bool)(g:Nat)(x:Wo)(v:WoV)(P:Nat->Prop)(w:World)(i:Nat)(hi:i<2)(hC:CAt 98 w g (wdC x v))(hI:WIn P w x v)(hg:¬ P g)(hgl:Ln.z0W (z1r x i true)=true)(hsm:small (z1r x i true).S)(hq88:x.p.q.length * 88<=140737488351232)(h80:(x.c i).pd.length * 80<=140737488351232) :
  Calls prog 71 #[.pointer (some ⟨g,0,none⟩),.int .i64 (i:Int),.bool true,.bool f] w (z8W P w g (q0O x i true f)):=by
 have hD:q0O x i true f=if Ln.z4r (x.c i).out ((x.c i).out.g+1) (z0P x i true f) (x.p.L i).h2 x.ck=0 then (if (z1V x i true (z0P x i true f)).2=0 then (z1T (z1V x i true (z0P x i true f)).1 i true (Ln.z5l (x.c i).out ((x.c i).out.g+1) (z0P x i true f) (x.p.L i).h2 x.ck),(x.c i).out.g+1,0) else ((z1V x i true (z0P x i true f)).1,0,(z1V x i true (z0P x i true f)).2)) else (x,0,Ln.z4r (x.c i).out ((x.c i).out.g+1) (z0P x i true f) (x.p.L i).h2 x.ck):=rfl;have hdl:Ln.z4r (x.c i).out ((x.c i).out.g+1) (z0P x i true f) (x.p.L i).h2 x.ck=0->(Ln.z5l (x.c i).out ((x.c i).out.g+1) (z0P x i true f) (x.p.L i).h2 x.ck).g=(x.c i).out.g+1:=fun h=>by rw[z9u h]
 change Ln.z0W (x.c i).out=true at hgl;change small (x.c i).out.S at hsm;obtain ⟨-,hS4,-,hg0,hg1⟩:=(z1p _).1 hgl
 have hnx:(z3I (x.c i).out).size<=100:=by
  unfold z3I
  split
  ·decide
  ·rename_i hn;refine hsm _ ?_;rw[List.getD_eq_getElem?_getD,List.getElem?_eq_getElem (by omega)]
   exact List.getElem_mem _
 have htx:(z0P x i true f).size<=maxLen:=by
  have hm:(1000:Nat)<=maxLen:=by decide
  have h2:(q1e (z3I (x.c i).out)).size<=100:=z4Y (by simp) (by simp)
  have h3:(z0P x i true f).size<=100:=by
   cases f
   ·exact hnx
   ·exact h2
  omega
 have hlt:=hC.lt;have hi2:(i:Int)<2:=by omega
 have hi0:(0:Int)<=(i:Int):=by omega
 have hw1:IntKind.i64.wrap ((x.c i).out.g+1)=(x.c i).out.g+1:=z6V (by omega) (by omega)
 have hr1:z0D P w (v.c i).said 1 16 (txC (x.c i).out.S):=(hI.c i hi).said;have hr2:z0D P w (v.c i).due 1 8 (inC (x.c i).out.D):=(hI.c i hi).due;have HLN:=hide (fun (wx:World) (hb:Below w.heap.size w wx)=>(z9O x v hi (x.c i).out (v.c i).said (v.c i).due).part (hC.over hb));have HNX:=hide (fun (wx:World) (hb:Below w.heap.size w wx)=>q0b g (99+i * 22+14) (x.c i).out (v.c i).said P wx (hr1.over hb) (z8I (HLN.out wx hb)).1 (z8I (HLN.out wx hb)).2 hg0);have HFG:=hide (fun (wx:World)=>z9H (z3I (x.c i).out) wx (by omega))
 have HEX:=hide (fun (w4 wx:World) (h4:Below w.heap.size w w4) (hb:Below w4.heap.size w4 wx)=>q7l (x.c i).out ((x.c i).out.g+1) (z0P x i true f) (x.p.L i).h2 x.ck (v.c i).said (v.c i).due (fun b=>P b/\b<w4.heap.size) wx ((((hr1.over h4).mono (P':=fun b=>P b/\b<w4.heap.size) fun b hl hp=>⟨hp,hl⟩).over hb)) ((((hr2.over h4).mono (P':=fun b=>P b/\b<w4.heap.size) fun b hl hp=>⟨hp,hl⟩).over hb)));have HLX:=hide (fun (wx:World) (hb:Below w.heap.size w wx)=>(show (z2x (.pointer (some ⟨g,99+i * 22+14,none⟩))).run prog wx=.ok (.agg #[(v.c i).said,(v.c i).due,.int .i64 (x.c i).out.g,.bool (x.c i).out.cl]) wx/\wx.cell? ⟨g,99+i * 22+14+2,none⟩=some (.int .i64 (x.c i).out.g)/\wx.cell? ⟨g,68+i * 14+10+2,none⟩=some (.int .i64 (x.p.L i).h2)/\wx.cell? ⟨g,0,none⟩=some (.int .i64 x.ck) from ⟨z6A (HLN.out wx hb) rfl,(z8I (HLN.out wx hb)).2,(z9d (hC.over hb) hi).2.1,(hC.over hb).cell 0⟩));have HHR:=hide (fun (wx:World) (hb:Below w.heap.size w wx)=>q0t g x v P wx i hi true (z0P x i true f) (hC.over hb) (hI.over hb) hg htx hq88 h80);have HWY:=hide (q3k g i hi w);have HC:=hide hC;have HI:=hide hI;clear hC hI hr1 hr2 HLN hq88 h80 hgl hsm hS4 hg0 hg1 hnx htx;generalize q0O x i true f=D at *;generalize z1V x i true (z0P x i true f)=rh at *;obtain ⟨xh,he⟩:=rh;dsimp only at hD;generalize Ln.z4r (x.c i).out ((x.c i).out.g+1) (z0P x i true f) (x.p.L i).h2 x.ck=de at *;generalize Ln.z5l (x.c i).out ((x.c i).out.g+1) (z0P x i true f) (x.p.L i).h2 x.ck=dl at *
 have HTX:Hid (f=false/\z0P x i true f=z3I (x.c i).out∨f=true/\z0P x i true f=q1e (z3I (x.c i).out)):=by
  cases f
  ·exact .inl ⟨rfl,rfl⟩
  ·exact .inr ⟨rfl,rfl⟩
 generalize z0P x i true f=tx at *;generalize z3I (x.c i).out=nx at *;generalize Value.agg #[(v.c i).said,(v.c i).due,.int .i64 (x.c i).out.g,.bool (x.c i).out.cl]=V0 at *;generalize (x.c i).out.g=lg at *;generalize (x.p.L i).h2=sd at *;have HD:=hide hD;have HDL:=hide hdl;clear hD hdl
 go_enter func71,ntmps71
 go_upto_region 2 with (go_at_call 90;refine HWY.out.mono ?_;rintro e w1 ⟨rfl,hb1⟩;obtain ⟨w2,s2,K2,bS⟩:=z9p w1 (.pointer (some ⟨g,99+i * 22+14,none⟩)) (.pointer (some ⟨g,99+i * 22+18,none⟩)) (.pointer (some ⟨g,68+i * 14+10,none⟩)) (by simp[Value.oneCell']);have HK2:=hide (show _/\_ from ⟨K2,zbt hb1 bS⟩);have hs1:=hb1.size;clear K2 bS hb1)
 clear s2 HWY;obtain ⟨gy,hgy⟩:∃ y,y=w1.heap.size:=⟨_,rfl⟩;rw[← hgy]at HK2 hs1 ⊢;clear hgy;have hgg:g≠gy:=by omega
 have k0:w2.cell? ⟨gy,0,none⟩=some (.pointer (some ⟨g,99+i * 22+14,none⟩)):=HK2.out.1.cell 0;have hzy:=HK2.out.1.lt
 rcases HTX.out with ⟨rfl,e0⟩ | ⟨rfl,e1⟩
 all_goals clear HTX
 all_goals first | (subst e0;clear HFG) | (rw[← e1]at HFG;clear e1)
 all_goals
  go_upto_region 5 with (first | (go_at_call 92;refine (HFG.out _).mono ?_;rintro e w4 ⟨rfl,hb4⟩;have HB4:=hide (zbt HB3.out hb4);have HK4:=hide (HK3.out.over hb4);clear hb4) | (go_at_call 91;have _m:=HFG;refine (HNX.out _ (by with_reducible exact HK2.out.2)).mono ?_;rintro e w3 ⟨rfl,hb3⟩;have HB3:=hide (zbt HK2.out.2 hb3);have HK3:=hide (HK2.out.1.over hb3);clear hb3) | (go_at_call 91;refine (HNX.out _ (by with_reducible exact HK2.out.2)).mono ?_;rintro e w4 ⟨rfl,hb4⟩;have HB4:=hide (zbt HK2.out.2 hb4);have HK4:=hide (HK2.out.1.over hb4);clear hb4))
  clear k0 HK2 HNX
  try clear HB3 HK3 HFG _m
  have hz4:=HB4.out.size;have HEN:=hide (fun (wx:World) (hb:Below w4.heap.size w4 wx)=>HEX.out w4 wx HB4.out hb);have HLF:Hid (∀ (wx:World),Below w4.heap.size w4 wx->wx.cell? ⟨gy,0,none⟩=some (.pointer (some ⟨g,99+i * 22+14,none⟩))/\wx.cell? ⟨gy,2,none⟩=some (.pointer (some ⟨g,68+i * 14+10,none⟩))/\(z2x (.pointer (some ⟨g,99+i * 22+14,none⟩))).run prog wx=.ok V0 wx/\wx.cell? ⟨g,99+i * 22+14+2,none⟩=some (.int .i64 lg)/\wx.cell? ⟨g,68+i * 14+10+2,none⟩=some (.int .i64 sd)/\wx.cell? ⟨g,0,none⟩=some (.int .i64 x.ck)):=fun wx hb=>⟨(HK4.out.over hb).cell 0,(HK4.out.over hb).cell 2,HLX.out wx (zbt HB4.out hb)⟩;have HALd:Hid (Below w4.heap.size w4 (w4.alloc (.cells Z4' 47)).drew):=(znw w4 _).drew;have HACd:Hid (CAt 47 (w4.alloc (.cells Z4' 47)).drew w4.heap.size Z4'):=CAt.new 47 w4 Z4';unfold Z4' at HALd;clear HEX HLX;apply z9G (fun (gn:Nat) (ts:Array Value) w'=>j5Q P w4 dl gn ts w')
  ·skip;refine wp_region_noPanic ?_;refine wp_region_held_drew (S:=fun wx=>Below w4.heap.size w4 wx) (by kernel_rfl) (Below.refl _ _).drew (fun hS=>?_)
   refine Od.G 0 (.pointer (some ⟨gy,0,none⟩)) 26 rfl rfl hS ?_;refine Od.Z 1 (.pointer (some ⟨g,99+i * 22+14,none⟩)) 27 rfl rfl hS (fun wx hSw=>by obtain ⟨k0,k2,l3,l4,l5,l6⟩:=HLF.out wx hSw;go_simp) ?_
   refine Od.G 2 (.pointer (some ⟨g,99+i * 22+14,none⟩)) 28 rfl rfl hS ?_;refine Od.Z 3 V0 29 rfl rfl hS (fun wx hSw=>by obtain ⟨k0,k2,l3,l4,l5,l6⟩:=HLF.out wx hSw;go_simp) ?_
   refine Od.G 4 (.pointer (some ⟨gy,0,none⟩)) 30 rfl rfl hS ?_;refine Od.Z 5 (.pointer (some ⟨g,99+i * 22+14,none⟩)) 31 rfl rfl hS (fun wx hSw=>by obtain ⟨k0,k2,l3,l4,l5,l6⟩:=HLF.out wx hSw;go_simp) ?_
   refine Od.G 6 (.pointer (some ⟨g,99+i * 22+14,none⟩)) 32 rfl rfl hS ?_;refine Od.G 7 (.pointer (some ⟨g,99+i * 22+14+2,none⟩)) 33 rfl rfl hS ?_;refine Od.Z 8 (.int .i64 lg) 34 rfl rfl hS (fun wx hSw=>by obtain ⟨k0,k2,l3,l4,l5,l6⟩:=HLF.out wx hSw;go_simp) ?_
   refine Od.G 9 (.int .i64 (lg+1)) 35 rfl rfl hS ?_;refine Od.G 10 (.string tx) 36 rfl rfl hS ?_;refine Od.G 11 (.pointer (some ⟨gy,2,none⟩)) 37 rfl rfl hS ?_;refine Od.Z 12 (.pointer (some ⟨g,68+i * 14+10,none⟩)) 38 rfl rfl hS (fun wx hSw=>by obtain ⟨k0,k2,l3,l4,l5,l6⟩:=HLF.out wx hSw;go_simp) ?_
   refine Od.G 13 (.pointer (some ⟨g,68+i * 14+10,none⟩)) 39 rfl rfl hS ?_;refine Od.G 14 (.pointer (some ⟨g,68+i * 14+10+2,none⟩)) 40 rfl rfl hS ?_;refine Od.Z 15 (.int .i64 sd) 41 rfl rfl hS (fun wx hSw=>by obtain ⟨k0,k2,l3,l4,l5,l6⟩:=HLF.out wx hSw;go_simp) ?_
   refine Od.G 16 (.pointer (some ⟨g,0,none⟩)) 42 rfl rfl hS ?_;refine Od.G 17 (.pointer (some ⟨g,0,none⟩)) 43 rfl rfl hS ?_;refine Od.G 18 (.pointer (some ⟨g,0,none⟩)) 44 rfl rfl hS ?_;refine Od.Z 19 (.int .i64 x.ck) 45 rfl rfl hS (fun wx hSw=>by obtain ⟨k0,k2,l3,l4,l5,l6⟩:=HLF.out wx hSw;go_simp) ?_
   refine Od.z3U (i:=20) (j:=24) (by kernel_rfl) rfl rfl rfl rfl (fun K hK=>?_) (fun K hK=>?_)
   ·go_simp
    go_at_call 93
    refine (HEN.out _ (by with_reducible exact (Below.refl w4.heap.size w4).drew)).mono ?_
    rintro e w3 ⟨u1,u2,rfl,U1,U2,hb3⟩;skip;have hb:=(Below.refl w4.heap.size w4).drew.trans (hb3.mono (Below.refl w4.heap.size w4).drew.size);obtain ⟨ts,hts⟩:∃ y:Array Value,y=#[u1,u2,.int .i64 dl.g,.bool dl.cl]:=⟨_,rfl⟩;dsimp only;rw[← hts];have HT:=hide hts;clear hts;refine hK _ _ hb ?_;clear hK K;refine Od.Z 21 (.tuple #[.agg ts,(.int .i64 de)]) 25 rfl rfl hb (fun wx hSw=>?_) ?_
    ·go_simp
    refine Od.Z 22 (.agg ts) 47 rfl rfl hb (fun wx hSw=>?_) ?_
    ·go_simp
    refine Od.Z 23 (.int .i64 de) 48 rfl rfl hb (fun wx hSw=>?_) ?_
    ·go_simp
    refine Od.z1b (i:=24) (by kernel_rfl) rfl rfl (fun K hK=>?_)
    go_simp;refine hK _ _ (hb.alloc hb.size _) ?_;clear hK K;have q2:ts.all (fun x=>x.oneCell')=true:=by rw[HT.out];exact z2S U1 U2 _ _
    have HST:=z6C (l:=dl) U1 U2 (by rfl) hb
    rw[← HT.out]at HST;change wpAnyH _ _ _ _ _ _ _ _ (w3.alloc (.cells Z4' 47));refine Od.z0v (i:=25) (by kernel_rfl) rfl rfl 47 _ _ rfl rfl w3.heap.size 0 ts rfl rfl ((CAt.new 47 w3 Z4').there 0 _ (by rw[HT.out];exact Nat.le_of_eq rfl)) (by rw[HT.out,z4h];rfl) q2 HST.bel ?_
    refine Od.Z 26 (.int .i64 de) 13 rfl rfl HST.bel (fun wx hSw=>?_) ?_
    ·go_simp
    refine wpAnyH_done (by kernel_rfl) ?_ _
    obtain ⟨gn,hgn⟩:∃ y,y=w3.heap.size:=⟨_,rfl⟩;rw[← hgn]at HST ⊢;simp only[Od.pp,Od.pb,Od.pc];exact NoPanic.normal ⟨gn,ts,rfl,rfl,HST⟩
   ·go_simp;refine hK _ _ (hS.alloc hS.size _) ?_;clear hK K;refine Od.z1b (i:=20) (by kernel_rfl) rfl rfl (fun K hK=>?_)
    go_simp
    go_at_call 93
    refine (HEN.out _ (by with_reducible exact HALd.out)).mono ?_
    rintro e w3 ⟨u1,u2,rfl,U1,U2,hb3⟩;skip;have hb:=zbt HALd.out hb3;obtain ⟨ts,hts⟩:∃ y:Array Value,y=#[u1,u2,.int .i64 dl.g,.bool dl.cl]:=⟨_,rfl⟩;dsimp only;rw[← hts];have HT:=hide hts;clear hts;refine hK _ _ hb ?_;clear hK K;refine Od.Z 21 (.tuple #[.agg ts,(.int .i64 de)]) 25 rfl rfl hb (fun wx hSw=>?_) ?_
    ·go_simp
    refine Od.Z 22 (.agg ts) 47 rfl rfl hb (fun wx hSw=>?_) ?_
    ·go_simp
    refine Od.Z 23 (.int .i64 de) 48 rfl rfl hb (fun wx hSw=>?_) ?_
    ·go_simp
    have q2:ts.all (fun x=>x.oneCell')=true:=by rw[HT.out];exact z2S U1 U2 _ _
    have R3:=HACd.out.over hb3;have HST:=z6G (l:=dl) U1 U2 (by simp) hb R3
    rw[← HT.out]at HST;refine Od.z0v (i:=25) (by kernel_rfl) rfl rfl 47 _ _ rfl rfl w4.heap.size 0 ts rfl rfl (R3.there 0 _ (by rw[HT.out];exact Nat.le_of_eq rfl)) (by rw[HT.out,z4h];rfl) q2 HST.bel ?_
    refine Od.Z 26 (.int .i64 de) 13 rfl rfl HST.bel (fun wx hSw=>?_) ?_
    ·go_simp
    refine wpAnyH_done (by kernel_rfl) ?_ _
    obtain ⟨gn,hgn⟩:∃ y,y=w4.heap.size:=⟨_,rfl⟩;rw[← hgn]at HST ⊢;simp only[Od.pp,Od.pb,Od.pc];exact NoPanic.normal ⟨gn,ts,rfl,rfl,HST⟩
  rintro gn ts w5 S5;have HS5:=hide S5;have hle:=S5.le;have hlt5:=S5.cat.lt;have HB5:=hide (zbt HB4.out S5.bel);have HK5:=hide (HK4.out.over S5.bel);clear S5 HLF HEN HALd HACd HK4;have hgn:g≠gn:=by omega
  simp only[Exit.then];apply_assumption
  by_cases hE:de=0
  case neg =>
   replace HD:=hide (HD.out.trans (if_neg hE));have hE':(de != 0)=true:=by simpa using hE
   go_wp2;go_ret2;rw[HD.out];exact ⟨rfl,.same (HC.out.over HB5.out) HI.out hg (Alt.of HB5.out)⟩
  subst hE;replace HD:=hide (HD.out.trans (if_pos rfl));have hdg:=HDL.out rfl;obtain ⟨u1,u2,hu0,hu1,hu2⟩:=HS5.out.ex;have HU:=hide (show _/\_/\_ from ⟨hu0,hu1,hu2⟩);clear hu0 hu1 hu2 HDL
  by_cases hH:he=0
  case neg =>
   replace HD:=hide (HD.out.trans (if_neg hH));have hH':(he != 0)=true:=by simpa using hH
   go_wp2_with (go_at_call 94;refine (HHR.out _ HB5.out).mono ?_;rintro e w6 ⟨rfl,Z6⟩;have HZ6:=hide Z6;clear Z6;dsimp only)
   go_ret2;rw[HD.out];obtain ⟨v6,C6,I6,A6⟩:=HZ6.out
   exact ⟨rfl,v6,C6,I6.mono fun b _ hb=>by
    rcases hb with ⟨hb,hl⟩ | hb
    ·by_cases hw:b<w.heap.size
     ·exact .inl ⟨hb,hw⟩
     ·exact .inr (by omega)
    ·exact .inr (by have:=HB5.out.size;omega),(Alt.of (g:=g) HB5.out).trans A6⟩
  subst hH;replace HD:=hide (HD.out.trans (if_pos rfl))
  go_upto_region 11 with (go_at_call 94;refine (HHR.out _ HB5.out).mono ?_;rintro e w6 ⟨rfl,Z6⟩;have HZ6:=hide Z6;clear Z6;dsimp only)
  obtain ⟨v6,C6,I6,A6⟩:=HZ6.out
  have I6':WIn (New P w 0) w6 xh v6:=I6.mono fun b _ hb=>by
   rcases hb with ⟨hb,hl⟩ | hb
   ·by_cases hw:b<w.heap.size
    ·exact .inl ⟨hb,hw⟩
    ·exact .inr (by omega)
   ·exact .inr (by have:=HB5.out.size;omega)
  have hng:¬ New P w 0 g:=Pv.z0I hg hlt
  have key:∀ b,b<w5.heap.size->(New P w4 0 b/\b≠gn)->New P w 0 b:=fun b _ hb=>by
   rcases hb.1 with ⟨hb,hl⟩ | hb
   ·by_cases hw:b<w.heap.size
    ·exact .inl ⟨hb,hw⟩
    ·exact .inr (by omega)
   ·exact .inr (by omega)
  have K6:=A6.cat (b:=gy) (by omega) HK5.out
  have L6:=A6.cat (b:=gn) (by omega) HS5.out.cat
  have y0:w6.cell? ⟨gy,0,none⟩=some (.pointer (some ⟨g,99+i * 22+14,none⟩)):=K6.cell 0;have R1:z0D (New P w 0) w6 u1 1 16 (txC dl.S):=(HU.out.2.1.mono key).keep fun b hb hl=>A6.block b hl fun e=>hng (e ▸ hb);have R2:z0D (New P w 0) w6 u2 1 8 (inC dl.D):=(HU.out.2.2.mono key).keep fun b hb hl=>A6.block b hl fun e=>hng (e ▸ hb)
  have l6:(z2x (.pointer (some ⟨gn,0,none⟩))).run prog w6=.ok (.agg ts) w6:=by
   have h:=z6A L6.range (by rw[HU.out.1];rfl)
   simpa using h
  have s6:=q1y ((z9O xh v6 hi dl u1 u2).there C6) rfl (by have h:=z2S R1 R2 dl.g dl.cl;simpa [lnL] using h)
  have Z7:=q9A I6' hng C6 hi R1 R2;change (z3q (.pointer (some ⟨g,99+i * 22+14,none⟩)) (.agg #[u1,u2,.int .i64 dl.g,.bool dl.cl])).run prog w6=_ at s6;rw[← HU.out.1]at s6;have L7:=L6.others (c:=g) (o:=99+i * 22+14) (by omega) (lnL dl u1 u2)
  have HX:=hide (z0Y.trans ((Alt.of (g:=g) HB5.out).trans A6) Z7);rw[HU.out.1]at L7;generalize w6.setCells g (99+i * 22+14) (lnL dl u1 u2)=w7 at *;have y7:w7.cell? ⟨gn,2,none⟩=some (.int .i64 (lg+1)):=by rw[← hdg];exact L7.cell 2
  have hz6g:=C6.lt;have hz6y:=K6.lt;have hz6n:=L6.lt;have hz7n:=L7.lt;clear C6 I6 I6' A6 K6 L6 R1 R2 Z7 L7 HZ6 key;go_wp2;go_ret2;rw[HD.out];exact ⟨rfl,HX.out⟩
end Wd
namespace Wd
open Go.RowKit Pv Kc
attribute [local go_sem ↓] z2I z2h z4A
theorem j6z(f:Bool)(g:Nat)(x:Wo)(v:WoV)(P:Nat->Prop)(w:World)(i:Nat)(hi:i<2)(hC:CAt 98 w g (wdC x v))(hI:WIn P w x v)(hg:¬ P g)(hgl:Ln.z0W (z1r x i false)=true)(hsm:small (z1r x i false).S)(hq88:x.p.q.length * 88<=140737488351232)(h80:(x.c i).pd.length * 80<=140737488351232) :
  Calls prog 71 #[.pointer (some ⟨g,0,none⟩),.int .i64 (i:Int),.bool false,.bool f] w (z8W P w g (q0O x i false f)):=by
 have hD:q0O x i false f=if Ln.z4r (x.p.L i).out ((x.p.L i).out.g+1) (z0P x i false f) (x.c i).h2 x.ck=0 then (if (z1V x i false (z0P x i false f)).2=0 then (z1T (z1V x i false (z0P x i false f)).1 i false (Ln.z5l (x.p.L i).out ((x.p.L i).out.g+1) (z0P x i false f) (x.c i).h2 x.ck),(x.p.L i).out.g+1,0) else ((z1V x i false (z0P x i false f)).1,0,(z1V x i false (z0P x i false f)).2)) else (x,0,Ln.z4r (x.p.L i).out ((x.p.L i).out.g+1) (z0P x i false f) (x.c i).h2 x.ck):=rfl;have hdl:Ln.z4r (x.p.L i).out ((x.p.L i).out.g+1) (z0P x i false f) (x.c i).h2 x.ck=0->(Ln.z5l (x.p.L i).out ((x.p.L i).out.g+1) (z0P x i false f) (x.c i).h2 x.ck).g=(x.p.L i).out.g+1:=fun h=>by rw[z9u h]
 change Ln.z0W (x.p.L i).out=true at hgl;change small (x.p.L i).out.S at hsm;obtain ⟨-,hS4,-,hg0,hg1⟩:=(z1p _).1 hgl
 have hnx:(z3I (x.p.L i).out).size<=100:=by
  unfold z3I
  split
  ·decide
  ·rename_i hn;refine hsm _ ?_;rw[List.getD_eq_getElem?_getD,List.getElem?_eq_getElem (by omega)]
   exact List.getElem_mem _
 have htx:(z0P x i false f).size<=maxLen:=by
  have hm:(1000:Nat)<=maxLen:=by decide
  have h2:(q1e (z3I (x.p.L i).out)).size<=100:=z4Y (by simp) (by simp)
  have h3:(z0P x i false f).size<=100:=by
   cases f
   ·exact hnx
   ·exact h2
  omega
 have hlt:=hC.lt;have hi2:(i:Int)<2:=by omega
 have hi0:(0:Int)<=(i:Int):=by omega
 have hw1:IntKind.i64.wrap ((x.p.L i).out.g+1)=(x.p.L i).out.g+1:=z6V (by omega) (by omega)
 have hr1:z0D P w (v.p.l i).said 1 16 (txC (x.p.L i).out.S):=(hI.p.lk i hi).said;have hr2:z0D P w (v.p.l i).due 1 8 (inC (x.p.L i).out.D):=(hI.p.lk i hi).due;have HLN:=hide (fun (wx:World) (hb:Below w.heap.size w wx)=>(q0B x v hi (x.p.L i).out (v.p.l i).said (v.p.l i).due).part (hC.over hb));have HNX:=hide (fun (wx:World) (hb:Below w.heap.size w wx)=>q0b g (68+i * 14+6) (x.p.L i).out (v.p.l i).said P wx (hr1.over hb) (z8I (HLN.out wx hb)).1 (z8I (HLN.out wx hb)).2 hg0);have HFG:=hide (fun (wx:World)=>z9H (z3I (x.p.L i).out) wx (by omega))
 have HEX:=hide (fun (w4 wx:World) (h4:Below w.heap.size w w4) (hb:Below w4.heap.size w4 wx)=>q7l (x.p.L i).out ((x.p.L i).out.g+1) (z0P x i false f) (x.c i).h2 x.ck (v.p.l i).said (v.p.l i).due (fun b=>P b/\b<w4.heap.size) wx ((((hr1.over h4).mono (P':=fun b=>P b/\b<w4.heap.size) fun b hl hp=>⟨hp,hl⟩).over hb)) ((((hr2.over h4).mono (P':=fun b=>P b/\b<w4.heap.size) fun b hl hp=>⟨hp,hl⟩).over hb)));have HLX:=hide (fun (wx:World) (hb:Below w.heap.size w wx)=>(show (z2x (.pointer (some ⟨g,68+i * 14+6,none⟩))).run prog wx=.ok (.agg #[(v.p.l i).said,(v.p.l i).due,.int .i64 (x.p.L i).out.g,.bool (x.p.L i).out.cl]) wx/\wx.cell? ⟨g,68+i * 14+6+2,none⟩=some (.int .i64 (x.p.L i).out.g)/\wx.cell? ⟨g,99+i * 22+18+2,none⟩=some (.int .i64 (x.c i).h2)/\wx.cell? ⟨g,0,none⟩=some (.int .i64 x.ck) from ⟨z6A (HLN.out wx hb) rfl,(z8I (HLN.out wx hb)).2,(z9h (hC.over hb) hi).2.1,(hC.over hb).cell 0⟩));have HHR:=hide (fun (wx:World) (hb:Below w.heap.size w wx)=>q0t g x v P wx i hi false (z0P x i false f) (hC.over hb) (hI.over hb) hg htx hq88 h80);have HWY:=hide (q0g g i hi w);have HC:=hide hC;have HI:=hide hI;clear hC hI hr1 hr2 HLN hq88 h80 hgl hsm hS4 hg0 hg1 hnx htx;generalize q0O x i false f=D at *;generalize z1V x i false (z0P x i false f)=rh at *;obtain ⟨xh,he⟩:=rh;dsimp only at hD;generalize Ln.z4r (x.p.L i).out ((x.p.L i).out.g+1) (z0P x i false f) (x.c i).h2 x.ck=de at *;generalize Ln.z5l (x.p.L i).out ((x.p.L i).out.g+1) (z0P x i false f) (x.c i).h2 x.ck=dl at *
 have HTX:Hid (f=false/\z0P x i false f=z3I (x.p.L i).out∨f=true/\z0P x i false f=q1e (z3I (x.p.L i).out)):=by
  cases f
  ·exact .inl ⟨rfl,rfl⟩
  ·exact .inr ⟨rfl,rfl⟩
 generalize z0P x i false f=tx at *;generalize z3I (x.p.L i).out=nx at *;generalize Value.agg #[(v.p.l i).said,(v.p.l i).due,.int .i64 (x.p.L i).out.g,.bool (x.p.L i).out.cl]=V0 at *;generalize (x.p.L i).out.g=lg at *;generalize (x.c i).h2=sd at *;have HD:=hide hD;have HDL:=hide hdl;clear hD hdl
 go_enter func71,ntmps71
 go_upto_region 2 with (go_at_call 90;refine HWY.out.mono ?_;rintro e w1 ⟨rfl,hb1⟩;obtain ⟨w2,s2,K2,bS⟩:=z9p w1 (.pointer (some ⟨g,68+i * 14+6,none⟩)) (.pointer (some ⟨g,68+i * 14+10,none⟩)) (.pointer (some ⟨g,99+i * 22+18,none⟩)) (by simp[Value.oneCell']);have HK2:=hide (show _/\_ from ⟨K2,zbt hb1 bS⟩);have hs1:=hb1.size;clear K2 bS hb1)
 clear s2 HWY;obtain ⟨gy,hgy⟩:∃ y,y=w1.heap.size:=⟨_,rfl⟩;rw[← hgy]at HK2 hs1 ⊢;clear hgy;have hgg:g≠gy:=by omega
 have k0:w2.cell? ⟨gy,0,none⟩=some (.pointer (some ⟨g,68+i * 14+6,none⟩)):=HK2.out.1.cell 0;have hzy:=HK2.out.1.lt
 rcases HTX.out with ⟨rfl,e0⟩ | ⟨rfl,e1⟩
 all_goals clear HTX
 all_goals first | (subst e0;clear HFG) | (rw[← e1]at HFG;clear e1)
 all_goals
  go_upto_region 5 with (first | (go_at_call 92;refine (HFG.out _).mono ?_;rintro e w4 ⟨rfl,hb4⟩;have HB4:=hide (zbt HB3.out hb4);have HK4:=hide (HK3.out.over hb4);clear hb4) | (go_at_call 91;have _m:=HFG;refine (HNX.out _ (by with_reducible exact HK2.out.2)).mono ?_;rintro e w3 ⟨rfl,hb3⟩;have HB3:=hide (zbt HK2.out.2 hb3);have HK3:=hide (HK2.out.1.over hb3);clear hb3) | (go_at_call 91;refine (HNX.out _ (by with_reducible exact HK2.out.2)).mono ?_;rintro e w4 ⟨rfl,hb4⟩;have HB4:=hide (zbt HK2.out.2 hb4);have HK4:=hide (HK2.out.1.over hb4);clear hb4))
  clear k0 HK2 HNX
  try clear HB3 HK3 HFG _m
  have hz4:=HB4.out.size;have HEN:=hide (fun (wx:World) (hb:Below w4.heap.size w4 wx)=>HEX.out w4 wx HB4.out hb);have HLF:Hid (∀ (wx:World),Below w4.heap.size w4 wx->wx.cell? ⟨gy,0,none⟩=some (.pointer (some ⟨g,68+i * 14+6,none⟩))/\wx.cell? ⟨gy,2,none⟩=some (.pointer (some ⟨g,99+i * 22+18,none⟩))/\(z2x (.pointer (some ⟨g,68+i * 14+6,none⟩))).run prog wx=.ok V0 wx/\wx.cell? ⟨g,68+i * 14+6+2,none⟩=some (.int .i64 lg)/\wx.cell? ⟨g,99+i * 22+18+2,none⟩=some (.int .i64 sd)/\wx.cell? ⟨g,0,none⟩=some (.int .i64 x.ck)):=fun wx hb=>⟨(HK4.out.over hb).cell 0,(HK4.out.over hb).cell 2,HLX.out wx (zbt HB4.out hb)⟩;have HALd:Hid (Below w4.heap.size w4 (w4.alloc (.cells Z4' 47)).drew):=(znw w4 _).drew;have HACd:Hid (CAt 47 (w4.alloc (.cells Z4' 47)).drew w4.heap.size Z4'):=CAt.new 47 w4 Z4';unfold Z4' at HALd;clear HEX HLX;apply z9G (fun (gn:Nat) (ts:Array Value) w'=>j5Q P w4 dl gn ts w')
  ·skip;refine wp_region_noPanic ?_;refine wp_region_held_drew (S:=fun wx=>Below w4.heap.size w4 wx) (by kernel_rfl) (Below.refl _ _).drew (fun hS=>?_)
   refine Od.G 0 (.pointer (some ⟨gy,0,none⟩)) 26 rfl rfl hS ?_;refine Od.Z 1 (.pointer (some ⟨g,68+i * 14+6,none⟩)) 27 rfl rfl hS (fun wx hSw=>by obtain ⟨k0,k2,l3,l4,l5,l6⟩:=HLF.out wx hSw;go_simp) ?_
   refine Od.G 2 (.pointer (some ⟨g,68+i * 14+6,none⟩)) 28 rfl rfl hS ?_;refine Od.Z 3 V0 29 rfl rfl hS (fun wx hSw=>by obtain ⟨k0,k2,l3,l4,l5,l6⟩:=HLF.out wx hSw;go_simp) ?_
   refine Od.G 4 (.pointer (some ⟨gy,0,none⟩)) 30 rfl rfl hS ?_;refine Od.Z 5 (.pointer (some ⟨g,68+i * 14+6,none⟩)) 31 rfl rfl hS (fun wx hSw=>by obtain ⟨k0,k2,l3,l4,l5,l6⟩:=HLF.out wx hSw;go_simp) ?_
   refine Od.G 6 (.pointer (some ⟨g,68+i * 14+6,none⟩)) 32 rfl rfl hS ?_;refine Od.G 7 (.pointer (some ⟨g,68+i * 14+6+2,none⟩)) 33 rfl rfl hS ?_;refine Od.Z 8 (.int .i64 lg) 34 rfl rfl hS (fun wx hSw=>by obtain ⟨k0,k2,l3,l4,l5,l6⟩:=HLF.out wx hSw;go_simp) ?_
   refine Od.G 9 (.int .i64 (lg+1)) 35 rfl rfl hS ?_;refine Od.G 10 (.string tx) 36 rfl rfl hS ?_;refine Od.G 11 (.pointer (some ⟨gy,2,none⟩)) 37 rfl rfl hS ?_;refine Od.Z 12 (.pointer (some ⟨g,99+i * 22+18,none⟩)) 38 rfl rfl hS (fun wx hSw=>by obtain ⟨k0,k2,l3,l4,l5,l6⟩:=HLF.out wx hSw;go_simp) ?_
   refine Od.G 13 (.pointer (some ⟨g,99+i * 22+18,none⟩)) 39 rfl rfl hS ?_;refine Od.G 14 (.pointer (some ⟨g,99+i * 22+18+2,none⟩)) 40 rfl rfl hS ?_;refine Od.Z 15 (.int .i64 sd) 41 rfl rfl hS (fun wx hSw=>by obtain ⟨k0,k2,l3,l4,l5,l6⟩:=HLF.out wx hSw;go_simp) ?_
   refine Od.G 16 (.pointer (some ⟨g,0,none⟩)) 42 rfl rfl hS ?_;refine Od.G 17 (.pointer (some ⟨g,0,none⟩)) 43 rfl rfl hS ?_;refine Od.G 18 (.pointer (some ⟨g,0,none⟩)) 44 rfl rfl hS ?_;refine Od.Z 19 (.int .i64 x.ck) 45 rfl rfl hS (fun wx hSw=>by obtain ⟨k0,k2,l3,l4,l5,l6⟩:=HLF.out wx hSw;go_simp) ?_
   refine Od.z3U (i:=20) (j:=24) (by kernel_rfl) rfl rfl rfl rfl (fun K hK=>?_) (fun K hK=>?_)
   ·go_simp
    go_at_call 93
    refine (HEN.out _ (by with_reducible exact (Below.refl w4.heap.size w4).drew)).mono ?_
    rintro e w3 ⟨u1,u2,rfl,U1,U2,hb3⟩;skip;have hb:=(Below.refl w4.heap.size w4).drew.trans (hb3.mono (Below.refl w4.heap.size w4).drew.size);obtain ⟨ts,hts⟩:∃ y:Array Value,y=#[u1,u2,.int .i64 dl.g,.bool dl.cl]:=⟨_,rfl⟩;dsimp only;rw[← hts];have HT:=hide hts;clear hts;refine hK _ _ hb ?_;clear hK K;refine Od.Z 21 (.tuple #[.agg ts,(.int .i64 de)]) 25 rfl rfl hb (fun wx hSw=>?_) ?_
    ·go_simp
    refine Od.Z 22 (.agg ts) 47 rfl rfl hb (fun wx hSw=>?_) ?_
    ·go_simp
    refine Od.Z 23 (.int .i64 de) 48 rfl rfl hb (fun wx hSw=>?_) ?_
    ·go_simp
    refine Od.z1b (i:=24) (by kernel_rfl) rfl rfl (fun K hK=>?_)
    go_simp;refine hK _ _ (hb.alloc hb.size _) ?_;clear hK K;have q2:ts.all (fun x=>x.oneCell')=true:=by rw[HT.out];exact z2S U1 U2 _ _
    have HST:=z6C (l:=dl) U1 U2 (by rfl) hb
    rw[← HT.out]at HST;change wpAnyH _ _ _ _ _ _ _ _ (w3.alloc (.cells Z4' 47));refine Od.z0v (i:=25) (by kernel_rfl) rfl rfl 47 _ _ rfl rfl w3.heap.size 0 ts rfl rfl ((CAt.new 47 w3 Z4').there 0 _ (by rw[HT.out];exact Nat.le_of_eq rfl)) (by rw[HT.out,z4h];rfl) q2 HST.bel ?_
    refine Od.Z 26 (.int .i64 de) 13 rfl rfl HST.bel (fun wx hSw=>?_) ?_
    ·go_simp
    refine wpAnyH_done (by kernel_rfl) ?_ _
    obtain ⟨gn,hgn⟩:∃ y,y=w3.heap.size:=⟨_,rfl⟩;rw[← hgn]at HST ⊢;simp only[Od.pp,Od.pb,Od.pc];exact NoPanic.normal ⟨gn,ts,rfl,rfl,HST⟩
   ·go_simp;refine hK _ _ (hS.alloc hS.size _) ?_;clear hK K;refine Od.z1b (i:=20) (by kernel_rfl) rfl rfl (fun K hK=>?_)
    go_simp
    go_at_call 93
    refine (HEN.out _ (by with_reducible exact HALd.out)).mono ?_
    rintro e w3 ⟨u1,u2,rfl,U1,U2,hb3⟩;skip;have hb:=zbt HALd.out hb3;obtain ⟨ts,hts⟩:∃ y:Array Value,y=#[u1,u2,.int .i64 dl.g,.bool dl.cl]:=⟨_,rfl⟩;dsimp only;rw[← hts];have HT:=hide hts;clear hts;refine hK _ _ hb ?_;clear hK K;refine Od.Z 21 (.tuple #[.agg ts,(.int .i64 de)]) 25 rfl rfl hb (fun wx hSw=>?_) ?_
    ·go_simp
    refine Od.Z 22 (.agg ts) 47 rfl rfl hb (fun wx hSw=>?_) ?_
    ·go_simp
    refine Od.Z 23 (.int .i64 de) 48 rfl rfl hb (fun wx hSw=>?_) ?_
    ·go_simp
    have q2:ts.all (fun x=>x.oneCell')=true:=by rw[HT.out];exact z2S U1 U2 _ _
    have R3:=HACd.out.over hb3;have HST:=z6G (l:=dl) U1 U2 (by simp) hb R3
    rw[← HT.out]at HST;refine Od.z0v (i:=25) (by kernel_rfl) rfl rfl 47 _ _ rfl rfl w4.heap.size 0 ts rfl rfl (R3.there 0 _ (by rw[HT.out];exact Nat.le_of_eq rfl)) (by rw[HT.out,z4h];rfl) q2 HST.bel ?_
    refine Od.Z 26 (.int .i64 de) 13 rfl rfl HST.bel (fun wx hSw=>?_) ?_
    ·go_simp
    refine wpAnyH_done (by kernel_rfl) ?_ _
    obtain ⟨gn,hgn⟩:∃ y,y=w4.heap.size:=⟨_,rfl⟩;rw[← hgn]at HST ⊢;simp only[Od.pp,Od.pb,Od.pc];exact NoPanic.normal ⟨gn,ts,rfl,rfl,HST⟩
  rintro gn ts w5 S5;have HS5:=hide S5;have hle:=S5.le;have hlt5:=S5.cat.lt;have HB5:=hide (zbt HB4.out S5.bel);have HK5:=hide (HK4.out.over S5.bel);clear S5 HLF HEN HALd HACd HK4;have hgn:g≠gn:=by omega
  simp only[Exit.then];apply_assumption
  by_cases hE:de=0
  case neg =>
   replace HD:=hide (HD.out.trans (if_neg hE));have hE':(de != 0)=true:=by simpa using hE
   go_wp2;go_ret2;rw[HD.out];exact ⟨rfl,.same (HC.out.over HB5.out) HI.out hg (Alt.of HB5.out)⟩
  subst hE;replace HD:=hide (HD.out.trans (if_pos rfl));have hdg:=HDL.out rfl;obtain ⟨u1,u2,hu0,hu1,hu2⟩:=HS5.out.ex;have HU:=hide (show _/\_/\_ from ⟨hu0,hu1,hu2⟩);clear hu0 hu1 hu2 HDL
  by_cases hH:he=0
  case neg =>
   replace HD:=hide (HD.out.trans (if_neg hH));have hH':(he != 0)=true:=by simpa using hH
   go_wp2_with (go_at_call 94;refine (HHR.out _ HB5.out).mono ?_;rintro e w6 ⟨rfl,Z6⟩;have HZ6:=hide Z6;clear Z6;dsimp only)
   go_ret2;rw[HD.out];obtain ⟨v6,C6,I6,A6⟩:=HZ6.out
   exact ⟨rfl,v6,C6,I6.mono fun b _ hb=>by
    rcases hb with ⟨hb,hl⟩ | hb
    ·by_cases hw:b<w.heap.size
     ·exact .inl ⟨hb,hw⟩
     ·exact .inr (by omega)
    ·exact .inr (by have:=HB5.out.size;omega),(Alt.of (g:=g) HB5.out).trans A6⟩
  subst hH;replace HD:=hide (HD.out.trans (if_pos rfl))
  go_upto_region 11 with (go_at_call 94;refine (HHR.out _ HB5.out).mono ?_;rintro e w6 ⟨rfl,Z6⟩;have HZ6:=hide Z6;clear Z6;dsimp only)
  obtain ⟨v6,C6,I6,A6⟩:=HZ6.out
  have I6':WIn (New P w 0) w6 xh v6:=I6.mono fun b _ hb=>by
   rcases hb with ⟨hb,hl⟩ | hb
   ·by_cases hw:b<w.heap.size
    ·exact .inl ⟨hb,hw⟩
    ·exact .inr (by omega)
   ·exact .inr (by have:=HB5.out.size;omega)
  have hng:¬ New P w 0 g:=Pv.z0I hg hlt
  have key:∀ b,b<w5.heap.size->(New P w4 0 b/\b≠gn)->New P w 0 b:=fun b _ hb=>by
   rcases hb.1 with ⟨hb,hl⟩ | hb
   ·by_cases hw:b<w.heap.size
    ·exact .inl ⟨hb,hw⟩
    ·exact .inr (by omega)
   ·exact .inr (by omega)
  have K6:=A6.cat (b:=gy) (by omega) HK5.out
  have L6:=A6.cat (b:=gn) (by omega) HS5.out.cat
  have y0:w6.cell? ⟨gy,0,none⟩=some (.pointer (some ⟨g,68+i * 14+6,none⟩)):=K6.cell 0;have R1:z0D (New P w 0) w6 u1 1 16 (txC dl.S):=(HU.out.2.1.mono key).keep fun b hb hl=>A6.block b hl fun e=>hng (e ▸ hb);have R2:z0D (New P w 0) w6 u2 1 8 (inC dl.D):=(HU.out.2.2.mono key).keep fun b hb hl=>A6.block b hl fun e=>hng (e ▸ hb)
  have l6:(z2x (.pointer (some ⟨gn,0,none⟩))).run prog w6=.ok (.agg ts) w6:=by
   have h:=z6A L6.range (by rw[HU.out.1];rfl)
   simpa using h
  have s6:=q1y ((q0B xh v6 hi dl u1 u2).there C6) rfl (by have h:=z2S R1 R2 dl.g dl.cl;simpa [lnL] using h)
  have Z7:=q8F I6' hng C6 hi R1 R2;change (z3q (.pointer (some ⟨g,68+i * 14+6,none⟩)) (.agg #[u1,u2,.int .i64 dl.g,.bool dl.cl])).run prog w6=_ at s6;rw[← HU.out.1]at s6;have L7:=L6.others (c:=g) (o:=68+i * 14+6) (by omega) (lnL dl u1 u2)
  have HX:=hide (z0Y.trans ((Alt.of (g:=g) HB5.out).trans A6) Z7);rw[HU.out.1]at L7;generalize w6.setCells g (68+i * 14+6) (lnL dl u1 u2)=w7 at *;have y7:w7.cell? ⟨gn,2,none⟩=some (.int .i64 (lg+1)):=by rw[← hdg];exact L7.cell 2
  have hz6g:=C6.lt;have hz6y:=K6.lt;have hz6n:=L6.lt;have hz7n:=L7.lt;clear C6 I6 I6' A6 K6 L6 R1 R2 Z7 L7 HZ6 key;go_wp2;go_ret2;rw[HD.out];exact ⟨rfl,HX.out⟩
end Wd
namespace Wd
open Go.RowKit Pv Kc
def j8q(l:List Dd):Wo:=l.foldl (fun x d=>(doW x d).1) z6t
def stW(l:List Dd)(k:Nat):Wo:=j8q (l.take k)
theorem z9c{l:List Dd}{k:Nat}{d:Dd}(h:l[k]?=some d):stW l (k+1)=(doW (stW l k) d).1:=by
 unfold stW j8q;rw[List.take_add_one,h,List.foldl_append];rfl
def dA:Dd:=⟨1,0,0,0,700,false,false⟩
def dB:Dd:=⟨5,0,0,0,5,false,false⟩
def dC:Dd:=⟨6,0,0,0,0,false,false⟩
def dD:Dd:=⟨4,0,0,0,0,false,false⟩
theorem j3t:(doW z6t dA).2.1=0:=by decide +kernel
theorem j4K:(doW (doW z6t dA).1 dB).2.2=5:=by decide +kernel
theorem j3D:(doW (doW (doW z6t dA).1 dB).1 dC).2.1=0:=by decide +kernel
theorem j4W:(doW (doW (doW (doW z6t dA).1 dB).1 dC).1 dD).2.2=1:=by decide +kernel
theorem j3y:(doW (doW (doW (doW z6t dA).1 dB).1 dC).1 dD).1.ck=5:=by decide +kernel
theorem j4X:((doW (doW (doW (doW z6t dA).1 dB).1 dC).1 dD).1.c 0).set.length=1:=by decide +kernel
end Wd
end Go.Proofs.YtmopekkhmhhcaaaGreat
