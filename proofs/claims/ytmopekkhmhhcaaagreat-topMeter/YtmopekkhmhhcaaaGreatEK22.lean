/- Parts of the proof. -/
import Derived.Test.YtmopekkhmhhcaaaGreatEL
import Derived.Test.YtmopekkhmhhcaaaGreatEK33
set_option maxRecDepth 100000
set_option maxHeartbeats 16000000
namespace Go.Proofs.YtmopekkhmhhcaaaGreat
open Go.Proofs.Tryz
namespace Wd
open Go.RowKit Pv Kc
theorem q7S(L:Nat->Lk)(k:Nat):z0Q L k (L k)=L:=by
 funext i
 unfold z0Q
 by_cases h:i=k
 ·rw[if_pos h,h]
 ·rw[if_neg h]
theorem q6e{p:Pr}{v:PrV}(k:Nat)(hk:k<2)(j:Nat)(y:Value)(u:LkV)(hj:j<14)(h:lkL (p.L k) u=(lkL (p.L k) (v.l k)).set j y):(prC p v).setIfInBounds (66+k * 14+j) y=prC p (v.upd k u):=by
 have:=q3a (p:=p) (v:=v) k hk j y (p.L k) u hj h
 rwa [q7S]at this
theorem j7h(p:Pr)(v:PrV){k:Nat}(hk:k<2)(u:LkV):At (prC p v) (66+k * 14) (lkL (p.L k) (v.l k)) (lkL (p.L k) u) (prC p (v.upd k u)):=by
 have:=q8c p v hk (p.L k) u
 rwa [q7S]at this
theorem z9e(p:Pr)(v:PrV){k:Nat}(hk:k<2)(u1 u2:Value):At (prC p v) (66+k * 14+6) (lnL (p.L k).out (v.l k).said (v.l k).due) (lnL (p.L k).out u1 u2) (prC p (v.upd k { v.l k with said:=u1,due:=u2 })):=
 (j7h p v hk { v.l k with said:=u1,due:=u2 }).nest (by simpa using q7r (p.L k) (v.l k) (p.L k).out u1 u2)
structure z7k(w:World)(p:Pr)(v:PrV)(wl:World):Prop where
 cat:CAt 57 wl w.heap.size (prC p v)
 res:CAt 57 wl (w.heap.size+1) zeroCells57
 bel:Below w.heap.size w wl
theorem z7k.over{w wl w':World}{p:Pr}{v:PrV}(h:z7k w p v wl)(hb:Below wl.heap.size wl w'):z7k w p v w':=⟨h.cat.over hb,h.res.over hb,zbt h.bel hb⟩
theorem z7k.set{w wl:World}{p:Pr}{v v':PrV}(h:z7k w p v wl)(o:Nat)(x:Value)(e:(prC p v).setIfInBounds o x=prC p v'):z7k w p v' (wl.setCell ⟨w.heap.size,o,none⟩ x):=by
 have k:=h.cat.set o x;rw[e]at k;exact ⟨k,h.res.other (by omega) x,h.bel.setCell (p:=⟨w.heap.size,o,none⟩) (Nat.le_refl _) x⟩
theorem z5s.keep'{P:Nat->Prop}{w w':World}{x:Lk}{v:LkV}(h:z5s P w x v)(hk:∀ b,P b->b<w.heap.size->w'.heap[b]?=w.heap[b]?):z5s P w' x v:=⟨h.told.keep hk,h.done.keep hk,h.said.keep hk,h.due.keep hk⟩
structure LkR(w:World)(p:Pr)(v:PrV)(k:Nat)(wl:World):Prop where
 half:∃ v',v'.q=v.q/\z7k w p v' wl/\Rep (fun b=>w.heap.size+2<=b) wl v'.ws 8 64 (wsL p.s.W)/\Rep (fun b=>w.heap.size+2<=b) wl v'.set 2 16 (pwC p.set)/\(∀ c,c<k->z5s (fun b=>w.heap.size+2<=b) wl (p.L c) (v'.l c))/\∀ c,k<=c->v'.l c=v.l c
theorem LkR.step{w:World}{p:Pr}{v:PrV}{k:Nat}(hk:k<2){wl w':World}{v':PrV}(u:LkV)(hq:v'.q=v.q)(hh:z7k w p (v'.upd k u) w')(h1:Rep (fun b=>w.heap.size+2<=b) wl v'.ws 8 64 (wsL p.s.W))(h2:Rep (fun b=>w.heap.size+2<=b) wl v'.set 2 16 (pwC p.set))(h3:∀ c,c<k->z5s (fun b=>w.heap.size+2<=b) wl (p.L c) (v'.l c))(h4:∀ c,k<=c->v'.l c=v.l c)(hu:z5s (fun b=>w.heap.size+2<=b) w' (p.L k) u)(hk':∀ b,w.heap.size+2<=b->b<wl.heap.size->w'.heap[b]?=wl.heap[b]?):LkR w p v (k+1) w':=by
 refine ⟨⟨v'.upd k u,hq,hh,h1.keep hk',h2.keep hk',fun c hc=>?_,fun c hc=>?_⟩⟩
 ·by_cases e:c=k
  ·subst e
   show z5s _ _ _ (if c=c then u else _)
   rw[if_pos rfl];exact hu
  ·show z5s _ _ _ (if c=k then u else _)
   rw[if_neg e];exact z5s.keep' (h3 c (by omega)) hk'
 ·show (if c=k then u else _)=_
  rw[if_neg (by omega)]
  exact h4 c (by omega)
theorem q6J(v:PrV)(k:Nat)(u:LkV):(v.upd k u).l k=u:=if_pos rfl
theorem q9h(v:PrV)(k:Nat)(u u':LkV):(v.upd k u).upd k u'=v.upd k u':=by
 unfold PrV.upd
 congr 1
 funext i
 by_cases h:i=k
 ·simp[h]
 ·simp[h]
theorem j2O{P:Nat->Prop}{w:World}:∀ (q:List (Int×Pkt)) (z:List (Value×Value)),(∀ (i:Nat) (x:Int×Pkt) (y:Value×Value),q[i]?=some x->z[i]?=some y->Rep P w y.1 2 16 (pwC x.2.S)/\Rep P w y.2 1 8 (inC x.2.D))->∀ u∈quL q z,u.oneCell'=true
 | [],_,_,u,hu=>by cases hu
 | _ :: _,[],_,u,hu=>by cases hu
 | x :: q,y :: z,h,u,hu=>by
  rcases List.mem_append.1 hu with h1 | h1
  ·obtain ⟨a,b⟩:=h 0 x y rfl rfl;have e1:=z3e a;have e2:=z3e b;simp only[akL,List.mem_cons,List.not_mem_nil,or_false]at h1
   rcases h1 with rfl | rfl | rfl | rfl | rfl | rfl | rfl <;> first | rfl | assumption
  ·exact j2O q z (fun i x' y' hx hy=>h (i+1) x' y' (by simpa using hx) (by simpa using hy)) u h1
structure z7u(P:Nat->Prop)(w:World)(p:Pr)(v:PrV):Prop where
 ws:Rep P w v.ws 8 64 (wsL p.s.W)
 set:Rep P w v.set 2 16 (pwC p.set)
 lk:∀ c,c<2->z5s P w (p.L c) (v.l c)
theorem z7u.keep{P:Nat->Prop}{w w':World}{p:Pr}{v:PrV}(h:z7u P w p v)(hk:∀ b,P b->b<w.heap.size->w'.heap[b]?=w.heap[b]?):z7u P w' p v:=⟨h.ws.keep hk,h.set.keep hk,fun c hc=>z5s.keep' (h.lk c hc) hk⟩
theorem z7u.mono{P P':Nat->Prop}{w:World}{p:Pr}{v:PrV}(h:z7u P w p v)(hp:∀ b,b<w.heap.size->P b->P' b):z7u P' w p v:=⟨h.ws.mono hp,h.set.mono hp,fun c hc=>⟨(h.lk c hc).told.mono hp,(h.lk c hc).done.mono hp,(h.lk c hc).said.mono hp,(h.lk c hc).due.mono hp⟩⟩
structure QuR(w:World)(p:Pr)(P:Nat->Prop)(A:Option Addr)(C:Nat)(k:Nat)(wl:World):Prop where
 half:∃ v' z,v'.q=.slice A p.q.length C/\z7k w p v' wl/\wl.ownsRow (w.heap.size+2) 85 7 (.slice A p.q.length C) p.q.length (quL p.q z)/\(∀ g,A=some ⟨g,0,none⟩->z7Q (fun b=>P b/\b<w.heap.size) (w.heap.size+2) g wl (p.q.map (·.2)) z k/\z7u (fun b=>w.heap.size+2<=b/\b≠g) wl p v')/\z7u (fun b=>w.heap.size+2<=b) wl p v'
attribute [local go_sem ↓] z0J z0y z2I z2h
theorem q4P(p:Pr)(v:PrV)(P:Nat->Prop)(w:World)(hp:PIn P w p v)(h88:p.q.length * 88<=140737488351232) :
  Calls prog 29 #[.agg (prC p v)] w fun e w'=>∃ v',e=.returned (.agg (prC p v'))/\PIn (fun b=>w.heap.size+2<=b) w' p v'/\Below w.heap.size w w':=by
 have hp':PIn (fun b=>P b/\b<w.heap.size) w p v:=hp.mono fun b hl hb=>⟨hb,hl⟩;obtain ⟨z,hz,hzr,hzi⟩:=id hp'.q;obtain ⟨A0,C0,sb0,so0,e0,-,-,-⟩:=hp'.ws.q2h;obtain ⟨A1,C1,e1,-,-⟩:=row_of hp'.set (z0c p.set) (by decide)
 have hwl:p.s.W.length * 64<=140737488351232:=by obtain ⟨_,_,_,_,h⟩:=row_of hp'.ws (z1x p.s.W) (by decide);exact h
 have HW:=hide (fun (wx:World) (hb:Below w.heap.size w wx)=>(show Calls prog 40 #[.slice A0 p.s.W.length C0] wx fun e w'=>∃ A C,e=.returned (.slice A p.s.W.length C)/\z2f wx.heap.size w' A C p.s.W/\Below wx.heap.size wx w' from by obtain ⟨ao,c,sb,so,hve,hW,-,-⟩:=(hp'.ws.over hb).q2h;rw[e0]at hve;cases hve;exact z3B A0 p.s.W C0 sb so wx hW))
 have HS:=hide (fun (wx:World) (hb:Below w.heap.size w wx)=>z4z A1 p.set.length C1 (pwC p.set) wx (by obtain ⟨B,D,e,R,-⟩:=row_of (hp'.set.over hb) (z0c p.set) (by decide);rw[e1]at e;cases e;exact R) (z5R _) (by obtain ⟨_,_,_,_,h⟩:=row_of hp'.set (z0c p.set) (by decide);exact h))
 have HPI:=hide hp';have K0:z7k w p v ((w.alloc (.cells (prC p v) 57)).alloc (.cells zeroCells57 57)):=⟨(CAt.new _ w _).alloc _,CAt.new2 _ w _ _,(znw w _).alloc (by simp) _⟩
 clear hp hp' hzr hzi
 go_enter func29,ntmps29
 go_upto_region 1 with fail
 change Code.wp prog _ _ _ ((w.alloc (.cells (prC p v) 57)).alloc (.cells zeroCells57 57));generalize (w.alloc (.cells (prC p v) 57)).alloc (.cells zeroCells57 57)=w0 at *;have a63:w0.cell? ⟨w.heap.size,63,none⟩=some (.slice A0 p.s.W.length C0):=by rw[← e0];exact K0.cat.cell 63
 have HK0:=hide K0;have hz0:w.heap.size+2<=w0.heap.size:=K0.res.lt;clear K0
 go_upto_region 2 with (go_at_call 40;refine (HW.out _ HK0.out.bel).mono ?_;rintro e w1 ⟨B1,D1,rfl,U1,hb1⟩;have K1:=HK0.out.over hb1;have f1:=K1.cat.free 63;have y1:w1.cell? ⟨w.heap.size,63,none⟩=some v.ws:=K1.cat.cell 63;have hz1:=K1.cat.lt;have HU1:=hide (show _/\_ from ⟨U1,hb1.size⟩);clear a63 U1 hb1)
 have K2:=K1.set 63 (.slice B1 p.s.W.length D1) (v':={ v with ws:=.slice B1 p.s.W.length D1 }) rfl
 have A2:Alt w.heap.size w1 (w1.setCell ⟨w.heap.size,63,none⟩ (.slice B1 p.s.W.length D1)):=(Alt.refl _ _).set 63 _;have U2:=(A2.rep (P:=fun b=>w0.heap.size<=b) (fun h=>by omega) (Rep.own (bts:=64) HU1.out.1 hwl)).mono (P':=fun b=>w.heap.size+2<=b) fun b _ hb=>by omega
 have hs1:=HU1.out.2;clear y1 f1 K1 HU1 HK0 A2;generalize w1.setCell ⟨w.heap.size,63,none⟩ (.slice B1 p.s.W.length D1)=w2 at *;have a65:w2.cell? ⟨w.heap.size,65,none⟩=some (.slice A1 p.set.length C1):=by rw[← e1];exact K2.cat.cell 65
 have HK2:=hide (show _/\_ from ⟨K2,U2⟩);have hz2:w.heap.size+2<=w2.heap.size:=K2.res.lt;clear K2 U2 e0 e1
 go_upto_region 3 with (go_at_call 41;refine (HS.out _ HK2.out.1.bel).mono ?_;rintro e w3 ⟨B3,D3,rfl,U3,hb3⟩;have K3:=HK2.out.1.over hb3;have f3:=K3.cat.free 65;have y3:w3.cell? ⟨w.heap.size,65,none⟩=some v.set:=K3.cat.cell 65;have hz3:=K3.cat.lt;have HU3:=hide (show _/\_ from ⟨U3,hb3⟩);clear a65 U3 hb3)
 have K4:=K3.set 65 (.slice B3 p.set.length D3) (v':={ v with ws:=.slice B1 p.s.W.length D1,set:=.slice B3 p.set.length D3 }) rfl
 have A4:Alt w.heap.size w3 (w3.setCell ⟨w.heap.size,65,none⟩ (.slice B3 p.set.length D3)):=(Alt.refl _ _).set 65 _;have V4:=A4.rep (P:=fun b=>w.heap.size+2<=b) (fun h=>by omega) (HK2.out.2.over HU3.out.2)
 have S4:=(A4.rep (P:=fun b=>w2.heap.size<=b) (fun h=>by omega) HU3.out.1).mono (P':=fun b=>w.heap.size+2<=b) fun b _ hb=>by omega
 have HR0:Hid (LkR w p v 0 (w3.setCell ⟨w.heap.size,65,none⟩ (.slice B3 p.set.length D3))):=⟨⟨{ v with ws:=.slice B1 p.s.W.length D1,set:=.slice B3 p.set.length D3 },rfl,K4,V4,S4,fun c hc=>by omega,fun c _=>rfl⟩⟩
 have hz4:=K4.cat.lt;clear y3 f3 K3 K4 A4 V4 S4 HU3 HK2 HS HW;generalize w3.setCell ⟨w.heap.size,65,none⟩ (.slice B3 p.set.length D3)=w4 at *
 go_upto_region 4 with fail
 go_loopw [16] (fun i wl=>∃ (k:Nat),k<=2/\i=.int .i64 (k:Int)/\Hid (LkR w p v k wl)) (fun i _=>2 - (intOf i).toNat)
 case atStart=>exact ⟨0,by omega,rfl,HR0⟩
 case round =>
  obtain ⟨k,hk,rfl,HRR⟩:=hrel;clear HR0;obtain ⟨v',hq,KH,W4,S4,L4,N4⟩:=HRR.out.half
  by_cases hltk:k<2
  ·have hkI:(k:Int)<2:=by omega
   have hlk:v'.l k=v.l k:=N4 k (Nat.le_refl _);obtain ⟨At,Ct,et,-,hbt⟩:=row_of (HPI.out.lk k hltk).told (z0c _) (by decide)
   obtain ⟨Ad,Cd,ed,-,hbd⟩:=row_of (HPI.out.lk k hltk).done (z0n _) (by decide)
   have HT:=hide (fun (wx:World) (hb:Below w.heap.size w wx)=>z4z At (p.L k).told.length Ct (pwC (p.L k).told) wx (by obtain ⟨B,D,e,R,-⟩:=row_of ((HPI.out.lk k hltk).told.over hb) (z0c _) (by decide);rw[et]at e;cases e;exact R) (z5R _) hbt)
   have HD:=hide (fun (wx:World) (hb:Below w.heap.size w wx)=>z5P Ad (p.L k).done.length Cd (inC (p.L k).done) wx (by obtain ⟨B,D,e,R,-⟩:=row_of ((HPI.out.lk k hltk).done.over hb) (z0n _) (by decide);rw[ed]at e;cases e;exact R) (q6V _) hbd)
   have HL:=hide (fun (wx:World) (hb:Below w.heap.size w wx)=>z8L (p.L k).out (v.l k).said (v.l k).due _ wx ((HPI.out.lk k hltk).said.over hb) ((HPI.out.lk k hltk).due.over hb));have hwr:w.heap.size+2<=wr.heap.size:=KH.res.lt;have c3:wr.cell? ⟨w.heap.size,66+k * 14+3,none⟩=some (.slice At (p.L k).told.length Ct):=(KH.cat.cell (66+k * 14+3)).trans ((z4j k hltk 3 (by omega)).trans (by rw[hlk,← et];rfl))
   have HX:=hide (show _/\_/\_/\_/\_/\_/\_/\_ from ⟨KH,W4,S4,L4,N4,hlk,et,ed⟩);clear KH W4 S4 L4 N4 hlk et ed hbt hbd
   go_upto_region 8 with (go_at_call 41;refine (HT.out _ HX.out.1.bel).mono ?_;rintro e w5 ⟨B5,D5,rfl,U5,hb5⟩;have K5:=HX.out.1.over hb5;have f5:=K5.cat.free (66+k * 14+3);have hz5:=K5.cat.lt;have y5:w5.cell? ⟨w.heap.size,66+k * 14+3,none⟩=some (v.l k).told:=(K5.cat.cell (66+k * 14+3)).trans ((z4j k hltk 3 (by omega)).trans (by rw[HX.out.2.2.2.2.2.1];rfl));have HU5:=hide (show _/\_ from ⟨U5,hb5⟩);clear c3 U5 hb5)
   have K6:=K5.set (66+k * 14+3) (.slice B5 (p.L k).told.length D5) (q6e k hltk 3 _ ⟨.slice B5 (p.L k).told.length D5,(v.l k).done,(v.l k).said,(v.l k).due⟩ (by omega) (by rw[HX.out.2.2.2.2.2.1];rfl))
   have A6:Alt w.heap.size w5 (w5.setCell ⟨w.heap.size,66+k * 14+3,none⟩ (.slice B5 (p.L k).told.length D5)):=(Alt.refl _ _).set _ _;have U6:=(A6.rep (P:=fun b=>wr.heap.size<=b) (fun h=>by omega) HU5.out.1).mono (P':=fun b=>w.heap.size+2<=b) fun b _ hb=>by omega
   have Q6:∀ b,w.heap.size+2<=b->b<wr.heap.size->(w5.setCell ⟨w.heap.size,66+k * 14+3,none⟩ (.slice B5 (p.L k).told.length D5)).heap[b]?=wr.heap[b]?:=fun b hb hl=>(A6.block b (by have:=HU5.out.2.size;omega) (by omega)).trans (HU5.out.2.block b hl)
   have z6:=HU5.out.2.size;have z6':=A6.size;clear y5 f5 K5 A6 HU5 HT;generalize w5.setCell ⟨w.heap.size,66+k * 14+3,none⟩ (.slice B5 (p.L k).told.length D5)=w6 at *;have c5:w6.cell? ⟨w.heap.size,66+k * 14+5,none⟩=some (.slice Ad (p.L k).done.length Cd):=(K6.cat.cell (66+k * 14+5)).trans ((z4j k hltk 5 (by omega)).trans (by rw[q6J,← HX.out.2.2.2.2.2.2.2];rfl))
   have hz6:w.heap.size+2<=w6.heap.size:=K6.res.lt;have HY:=hide (show _/\_/\_/\_/\_ from ⟨K6,U6,Q6,z6,z6'⟩);clear K6 U6 Q6 z6 z6'
   go_upto_region 9 with (go_at_call 42;refine (HD.out _ HY.out.1.bel).mono ?_;rintro e w7 ⟨B7,D7,rfl,U7,hb7⟩;have K7:=HY.out.1.over hb7;have f7:=K7.cat.free (66+k * 14+5);have hz7:=K7.cat.lt;have y7:w7.cell? ⟨w.heap.size,66+k * 14+5,none⟩=some (v.l k).done:=(K7.cat.cell (66+k * 14+5)).trans ((z4j k hltk 5 (by omega)).trans (by rw[q6J];rfl));have HU7:=hide (show _/\_ from ⟨U7,hb7⟩);clear c5 U7 hb7)
   have K8:=K7.set (66+k * 14+5) (.slice B7 (p.L k).done.length D7) (q6e k hltk 5 _ ⟨.slice B5 (p.L k).told.length D5,.slice B7 (p.L k).done.length D7,(v.l k).said,(v.l k).due⟩ (by omega) (by rw[q6J];rfl))
   rw[q9h]at K8;have A8:Alt w.heap.size w7 (w7.setCell ⟨w.heap.size,66+k * 14+5,none⟩ (.slice B7 (p.L k).done.length D7)):=(Alt.refl _ _).set _ _;have U8:=A8.rep (P:=fun b=>w.heap.size+2<=b) (fun h=>by omega) (HY.out.2.1.over HU7.out.2)
   have V8:=(A8.rep (P:=fun b=>w6.heap.size<=b) (fun h=>by omega) HU7.out.1).mono (P':=fun b=>w.heap.size+2<=b) fun b _ hb=>by omega
   have z8:wr.heap.size<=w7.heap.size:=by have h1:=HU7.out.2.size;have h2:=HY.out.2.2.2.1;have h3:=HY.out.2.2.2.2;omega
   have Q8:∀ b,w.heap.size+2<=b->b<wr.heap.size->(w7.setCell ⟨w.heap.size,66+k * 14+5,none⟩ (.slice B7 (p.L k).done.length D7)).heap[b]?=wr.heap[b]?:=fun b hb hl=>((A8.block b (by omega) (by omega)).trans (HU7.out.2.block b (by have h2:=HY.out.2.2.2.1;have h3:=HY.out.2.2.2.2;omega))).trans (HY.out.2.2.1 b hb hl)
   have z8':=A8.size;clear y7 f7 K7 A8 HU7 HY HD;generalize w7.setCell ⟨w.heap.size,66+k * 14+5,none⟩ (.slice B7 (p.L k).done.length D7)=w8 at *;have l8:=z6A ((z9e p _ hltk (v.l k).said (v.l k).due).part K8.cat) rfl;rw[q6J]at l8;change (z2x (.pointer (some ⟨w.heap.size,66+k * 14+6,none⟩))).run prog w8=.ok (.agg #[(v.l k).said,(v.l k).due,.int .i64 (p.L k).out.g,.bool (p.L k).out.cl]) w8 at l8;have hz8:w.heap.size+2<=w8.heap.size:=K8.res.lt;have HY:=hide (show _/\_/\_/\_/\_/\_ from ⟨K8,U8,V8,Q8,z8,z8'⟩);clear K8 U8 V8 Q8 z8 z8'
   go_upto_region 10 with (go_at_call 43;refine (HL.out _ HY.out.1.bel).mono ?_;rintro e w9 ⟨u1,u2,rfl,U9,V9,hb9⟩;have K9:=HY.out.1.over hb9;have s9:=q1y (w:=w9) (g:=w.heap.size) (o:=66+k * 14+6) (cs:=[u1,u2,.int .i64 (p.L k).out.g,.bool (p.L k).out.cl]) ((z9e p _ hltk u1 u2).there K9.cat) rfl (by have a1:=U9.one;have a2:=V9.one;simp only[List.all_cons,List.all_nil,a1,a2];rfl);change (z3q (.pointer (some ⟨w.heap.size,66+k * 14+6,none⟩)) (.agg #[u1,u2,.int .i64 (p.L k).out.g,.bool (p.L k).out.cl])).run prog w9=_ at s9;have HU9:=hide (show _/\_/\_ from ⟨U9,V9,hb9⟩);have HK9:=hide K9;clear l8 U9 V9 hb9 K9)
   have hz9:=HK9.out.res.lt;have A10:Alt w.heap.size w9 (w9.setCells w.heap.size (66+k * 14+6) [u1,u2,.int .i64 (p.L k).out.g,.bool (p.L k).out.cl]):=Alt.sets _ (Alt.refl _ _) _;have C10:=(z9e p _ hltk u1 u2).sets HK9.out.cat;rw[q6J,q9h]at C10;have K10:z7k w p (v'.upd k ⟨.slice B5 (p.L k).told.length D5,.slice B7 (p.L k).done.length D7,u1,u2⟩) (w9.setCells w.heap.size (66+k * 14+6) [u1,u2,.int .i64 (p.L k).out.g,.bool (p.L k).out.cl]):=⟨C10,A10.cat (by omega) HK9.out.res,z0b (b:=w.heap.size) (Nat.le_refl _) _ _ _ HK9.out.bel⟩
   have I10:z5s (fun b=>w.heap.size+2<=b) (w9.setCells w.heap.size (66+k * 14+6) [u1,u2,.int .i64 (p.L k).out.g,.bool (p.L k).out.cl]) (p.L k) ⟨.slice B5 (p.L k).told.length D5,.slice B7 (p.L k).done.length D7,u1,u2⟩:=
    z5s.keep' (w:=w9) ⟨HY.out.2.1.over HU9.out.2.2,HY.out.2.2.1.over HU9.out.2.2,HU9.out.1.mono fun b _ hb=>by omega,HU9.out.2.1.mono fun b _ hb=>by omega⟩ fun b hb hl=>A10.block b hl (by omega)
   have HM:=hide (LkR.step hltk _ hq K10 HX.out.2.1 HX.out.2.2.1 HX.out.2.2.2.1 HX.out.2.2.2.2.1 I10 fun b hb hl=>((A10.block b (by have h1:=HU9.out.2.2.size;have h2:=HY.out.2.2.2.2.1;have h3:=HY.out.2.2.2.2.2;omega) (by omega)).trans (HU9.out.2.2.block b (by have h2:=HY.out.2.2.2.2.1;have h3:=HY.out.2.2.2.2.2;omega))).trans (HY.out.2.2.2.1 b hb hl))
   clear A10 C10 K10 I10 HX HY HU9 HK9 s9;generalize w9.setCells w.heap.size (66+k * 14+6) [u1,u2,.int .i64 (p.L k).out.g,.bool (p.L k).out.cl]=w10 at *;go_wp2;exact ⟨⟨k+1,by omega,by go_num,HM⟩,by simp[intOf];omega⟩
  ·obtain rfl:k=2:=by omega
   obtain ⟨z,hz,hzr,hzi⟩:=HPI.out.q;obtain ⟨A2,C2,e2,-,-⟩:=row_of hzr (z2i p.q z hz) (by decide)
   have HK:=hide (fun (wx:World) (hb:Below w.heap.size w wx)=>q3X A2 p.q.length C2 (quL p.q z) wx (by obtain ⟨B,D,e,R,-⟩:=row_of (hzr.over hb) (z2i p.q z hz) (by decide);rw[e2]at e;cases e;exact R) (j2O p.q z hzi) h88)
   have HZ0:Hid (∀ g wx,w.heap.size<=g->Below w.heap.size w wx->z7Q (fun b=>P b/\b<w.heap.size) (w.heap.size+2) g wx (p.q.map (·.2)) z 0):=fun g wx hg hb=>⟨by simpa using hz,fun i x y hi=>by omega,fun i x y _ hx hy=>by
    obtain ⟨x',hx',rfl⟩:∃ x',p.q[i]?=some x'/\x'.2=x:=by simpa using hx
    exact ⟨(hzi i x' y hx' hy).1.over hb,(hzi i x' y hx' hy).2.over hb⟩⟩
   have x96:wr.cell? ⟨w.heap.size,96,none⟩=some (.slice A2 p.q.length C2):=by rw[← e2,← hq];exact KH.cat.cell 96
   have PR:z7u (fun b=>w.heap.size+2<=b) wr p v':=⟨W4,S4,L4⟩;have hwr:w.heap.size+2<=wr.heap.size:=KH.res.lt;have HX:=hide (show _/\_ from ⟨KH,PR⟩);clear KH PR W4 S4 L4 N4 HRR hzr hzi
   go_upto_region 12 with (go_at_call 44;refine (HK.out _ HX.out.1.bel).mono ?_;rintro e w5 ⟨B5,D5,rfl,U5,hb5⟩;have K5:=HX.out.1.over hb5;have f5:=K5.cat.free 96;have y5:w5.cell? ⟨w.heap.size,96,none⟩=some v'.q:=K5.cat.cell 96;have hz5:=K5.cat.lt;have HU5:=hide (show _/\_ from ⟨U5,hb5⟩);clear x96 U5 hb5)
   have K6:=K5.set 96 (.slice B5 p.q.length D5) (v':={ v' with q:=.slice B5 p.q.length D5 }) rfl
   have A6:Alt w.heap.size w5 (w5.setCell ⟨w.heap.size,96,none⟩ (.slice B5 p.q.length D5)):=(Alt.refl _ _).set 96 _;have O6:(w5.setCell ⟨w.heap.size,96,none⟩ (.slice B5 p.q.length D5)).ownsRow (w.heap.size+2) 85 7 (.slice B5 p.q.length D5) p.q.length (quL p.q z):=z3T (z1h HU5.out.1 fun k hk=>A6.block k (World.ownsRow.lt HU5.out.1 k hk).2 (by have:=(World.ownsRow.lt HU5.out.1 k hk).1;omega)) (by omega)
   have hgb:∀ g,B5=some ⟨g,0,none⟩->wr.heap.size<=g:=fun g hg=>(World.ownsRow.lt HU5.out.1 g (by rw[hg];rfl)).1
   have R6:z7u (fun b=>w.heap.size+2<=b/\b<wr.heap.size) (w5.setCell ⟨w.heap.size,96,none⟩ (.slice B5 p.q.length D5)) p { v' with q:=.slice B5 p.q.length D5 }:=
    let R:=(HX.out.2.mono (P':=fun b=>w.heap.size+2<=b/\b<wr.heap.size) fun b hl hb=>⟨hb,hl⟩).keep (w':=w5.setCell ⟨w.heap.size,96,none⟩ (.slice B5 p.q.length D5)) fun b hb hl=>(A6.block b (by have:=HU5.out.2.size;omega) (by omega)).trans (HU5.out.2.block b hl)
    ⟨R.ws,R.set,R.lk⟩
   have HR6:Hid (QuR w p P B5 D5 0 (w5.setCell ⟨w.heap.size,96,none⟩ (.slice B5 p.q.length D5))):=⟨⟨_,z,rfl,K6,O6,fun g hg=>⟨HZ0.out g _ (by have:=hgb g hg;omega) K6.bel,R6.mono fun b _ hb=>⟨hb.1,by have:=hgb g hg;omega⟩⟩,R6.mono fun b _ hb=>hb.1⟩⟩
   have a96:(w5.setCell ⟨w.heap.size,96,none⟩ (.slice B5 p.q.length D5)).cell? ⟨w.heap.size,96,none⟩=some (.slice B5 p.q.length D5):=K6.cat.cell 96;have hz6:=K6.cat.lt;clear y5 f5 K5 K6 A6 R6 O6 hgb HU5 HX HZ0 HK e2 hq;generalize w5.setCell ⟨w.heap.size,96,none⟩ (.slice B5 p.q.length D5)=w6 at *
   go_upto_region 13 with fail
   go_loopw [54] (fun i wl=>∃ (k:Nat),k<=p.q.length/\i=.int .i64 (k:Int)/\Hid (QuR w p P B5 D5 k wl)) (fun i _=>p.q.length - (intOf i).toNat)
   case atStart=>exact ⟨0,Nat.zero_le _,rfl,HR6⟩
   case round =>
    obtain ⟨k,hk,rfl,HRR⟩:=hrel;clear HR6 a96 hltk;obtain ⟨v2,z',hv2,KH,O4,hKH,hV⟩:=HRR.out.half
    by_cases hltk:k<p.q.length
    ·obtain ⟨gq,cur,rfl,hgq,Cq,hnC,hCm,hcs,hct⟩:=z9b O4 (by omega)
     obtain ⟨KK,hV2⟩:=hKH gq rfl;have hzl:z'.length=p.q.length:=by have:=KK.len;simpa using this
     have hx:p.q[k]?=some p.q[k]:=List.getElem?_eq_getElem hltk;have hy:z'[k]?=some z'[k]:=List.getElem?_eq_getElem (by omega)
     generalize p.q[k]=xk at hx;generalize z'[k]=yk at hy;have hx2:(p.q.map (·.2))[k]?=some xk.2:=by simp[hx]
     have e4:cur[k * 7+1+4]?=some yk.1:=z6H hct ((z6e p.q z' k xk yk 5 hx hy (by omega)).trans rfl)
     have e5:cur[k * 7+1+5]?=some yk.2:=z6H hct ((z6e p.q z' k xk yk 6 hx hy (by omega)).trans rfl)
     obtain ⟨o1,o2⟩:=KK.old k xk.2 yk (Nat.le_refl _) hx2 hy;have hgw:=Cq.lt;have HCL:=hide (z7m gq (k * 7+1) 85 cur xk.2.S xk.2.D yk.1 yk.2 _ wr Cq e4 e5 o1 o2 (fun h=>by omega))
     have x96:wr.cell? ⟨w.heap.size,96,none⟩=some (.slice (some ⟨gq,0,none⟩) p.q.length D5):=by rw[← hv2];exact KH.cat.cell 96
     have hwr:=KH.cat.lt;have hkI:(k:Int)<(p.q.length:Int):=by omega
     have HN:Hid (∀ u1 u2 w5,CAt 85 w5 gq ((cur.setIfInBounds (k * 7+1+4) u1).setIfInBounds (k * 7+1+5) u2)->Rep (fun b=>wr.heap.size<=b) w5 u1 2 16 (pwC xk.2.S)->Rep (fun b=>wr.heap.size<=b) w5 u2 1 8 (inC xk.2.D)->Alt gq wr w5->QuR w p P (some ⟨gq,0,none⟩) D5 (k+1) w5):=fun u1 u2 w5 hc h1 h2 ha=>by
      have hbe:w.heap.size+2<=wr.heap.size:=KH.res.lt;have O5:=q2s (base:=w.heap.size+2) O4.1 hgq hnC hCm hcs hct (k * 7+1+4) (k * 7+1+5) u1 u2 hc;rw[q3y p.q z' k u1 u2 hzl hltk]at O5;have hR:z7u (fun b=>w.heap.size+2<=b/\b≠gq) w5 p v2:=hV2.keep fun b hb hl=>ha.block b hl hb.2;refine ⟨⟨v2,_,hv2,⟨ha.cat (by omega) KH.cat,ha.cat (by omega) KH.res,KH.bel.trans (ha.below (by omega) KH.bel.size)⟩,O5,fun g hg=>?_,hR.mono fun b _ hb=>hb.1⟩⟩
      cases hg;exact ⟨KK.step hx2 h1 h2 hbe hgw ha (fun h=>by omega),hR⟩
     clear O4 hKH hV KH Cq KK hV2 hx hy hx2 e4 e5 o1 o2 hct hcs hzl hv2
     go_wp2_with (go_at_call 45;refine HCL.out.mono ?_;rintro e w5 ⟨u1,u2,rfl,hc5,h15,h25,ha5⟩;have HM:=hide (HN.out u1 u2 w5 hc5 h15 h25 ha5);clear hc5 h15 h25 ha5)
     exact ⟨⟨k+1,by omega,by go_num,HM⟩,by simp[intOf];omega⟩
    ·obtain rfl:k=p.q.length:=by omega
     have QR:q3m (fun b=>w.heap.size+2<=b) wr (.slice B5 p.q.length D5) p.q:=by
      by_cases h0:0<p.q.length
      ·obtain ⟨gq,cur,rfl,-⟩:=z9b O4 h0;obtain ⟨KK,-⟩:=hKH gq rfl;refine ⟨z',by have:=KK.len;simpa using this,Rep.own O4 (by omega),fun i x y hx hy=>?_⟩
       have:=KK.new i x.2 y (List.getElem?_eq_some_iff.1 hx).1 (by simp[hx]) hy
       exact ⟨this.1.mono fun b _ hb=>hb.1,this.2.mono fun b _ hb=>hb.1⟩
      ·have e0:p.q=[]:=List.length_eq_zero_iff.1 (by omega)
       have R:=Rep.own (bts:=80) O4 (by omega)
       rw[e0]at R ⊢;exact ⟨[],rfl,R,fun i x y hx=>by cases hx⟩
     have I8:PIn (fun b=>w.heap.size+2<=b) wr p v2:=⟨hV.ws,hV.set,hV.lk,by rw[hv2];exact QR⟩
     have x96:wr.cell? ⟨w.heap.size,96,none⟩=some (.slice B5 p.q.length D5):=by rw[← hv2];exact KH.cat.cell 96
     have l8:=z0j KH.cat (z0a _ _);have s8:=z0k KH.res z0d (z0a p v2) (z1c I8);have R9:=KH.res.z0G (ds:=prC p v2) (by rw[z0d];rfl)
     have b9:=z0b (b:=w.heap.size+1) (Nat.le_succ _) (prC p v2).toList 0 _ KH.bel;have I9:=I8.sets (g:=w.heap.size+1) (by omega) 0 (prC p v2).toList
     have HZ:=hide (show _/\_/\_ from ⟨R9,b9,I9⟩);clear O4 hKH hV KH QR I8 R9 b9 I9 hv2 HRR;generalize wr.setCells (w.heap.size+1) 0 (prC p v2).toList=w9 at *;go_wp2;exact bodyPost_ret (v:=.agg (prC p v2)) (results_cell_row results29 _ _ (w.heap.size+1) 57 _ (0,0) _ rfl HZ.out.1 underlying57 rfl (by rw[z3a];rfl)) rfl ⟨_,rfl,HZ.out.2.2,HZ.out.2.1⟩
end Wd
namespace Wd
open Go.RowKit Pv Kc
attribute [local go_sem ↓] z0J z0y z1O z1w
theorem j5l{x:Wo}(h:Inv x):x.p.q.length * 88<=140737488351232:=by
 have h1:=h.ql;have h2:=h.n1;omega
theorem j6G{x:Wo}(h:Inv x){i:Nat}(hi:i<2):(x.c i).pd.length * 80<=140737488351232/\(x.c i).rp.length * 16<=140737488351232:=by
 have h1:=h.cl i hi;have h2:=h.n1;omega
theorem q9m(g:Nat)(x:Wo)(v:WoV)(P:Nat->Prop)(w:World)(hC:CAt 98 w g (wdC x v))(hI:WIn P w x v)(hx:Inv x) :
  Calls prog 11 #[.pointer (some ⟨g,0,none⟩)] w fun e w'=>∃ v',e=.returned (.agg (prC x.p v'))/\PIn (fun b=>w.heap.size+1<=b) w' x.p v'/\Below w.heap.size w w':=by
 have hI':PIn (fun b=>P b/\b<w.heap.size) w x.p v.p:=hI.p.mono fun b hl hp=>⟨hp,hl⟩;have HP:=hide (fun (wx:World) (hb:Below w.heap.size w wx)=>q4P x.p v.p _ wx (hI'.over hb) (j5l hx));have HL:=hide (fun (wx:World) (hb:Below w.heap.size w wx)=>(show (z9Q (.pointer (some ⟨g,2,none⟩))).run prog wx=.ok (.agg (prC x.p v.p)) wx from j1g ((z7K x v x.p v.p).part (hC.over hb)) (z0a _ _)));have R0:CAt 57 (w.alloc (.cells zeroCells57 57)) w.heap.size zeroCells57:=CAt.new _ w _;have B0:Below w.heap.size w (w.alloc (.cells zeroCells57 57)):=znw w _;have hlt:=hC.lt;clear hC hI hI'
 go_enter func11,ntmps11
 go_upto_region 1 with fail
 generalize w.alloc (.cells zeroCells57 57)=w0 at *;have hz0:=R0.lt;have l0:=HL.out w0 B0;have HR0:=hide (show _/\_ from ⟨R0,B0⟩);clear R0 B0
 go_wp2_with (go_at_call 29;refine (HP.out _ HR0.out.2).mono ?_;rintro e w1 ⟨v',rfl,I1,b1⟩;have R1:=HR0.out.1.over b1;have hz1:=R1.lt;have s1:=z0k R1 z0d (z0a x.p v') (z1c I1);have R2:=R1.z0G (ds:=prC x.p v') (by rw[z0d];rfl);have b2:=z0b (b:=w.heap.size) (Nat.le_refl _) (prC x.p v').toList 0 _ (zbt HR0.out.2 b1);have I2:=(I1.sets (g:=w.heap.size) (by omega) 0 (prC x.p v').toList).mono (P':=fun b=>w.heap.size+1<=b) (fun b _ hb=>by omega);have HZ:=hide (show _/\_/\_ from ⟨R2,b2,I2⟩);clear R1 R2 b1 b2 I1 I2 l0;generalize w1.setCells w.heap.size 0 (prC x.p v').toList=w2 at *)
 exact bodyPost_ret (v:=.agg (prC x.p v')) (results_cell_row results11 _ _ w.heap.size 57 _ (0,0) _ rfl HZ.out.1 underlying57 rfl (by rw[z3a];rfl)) rfl ⟨_,rfl,HZ.out.2.2,HZ.out.2.1⟩
theorem q7J(g:Nat)(x:Wo)(v:WoV)(P:Nat->Prop)(w:World)(i:Nat)(hi:i<2)(hC:CAt 98 w g (wdC x v))(hI:WIn P w x v)(hx:Inv x) :
  Calls prog 12 #[.pointer (some ⟨g,0,none⟩),.int .i64 (i:Int)] w fun e w'=>∃ v',e=.returned (.agg (csC (x.c i) v'))/\CIn (fun b=>w.heap.size+1<=b) w' (x.c i) v'/\Below w.heap.size w w':=by
 have hI':CIn (fun b=>P b/\b<w.heap.size) w (x.c i) (v.c i):=(hI.c i hi).mono fun b hl hp=>⟨hp,hl⟩;have HP:=hide (fun (wx:World) (hb:Below w.heap.size w wx)=>q4b (x.c i) (v.c i) _ wx (hI'.over hb) (j6G hx hi).1 (j6G hx hi).2);have HL:=hide (fun (wx:World) (hb:Below w.heap.size w wx)=>(show (z6v (.pointer (some ⟨g,99+i * 22,none⟩))).run prog wx=.ok (.agg (csC (x.c i) (v.c i))) wx from j4e ((q0N x v hi (x.c i) (v.c i)).part (hC.over hb)) (z0m _ _)));have R0:CAt 63 (w.alloc (.cells Z22 63)) w.heap.size Z22:=CAt.new _ w _;have B0:Below w.heap.size w (w.alloc (.cells Z22 63)):=znw w _;have hlt:=hC.lt;have i1:(i:Int)<2:=by omega
 have hic:isC (i:Int)=true:=by unfold isC;simp;omega
 have HCC:Hid (∀ wx,Calls prog 30 #[.int .i64 (i:Int)] wx fun e w'=>e=.returned (.bool true)/\wx=w'):=fun wx=>by rw[← hic];exact z2X i wx
 clear hC hI hI'
 go_enter func12,ntmps12
 go_upto_region 1 with fail
 change Code.wp prog _ _ _ (w.alloc (.cells Z22 63));generalize w.alloc (.cells Z22 63)=w0 at *;have hz0:=R0.lt;have l0:=HL.out w0 B0;have HR0:=hide (show _/\_ from ⟨R0,B0⟩);clear R0 B0
 go_wp2_with (first
  | (go_at_call 30;refine (HCC.out _).mono ?_;rintro e w' ⟨rfl,rfl⟩)
  | (go_at_call 31;refine (HP.out _ HR0.out.2).mono ?_;rintro e w1 ⟨v',rfl,I1,b1⟩;have R1:=HR0.out.1.over b1;have hz1:=R1.lt;have s1:=z2a R1 z0u (z0m (x.c i) v') (z1W I1);have R2:=R1.z0G (ds:=csC (x.c i) v') (by rw[z0u];rfl);have b2:=z0b (b:=w.heap.size) (Nat.le_refl _) (csC (x.c i) v').toList 0 _ (zbt HR0.out.2 b1);have I2:=(I1.sets (g:=w.heap.size) (by omega) 0 (csC (x.c i) v').toList).mono (P':=fun b=>w.heap.size+1<=b) (fun b _ hb=>by omega);have HZ:=hide (show _/\_/\_ from ⟨R2,b2,I2⟩);clear R1 R2 b1 b2 I1 I2 l0;generalize w1.setCells w.heap.size 0 (csC (x.c i) v').toList=w2 at *))
 exact bodyPost_ret (v:=.agg (csC (x.c i) v')) (z4U results12 _ _ _ _ rfl HZ.out.1 rfl) rfl ⟨_,rfl,HZ.out.2.2,HZ.out.2.1⟩
end Wd
namespace Wd
open Go.RowKit Pv Kc
def j9c:CsV:=⟨.slice none 0 0,.slice none 0 0,.slice none 0 0,.slice none 0 0,.slice none 0 0⟩
def q1n:WoV:=⟨q1X,fun _=>j9c⟩
theorem j7b(P:Nat->Prop)(w:World):CIn P w csN j9c:=⟨Rep.nil _ _ _ _,z7w.nil _ _,Rep.nil _ _ _ _,z0D.nil _ _ _ _,z0D.nil _ _ _ _⟩
theorem j4Z(P:Nat->Prop)(w:World):WIn P w z6t q1n:=by
 refine ⟨⟨Rep.nil _ _ _ _,Rep.nil _ _ _ _,fun c _=>⟨Rep.nil _ _ _ _,Rep.nil _ _ _ _,z0D.nil _ _ _ _,z0D.nil _ _ _ _⟩,⟨[],rfl,Rep.nil _ _ _ _,fun i x y h=>by cases h⟩⟩,fun i _=>j7b P w⟩
theorem j1i(w:World):Calls prog 22 #[] w fun e w'=>∃ g,e=.returned (.pointer (some ⟨g,0,none⟩))/\CAt 98 w' g (wdC z6t q1n)/\w.heap.size<=g/\Below w.heap.size w w':=by
 have HN:=hide (j1e w);have HE:Hid (∀ w1:World,Below w.heap.size w w1->CAt 98 (w1.alloc (.cells (wdC z6t q1n) 98)) w1.heap.size (wdC z6t q1n)/\Below w.heap.size w (w1.alloc (.cells (wdC z6t q1n) 98))):=fun w1 hb=>⟨CAt.new _ w1 _,hb.alloc hb.size _⟩
 go_enter func22,ntmps22
 go_upto_region 1 with fail
 apply wp_region_lit
 go_step
 go_step
 refine HN.out.mono ?_;rintro e w1 ⟨rfl,h1⟩;have HB1:=hide h1;clear h1;dsimp only
 go_step
 go_step
 go_step
 change Oper.upon prog _ _ _ _ (Result.ok (Next.value (.agg (wdC z6t q1n))) w1);obtain ⟨C,B⟩:=HE.out w1 HB1.out;obtain ⟨ts,hts⟩:∃ y,y=wdC z6t q1n:=⟨_,rfl⟩;rw[← hts]at C B ⊢;have HZ:=hide (show _/\_/\_ from ⟨C,B,hts⟩);clear C B hts;go_simp;apply_assumption;go_wp2;go_ret;refine ⟨w1.heap.size,rfl,?_,HB1.out.size,HZ.out.2.1⟩;have h:=HZ.out.1;have e:=HZ.out.2.2;exact Eq.mp (congrArg (CAt 98 _ _) e) h
theorem q3J(g:Nat)(x:Wo)(v:WoV)(w:World)(hC:CAt 98 w g (wdC x v)):Calls prog 39 #[.pointer (some ⟨g,0,none⟩)] w fun e w'=>e=.returned (.int .i64 x.ck)/\w=w':=by
 have c0:w.cell? ⟨g,0,none⟩=some (.int .i64 x.ck):=hC.cell 0;have hlt:=hC.lt;clear hC
 go_enter func39,ntmps39
 go_wp2;go_ret;exact ⟨rfl,rfl⟩
end Wd
end Go.Proofs.YtmopekkhmhhcaaaGreat
