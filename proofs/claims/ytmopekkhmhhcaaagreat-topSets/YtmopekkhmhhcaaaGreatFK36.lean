/- Parts of the proof. -/
import Derived.Test.YtmopekkhmhhcaaaGreatFL
import Derived.Test.YtmopekkhmhhcaaaGreatFK43
set_option maxRecDepth 100000
set_option maxHeartbeats 16000000
namespace Go.Proofs.YtmopekkhmhhcaaaGreat
open Go.Proofs.Tryz
namespace Wd
open Go.RowKit Pv Kc
theorem q4Y(A:Option Addr)(n C:Nat)(cs:List Value)(w:World)(h:Row w A n C 7 cs)(h1:∀ u∈cs,u.oneCell'=true)(hb:n * 88<=140737488351232) :
  Calls prog 44 #[.slice A n C] w fun e w'=>∃ A' C',e=.returned (.slice A' n C')/\w'.ownsRow w.heap.size 85 7 (.slice A' n C') n cs/\Below w.heap.size w w':=by
 cases A with
 | none =>
  obtain⟨rfl,rfl⟩:=h.nil rfl;obtain rfl:cs=[]:=List.length_eq_zero_iff.1 (by rw[h.len])
  have hq:=fun w=>j3F w none 0 0;clear h h1
  go_enter func44,ntmps44
  go_wp2;go_ret;exact⟨_,_,rfl,World.ownsRow_nil _ _ _ _,Below.refl _ _⟩
 | some a =>
  have hq:=fun w=>j3F w (some a) n C;have HH:=hide h;have H1:=hide h1;clear h h1
  go_enter func44,ntmps44
  go_upto_region 3 with fail
  apply wp_region_lit
  iterate 6 go_step
  refine q6L rfl rfl _ _ rfl a n C cs rfl rfl HH.out H1.out hb ?_;rintro A' C' w'⟨h1,h2⟩;have H1:=hide h1;have H2:=hide h2;clear h1 h2;go_wp2;go_ret;exact⟨_,_,rfl,H1.out,H2.out⟩
theorem q5B(A:Option Addr)(n C:Nat)(cs:List Value)(w:World)(h:Row w A n C 6 cs)(h1:∀ u∈cs,u.oneCell'=true)(hb:n * 80<=140737488351232) :
  Calls prog 46 #[.slice A n C] w fun e w'=>∃ A' C',e=.returned (.slice A' n C')/\w'.ownsRow w.heap.size 70 6 (.slice A' n C') n cs/\Below w.heap.size w w':=by
 cases A with
 | none =>
  obtain⟨rfl,rfl⟩:=h.nil rfl;obtain rfl:cs=[]:=List.length_eq_zero_iff.1 (by rw[h.len])
  have hq:=fun w=>j4e w none 0 0;clear h h1
  go_enter func46,ntmps46
  go_wp2;go_ret;exact⟨_,_,rfl,World.ownsRow_nil _ _ _ _,Below.refl _ _⟩
 | some a =>
  have hq:=fun w=>j4e w (some a) n C;have HH:=hide h;have H1:=hide h1;clear h h1
  go_enter func46,ntmps46
  go_upto_region 3 with fail
  apply wp_region_lit
  iterate 6 go_step
  refine q5W rfl rfl _ _ rfl a n C cs rfl rfl HH.out H1.out hb ?_;rintro A' C' w'⟨h1,h2⟩;have H1:=hide h1;have H2:=hide h2;clear h1 h2;go_wp2;go_ret;exact⟨_,_,rfl,H1.out,H2.out⟩
theorem q0o{w:World}{base n C size:Nat}{e:TypeId}{A:Option Addr}{xs:List Value}(h:w.ownsRow base e size (.slice A n C) n xs)(h0:0<n):∃ g cur,A=some ⟨g,0,none⟩/\base<=g/\CAt e w g cur/\n<=C/\C<=maxLen/\cur.size=C * size/\cur.toList.take (n * size)=xs:=by
 rcases h.2 with⟨_,hn⟩ | ⟨g,cap,cur,hv,h1,h2,h3,h4,h5,h6⟩
 ·omega
 ·cases hv;exact⟨g,cur,rfl,h1,h2,h3,h4,h5,h6⟩
theorem q4l{w':World}{base n C size g:Nat}{e:TypeId}{cur:Array Value}{xs:List Value}(hl:xs.length=n * size)(hb:base<=g)(hn:n<=C)(hm:C<=maxLen)(hs:cur.size=C * size)(ht:cur.toList.take (n * size)=xs)(j1 j2:Nat)(u1 u2:Value)(hc:CAt e w' g ((cur.setIfInBounds j1 u1).setIfInBounds j2 u2)):w'.ownsRow base e size (.slice (some ⟨g,0,none⟩) n C) n ((xs.set j1 u1).set j2 u2):=by
 refine⟨by simpa using hl,.inr ⟨g,C,_,rfl,hb,hc,hn,hm,by simpa using hs,?_⟩⟩
 rw[← ht]
 simp[List.take_set]
theorem z7n{n size k:Nat}{cur:Array Value}{xs:List Value}(ht:cur.toList.take (n * size)=xs){u:Value}(h:xs[k]?=some u):cur[k]?=some u:=by
 rw[← ht,List.getElem?_take]at h
 split at h
 ·simpa using h
 ·cases h
theorem q4d:∀ (q:List Pkt) (z:List (Value×Value)) (k:Nat) (u1 u2:Value),z.length=q.length->k<q.length->((pdL q z).set (k * 6+4) u1).set (k * 6+5) u2=pdL q (z.set k (u1,u2))
 | x :: q,y :: z,0,u1,u2,_,_=>by
  show ((pkL x y ++ pdL q z).set (0 * 6+4) u1).set (0 * 6+5) u2=pkL x (u1,u2) ++ pdL q z
  rfl
 | x :: q,y :: z,k+1,u1,u2,h,hk=>by
  have ih:=q4d q z k u1 u2 (by simpa using h) (by simpa using hk)
  show ((pkL x y ++ pdL q z).set ((k+1) * 6+4) u1).set ((k+1) * 6+5) u2=pkL x y ++ pdL q (z.set k (u1,u2))
  rw[← ih,List.set_append_right _ _ (by show 6<=_;omega),List.set_append_right _ _ (by show 6<=_;omega)]
  show pkL x y ++ ((pdL q z).set ((k+1) * 6+4 - 6) u1).set ((k+1) * 6+5 - 6) u2=_
  rw[show (k+1) * 6+4 - 6=k * 6+4 by omega,show (k+1) * 6+5 - 6=k * 6+5 by omega]
 | [],_,_,_,_,_,hk=>by simp at hk
 | _ :: _,[],_,_,_,h,_=>by simp at h
theorem q3S:∀ (q:List (Int×Pkt)) (z:List (Value×Value)) (k:Nat) (u1 u2:Value),z.length=q.length->k<q.length->((quL q z).set (k * 7+1+4) u1).set (k * 7+1+5) u2=quL q (z.set k (u1,u2))
 | x :: q,y :: z,0,u1,u2,_,_=>by
  show ((akL x y ++ quL q z).set (0 * 7+1+4) u1).set (0 * 7+1+5) u2=akL x (u1,u2) ++ quL q z
  rfl
 | x :: q,y :: z,k+1,u1,u2,h,hk=>by
  have ih:=q3S q z k u1 u2 (by simpa using h) (by simpa using hk)
  show ((akL x y ++ quL q z).set ((k+1) * 7+1+4) u1).set ((k+1) * 7+1+5) u2=akL x y ++ quL q (z.set k (u1,u2))
  rw[← ih,List.set_append_right _ _ (by show 7<=_;omega),List.set_append_right _ _ (by show 7<=_;omega)]
  show akL x y ++ ((quL q z).set ((k+1) * 7+1+4 - 7) u1).set ((k+1) * 7+1+5 - 7) u2=_
  rw[show (k+1) * 7+1+4 - 7=k * 7+1+4 by omega,show (k+1) * 7+1+5 - 7=k * 7+1+5 by omega]
 | [],_,_,_,_,_,hk=>by simp at hk
 | _ :: _,[],_,_,_,h,_=>by simp at h
structure z8F(P:Nat->Prop)(B g:Nat)(w:World)(q:List Pkt)(z:List (Value×Value))(k:Nat):Prop where
 len:z.length=q.length
 new:∀ (i:Nat) (x:Pkt) (y:Value×Value),i<k->q[i]?=some x->z[i]?=some y->Rep (fun b=>B<=b/\b≠g) w y.1 2 16 (pwC x.S)/\Rep (fun b=>B<=b/\b≠g) w y.2 1 8 (inC x.D)
 old:∀ (i:Nat) (x:Pkt) (y:Value×Value),k<=i->q[i]?=some x->z[i]?=some y->Rep P w y.1 2 16 (pwC x.S)/\Rep P w y.2 1 8 (inC x.D)
theorem z8F.keep{P:Nat->Prop}{B g:Nat}{w w':World}{q:List Pkt}{z:List (Value×Value)}{k:Nat}(h:z8F P B g w q z k)(hk:∀ b,b<w.heap.size->(P b∨(B<=b/\b≠g))->w'.heap[b]?=w.heap[b]?):z8F P B g w' q z k:=
 ⟨h.len,fun i x y hi hx hy=>⟨(h.new i x y hi hx hy).1.keep fun b hb hl=>hk b hl (.inr hb),(h.new i x y hi hx hy).2.keep fun b hb hl=>hk b hl (.inr hb)⟩,fun i x y hi hx hy=>⟨(h.old i x y hi hx hy).1.keep fun b hb hl=>hk b hl (.inl hb),(h.old i x y hi hx hy).2.keep fun b hb hl=>hk b hl (.inl hb)⟩⟩
theorem z8F.step{P:Nat->Prop}{B g:Nat}{w w':World}{q:List Pkt}{z:List (Value×Value)}{k:Nat}(h:z8F P B g w q z k){x:Pkt}(hx:q[k]?=some x){u1 u2:Value}(h1:Rep (fun b=>w.heap.size<=b) w' u1 2 16 (pwC x.S))(h2:Rep (fun b=>w.heap.size<=b) w' u2 1 8 (inC x.D))(hB:B<=w.heap.size)(hg:g<w.heap.size)(ha:Alt g w w')(hP:¬ P g):z8F P B g w' q (z.set k (u1,u2)) (k+1):=by
 have h':=h.keep (w':=w') fun b hl hb=>ha.block b hl fun e=>by
  rcases hb with hb | hb
  ·exact hP (e ▸ hb)
  ·exact hb.2 e
 refine⟨by rw[List.length_set];exact h.len,fun i y p hi hy hp=>?_,fun i y p hi hy hp=>?_⟩
 ·by_cases e:i=k
  ·subst e;rw[hx]at hy;cases hy;have hk:i<z.length:=by have:=(List.getElem?_eq_some_iff.1 hx).1;have:=h.len;omega
   rw[List.getElem?_set_self hk]at hp;cases hp;exact⟨h1.mono fun b _ hb=>⟨by omega,by omega⟩,h2.mono fun b _ hb=>⟨by omega,by omega⟩⟩
  ·rw[List.getElem?_set_ne (by omega)]at hp
   exact h'.new i y p (by omega) hy hp
 ·rw[List.getElem?_set_ne (by omega)]at hp
  exact h'.old i y p (by omega) hy hp
end Wd
namespace Wd
open Go.RowKit Pv Kc
theorem j4D{P:Nat->Prop}{w:World}:∀ (q:List Pkt) (z:List (Value×Value)),(∀ (i:Nat) (x:Pkt) (y:Value×Value),q[i]?=some x->z[i]?=some y->Rep P w y.1 2 16 (pwC x.S)/\Rep P w y.2 1 8 (inC x.D))->∀ u∈pdL q z,u.oneCell'=true
 | [],_,_,u,hu=>by cases hu
 | _ :: _,[],_,u,hu=>by cases hu
 | x :: q,y :: z,h,u,hu=>by
  rcases List.mem_append.1 hu with h1 | h1
  ·obtain⟨a,b⟩:=h 0 x y rfl rfl;have e1:=z3q a;have e2:=z3q b;simp only[pkL,List.mem_cons,List.not_mem_nil,or_false]at h1
   rcases h1 with rfl | rfl | rfl | rfl | rfl | rfl <;> first | rfl | assumption
  ·exact j4D q z (fun i x' y' hx hy=>h (i+1) x' y' (by simpa using hx) (by simpa using hy)) u h1
theorem j2T{P:Nat->Prop}{w:World}{v:Value}{sz a b:Nat}{cs:List Value}(h:Rep P w v sz a cs)(hab:b<=a):Rep P w v sz b cs:=by
 obtain⟨A,n,C,h1,h2,h3,h4⟩:=h;exact⟨A,n,C,h1,h2,Nat.le_trans (Nat.mul_le_mul_left _ hab) h3,h4⟩
structure PdR(w:World)(c:Cs)(v:CsV)(P:Nat->Prop)(A:Option Addr)(C:Nat)(k:Nat)(wl:World):Prop where
 half:∃ v' z,v'={ v with set:=v'.set,pd:=.slice A c.pd.length C }/\(∃ X n D,v'.set=.slice X n D)/\CAt 63 wl w.heap.size (csC c v')/\wl.ownsRow (w.heap.size+2) 70 6 (.slice A c.pd.length C) c.pd.length (pdL c.pd z)/\(∀ g,A=some ⟨g,0,none⟩->z8F (fun b=>P b/\b<w.heap.size) (w.heap.size+2) g wl c.pd z k/\Rep (fun b=>w.heap.size+2<=b/\b≠g) wl v'.set 2 16 (pwC c.set))/\Rep (fun b=>w.heap.size+2<=b) wl v'.set 2 16 (pwC c.set)
 res:CAt 63 wl (w.heap.size+1) Z22
 bel:Below w.heap.size w wl
structure q0M(w:World)(c:Cs)(v:CsV)(wl:World):Prop where
 cat:CAt 63 wl w.heap.size (csC c v)
 res:CAt 63 wl (w.heap.size+1) Z22
 bel:Below w.heap.size w wl
theorem q0M.over{w wl w':World}{c:Cs}{v:CsV}(h:q0M w c v wl)(hb:Below wl.heap.size wl w'):q0M w c v w':=⟨h.cat.over hb,h.res.over hb,zbt h.bel hb⟩
theorem q0M.set{w wl:World}{c:Cs}{v v':CsV}(h:q0M w c v wl)(o:Nat)(x:Value)(e:(csC c v).setIfInBounds o x=csC c v'):q0M w c v' (wl.setCell ⟨w.heap.size,o,none⟩ x):=by
 have k:=h.cat.set o x;rw[e]at k;exact⟨k,h.res.other (by omega) x,h.bel.setCell (p:=⟨w.heap.size,o,none⟩) (Nat.le_refl _) x⟩
attribute [local go_sem ↓] z1t z1f z2E z1Y
theorem q5I(c:Cs)(v:CsV)(P:Nat->Prop)(w:World)(hp:CIn P w c v)(h80:c.pd.length * 80<=140737488351232)(h16:c.rp.length * 16<=140737488351232) :
  Calls prog 31 #[.agg (csC c v)] w fun e w'=>∃ v',e=.returned (.agg (csC c v'))/\CIn (fun b=>w.heap.size+2<=b) w' c v'/\Below w.heap.size w w':=by
 have hp':CIn (fun b=>P b/\b<w.heap.size) w c v:=hp.mono fun b hl hb=>⟨hb,hl⟩;obtain⟨z,hz,hzr,hzi⟩:=id hp'.pd;obtain⟨A1,C1,e1,-,-⟩:=row_of hp'.set (z0c c.set) (by decide)
 obtain⟨A2,C2,e2,-,-⟩:=row_of hzr (z1C c.pd z hz) (by decide)
 obtain⟨A3,C3,e3,-,-⟩:=row_of hp'.rp (z0c c.rp) (by decide)
 have HS:=hide (fun (wx:World) (hb:Below w.heap.size w wx)=>z4S A1 c.set.length C1 (pwC c.set) wx (by obtain⟨B,D,e,R,-⟩:=row_of (hp'.set.over hb) (z0c c.set) (by decide);rw[e1]at e;cases e;exact R) (z6t _) (by obtain⟨_,_,_,_,h⟩:=row_of hp'.set (z0c c.set) (by decide);exact h))
 have HK:=hide (fun (wx:World) (hb:Below w.heap.size w wx)=>q5B A2 c.pd.length C2 (pdL c.pd z) wx (by obtain⟨B,D,e,R,-⟩:=row_of (hzr.over hb) (z1C c.pd z hz) (by decide);rw[e2]at e;cases e;exact R) (j4D c.pd z hzi) h80)
 have HR:=hide (fun (wx:World) (hb:Below w.heap.size w wx)=>q6v A3 c.rp.length C3 (pwC c.rp) wx (by obtain⟨B,D,e,R,-⟩:=row_of (hp'.rp.over hb) (z0c c.rp) (by decide);rw[e3]at e;cases e;exact R) (z6t _) h16)
 have HL:=hide (fun (wx:World) (hb:Below w.heap.size w wx)=>z8W c.out v.said v.due _ wx (hp'.said.over hb) (hp'.due.over hb));have HZ0:Hid (∀ g wx,w.heap.size<=g->Below w.heap.size w wx->z8F (fun b=>P b/\b<w.heap.size) (w.heap.size+2) g wx c.pd z 0):=fun g wx hg hb=>⟨hz,fun i x y hi=>by omega,fun i x y _ hx hy=>⟨(hzi i x y hx hy).1.over hb,(hzi i x y hx hy).2.over hb⟩⟩
 have K0:q0M w c v ((w.alloc (.cells (csC c v) 63)).alloc (.cells Z22 63)):=⟨(CAt.new _ w _).alloc _,CAt.new2 _ w _ _,(znw w _).alloc (by simp) _⟩
 clear hp hp' hzr hzi
 go_enter func31,ntmps31
 go_upto_region 1 with fail
 change Code.wp prog _ _ _ ((w.alloc (.cells (csC c v) 63)).alloc (.cells Z22 63));generalize (w.alloc (.cells (csC c v) 63)).alloc (.cells Z22 63)=w0 at *;have a5:w0.cell? ⟨w.heap.size,5,none⟩=some (.slice A1 c.set.length C1):=by rw[← e1];exact K0.cat.cell 5
 have HK0:=hide K0;have hz0:w.heap.size+2<=w0.heap.size:=K0.res.lt;clear K0
 go_upto_region 2 with (go_at_call 41;refine (HS.out _ HK0.out.bel).mono ?_;rintro e w1⟨B1,D1,rfl,U1,hb1⟩;have K1:=HK0.out.over hb1;have f1:=K1.cat.free 5;have y1:w1.cell? ⟨w.heap.size,5,none⟩=some v.set:=K1.cat.cell 5;have hz1:=K1.cat.lt;have HU1:=hide (show _/\_ from⟨U1,hb1.size⟩);clear a5 U1 hb1)
 have K2:=K1.set 5 (.slice B1 c.set.length D1) (v':={ v with set:=.slice B1 c.set.length D1 }) rfl
 have U2:=((Alt.refl w.heap.size w1).set 5 (.slice B1 c.set.length D1)).rep (P:=fun b=>w0.heap.size<=b) (fun h=>by omega) HU1.out.1
 have hs1:=HU1.out.2;clear y1 f1 K1 HU1 HK0;generalize w1.setCell ⟨w.heap.size,5,none⟩ (.slice B1 c.set.length D1)=w2 at *;have HE:=hide (show _/\_/\_ from⟨e1,e2,e3⟩);have a6:w2.cell? ⟨w.heap.size,6,none⟩=some (.slice A2 c.pd.length C2):=by rw[← e2];exact K2.cat.cell 6
 have HK2:=hide (show _/\_ from⟨K2,U2⟩);have hz2:w.heap.size+2<=w2.heap.size:=K2.res.lt;clear K2 U2 e1 e2 e3
 go_upto_region 3 with (go_at_call 46;refine (HK.out _ HK2.out.1.bel).mono ?_;rintro e w3⟨B3,D3,rfl,U3,hb3⟩;have K3:=HK2.out.1.over hb3;have f3:=K3.cat.free 6;have y3:w3.cell? ⟨w.heap.size,6,none⟩=some v.pd:=K3.cat.cell 6;have hz3:=K3.cat.lt;have HU3:=hide (show _/\_ from⟨U3,hb3⟩);clear a6 U3 hb3)
 have K4:=K3.set 6 (.slice B3 c.pd.length D3) (v':={ v with set:=.slice B1 c.set.length D1,pd:=.slice B3 c.pd.length D3 }) rfl
 have A4:Alt w.heap.size w3 (w3.setCell ⟨w.heap.size,6,none⟩ (.slice B3 c.pd.length D3)):=(Alt.refl _ _).set 6 _;have V4:=A4.rep (P:=fun b=>w0.heap.size<=b/\b<w2.heap.size) (fun h=>by omega) ((HK2.out.2.mono (P':=fun b=>w0.heap.size<=b/\b<w2.heap.size) fun b hl hb=>⟨hb,hl⟩).over HU3.out.2)
 have O4:(w3.setCell ⟨w.heap.size,6,none⟩ (.slice B3 c.pd.length D3)).ownsRow (w.heap.size+2) 70 6 (.slice B3 c.pd.length D3) c.pd.length (pdL c.pd z):=z4p (z1n HU3.out.1 fun k hk=>A4.block k (World.ownsRow.lt HU3.out.1 k hk).2 (by have:=(World.ownsRow.lt HU3.out.1 k hk).1;omega)) (by omega)
 have hgb:∀ g,B3=some ⟨g,0,none⟩->w2.heap.size<=g:=fun g hg=>(World.ownsRow.lt HU3.out.1 g (by rw[hg];rfl)).1
 have HR0:Hid (PdR w c v P B3 D3 0 (w3.setCell ⟨w.heap.size,6,none⟩ (.slice B3 c.pd.length D3))):=⟨⟨_,z,rfl,⟨_,_,_,rfl⟩,K4.cat,O4,fun g hg=>⟨HZ0.out g _ (by have:=hgb g hg;omega) K4.bel,V4.mono fun b _ hb=>⟨by omega,by have:=hgb g hg;omega⟩⟩,V4.mono fun b _ hb=>by omega⟩,K4.res,K4.bel⟩
 have a6:(w3.setCell ⟨w.heap.size,6,none⟩ (.slice B3 c.pd.length D3)).cell? ⟨w.heap.size,6,none⟩=some (.slice B3 c.pd.length D3):=K4.cat.cell 6;have hz4:=K4.cat.lt;clear y3 f3 K3 K4 A4 V4 O4 hgb HU3 HK2 HZ0 HS HK;generalize w3.setCell ⟨w.heap.size,6,none⟩ (.slice B3 c.pd.length D3)=w4 at *
 go_upto_region 4 with fail
 go_loopw [15] (fun i wl=>∃ (k:Nat),k<=c.pd.length/\i=.int .i64 (k:Int)/\Hid (PdR w c v P B3 D3 k wl)) (fun i _=>c.pd.length - (intOf i).toNat)
 case atStart=>exact⟨0,Nat.zero_le _,rfl,HR0⟩
 case round =>
  obtain⟨k,hk,rfl,HRR⟩:=hrel;clear HR0 a6;obtain⟨v',z',hv',hsl,C4,O4,hKH,hV⟩:=HRR.out.half
  by_cases hltk:k<c.pd.length
  ·obtain⟨gq,cur,rfl,hgq,Cq,hnC,hCm,hcs,hct⟩:=q0o O4 (by omega)
   obtain⟨KH,hV2⟩:=hKH gq rfl;have hx:c.pd[k]?=some c.pd[k]:=List.getElem?_eq_getElem hltk;have hkz:k<z'.length:=by have:=KH.len;omega
   have hy:z'[k]?=some z'[k]:=List.getElem?_eq_getElem hkz;generalize c.pd[k]=xk at hx;generalize z'[k]=yk at hy;have e4:=z7n hct ((z6m c.pd z' k xk yk 4 hx hy (by omega)).trans rfl)
   have e5:=z7n hct ((z6m c.pd z' k xk yk 5 hx hy (by omega)).trans rfl)
   obtain⟨o1,o2⟩:=KH.old k xk yk (Nat.le_refl _) hx hy;have hgw:=Cq.lt;have HCL:=hide (z8i gq (k * 6) 70 cur xk.S xk.D yk.1 yk.2 _ wr Cq e4 e5 o1 o2 (fun h=>by omega))
   have x6:wr.cell? ⟨w.heap.size,6,none⟩=some (.slice (some ⟨gq,0,none⟩) c.pd.length D3):=by rw[hv']at C4;exact C4.cell 6
   have hwr:=C4.lt;have hkI:(k:Int)<(c.pd.length:Int):=by omega
   have HN:Hid (∀ u1 u2 w5,CAt 70 w5 gq ((cur.setIfInBounds (k * 6+4) u1).setIfInBounds (k * 6+5) u2)->Rep (fun b=>wr.heap.size<=b) w5 u1 2 16 (pwC xk.S)->Rep (fun b=>wr.heap.size<=b) w5 u2 1 8 (inC xk.D)->Alt gq wr w5->PdR w c v P (some ⟨gq,0,none⟩) D3 (k+1) w5):=fun u1 u2 w5 hc h1 h2 ha=>by
    have hbe:w.heap.size+2<=wr.heap.size:=HRR.out.res.lt;have O5:=q4l (base:=w.heap.size+2) O4.1 hgq hnC hCm hcs hct (k * 6+4) (k * 6+5) u1 u2 hc;rw[q4d c.pd z' k u1 u2 KH.len hltk]at O5;refine⟨⟨v',_,hv',hsl,ha.cat (by omega) C4,O5,fun g hg=>?_,?_⟩,ha.cat (by omega) HRR.out.res,HRR.out.bel.trans (ha.below (by omega) HRR.out.bel.size)⟩
    ·cases hg;exact⟨KH.step hx h1 h2 hbe hgw ha (fun h=>by omega),ha.rep (fun h=>h.2 rfl) hV2⟩
    ·exact (ha.rep (fun h=>h.2 rfl) hV2).mono fun b _ hb=>hb.1
   clear O4 hKH hV C4 Cq KH hV2 hx hy e4 e5 o1 o2 hct hcs
   go_wp2_with (go_at_call 45;refine HCL.out.mono ?_;rintro e w5⟨u1,u2,rfl,hc5,h15,h25,ha5⟩;have HM:=hide (HN.out u1 u2 w5 hc5 h15 h25 ha5);clear hc5 h15 h25 ha5)
   exact⟨⟨k+1,by omega,by go_num,HM⟩,by simp[intOf];omega⟩
  ·obtain rfl:k=c.pd.length:=by omega
   have KR:z7X (fun b=>w.heap.size+2<=b) wr (.slice B3 c.pd.length D3) c.pd:=by
    by_cases h0:0<c.pd.length
    ·obtain⟨gq,cur,rfl,-⟩:=q0o O4 h0;obtain⟨KH,-⟩:=hKH gq rfl;exact⟨z',KH.len,Rep.own O4 (by omega),fun i x y hx hy=>⟨(KH.new i x y (List.getElem?_eq_some_iff.1 hx).1 hx hy).1.mono fun b _ hb=>hb.1,(KH.new i x y (List.getElem?_eq_some_iff.1 hx).1 hx hy).2.mono fun b _ hb=>hb.1⟩⟩
    ·have e0:c.pd=[]:=List.length_eq_zero_iff.1 (by omega)
     have R:=Rep.own (bts:=40) O4 (by omega)
     rw[e0]at R ⊢;exact⟨[],rfl,R,fun i x y hx=>by cases hx⟩
   obtain⟨sv,pv,rv,sd,du⟩:=v';simp only[CsV.mk.injEq,true_and]at hv';obtain⟨rfl,rfl,rfl,rfl⟩:=hv';obtain⟨X,nX,DX,rfl⟩:=hsl;have x6:wr.cell? ⟨w.heap.size,6,none⟩=some (.slice B3 c.pd.length D3):=C4.cell 6;have x7:wr.cell? ⟨w.heap.size,7,none⟩=some (.slice A3 c.rp.length C3):=by rw[← HE.out.2.2];exact C4.cell 7
   have KX:q0M w c ⟨.slice X nX DX,.slice B3 c.pd.length D3,v.rp,v.said,v.due⟩ wr:=⟨C4,HRR.out.res,HRR.out.bel⟩;have hwr:w.heap.size+2<=wr.heap.size:=HRR.out.res.lt;have HX:=hide (show _/\_/\_ from⟨KX,KR,hV⟩);clear KX KR hV C4 O4 hKH HRR
   go_upto_region 9 with (go_at_call 47;refine (HR.out _ HX.out.1.bel).mono ?_;rintro e w5⟨B5,D5,rfl,U5,hb5⟩;have K5:=HX.out.1.over hb5;have f5:=K5.cat.free 7;have y5:w5.cell? ⟨w.heap.size,7,none⟩=some v.rp:=K5.cat.cell 7;have hz5:=K5.cat.lt;have HU5:=hide (show _/\_ from⟨U5,hb5⟩);clear x6 x7 U5 hb5)
   have K6:=K5.set 7 (.slice B5 c.rp.length D5) (v':=⟨.slice X nX DX,.slice B3 c.pd.length D3,.slice B5 c.rp.length D5,v.said,v.due⟩) rfl;have A6:Alt w.heap.size w5 (w5.setCell ⟨w.heap.size,7,none⟩ (.slice B5 c.rp.length D5)):=(Alt.refl _ _).set 7 _;have U6:=(j2T (A6.rep (P:=fun b=>wr.heap.size<=b) (fun h=>by omega) HU5.out.1) (b:=8) (by omega)).mono (P':=fun b=>w.heap.size+2<=b) fun b _ hb=>by omega
   have V6:=A6.rep (P:=fun b=>w.heap.size+2<=b) (fun h=>by omega) (HX.out.2.2.over HU5.out.2)
   have R6:=(HX.out.2.1.over HU5.out.2).keep (w':=w5.setCell ⟨w.heap.size,7,none⟩ (.slice B5 c.rp.length D5)) fun b hb hl=>A6.block b hl (by omega)
   clear y5 f5 K5 A6 HU5 HX;generalize w5.setCell ⟨w.heap.size,7,none⟩ (.slice B5 c.rp.length D5)=w6 at *;have l6:=z6u ((q0b c ⟨.slice X nX DX,.slice B3 c.pd.length D3,.slice B5 c.rp.length D5,v.said,v.due⟩ c.out v.said v.due).part K6.cat) rfl;change (z2I (.pointer (some ⟨w.heap.size,14,none⟩))).run prog w6=.ok (.agg #[v.said,v.due,.int .i64 c.out.g,.bool c.out.cl]) w6 at l6;have hz6:w.heap.size+2<=w6.heap.size:=K6.res.lt;have HX:=hide (show _/\_/\_/\_ from⟨K6,V6,R6,U6⟩);clear K6 V6 R6 U6 HR
   go_upto_region 10 with (go_at_call 43;refine (HL.out _ HX.out.1.bel).mono ?_;rintro e w7⟨u1,u2,rfl,U7,V7,hb7⟩;have K7:=HX.out.1.over hb7;have s7:=q2s (w:=w7) (g:=w.heap.size) (o:=14) (cs:=[u1,u2,.int .i64 c.out.g,.bool c.out.cl]) ((q0b c ⟨.slice X nX DX,.slice B3 c.pd.length D3,.slice B5 c.rp.length D5,v.said,v.due⟩ c.out u1 u2).there K7.cat) rfl (by have a1:=U7.one;have a2:=V7.one;simp only[List.all_cons,List.all_nil,a1,a2];rfl);change (z3k (.pointer (some ⟨w.heap.size,14,none⟩)) (.agg #[u1,u2,.int .i64 c.out.g,.bool c.out.cl])).run prog w7=_ at s7;have HU7:=hide (show _/\_/\_ from⟨U7,V7,hb7⟩);have HK7:=hide K7;clear l6 U7 V7 hb7 K7)
   have hz7:=HK7.out.res.lt;have C8:=(q0b c ⟨.slice X nX DX,.slice B3 c.pd.length D3,.slice B5 c.rp.length D5,v.said,v.due⟩ c.out u1 u2).sets HK7.out.cat;change CAt 63 (w7.setCells w.heap.size 14 [u1,u2,.int .i64 c.out.g,.bool c.out.cl]) w.heap.size (csC c ⟨.slice X nX DX,.slice B3 c.pd.length D3,.slice B5 c.rp.length D5,u1,u2⟩) at C8;have A8:Alt w.heap.size w7 (w7.setCells w.heap.size 14 [u1,u2,.int .i64 c.out.g,.bool c.out.cl]):=Alt.sets _ (Alt.refl _ _) 14;have R8:=A8.cat (by omega) HK7.out.res
   have b8:=z0b (b:=w.heap.size) (Nat.le_refl _) [u1,u2,.int .i64 c.out.g,.bool c.out.cl] 14 _ HK7.out.bel
   have I8:CIn (fun b=>w.heap.size+2<=b) (w7.setCells w.heap.size 14 [u1,u2,.int .i64 c.out.g,.bool c.out.cl]) c ⟨.slice X nX DX,.slice B3 c.pd.length D3,.slice B5 c.rp.length D5,u1,u2⟩:=
    CIn.sets ⟨HX.out.2.1.over HU7.out.2.2,HX.out.2.2.1.over HU7.out.2.2,HX.out.2.2.2.over HU7.out.2.2,HU7.out.1.mono fun b _ hb=>by omega,HU7.out.2.1.mono fun b _ hb=>by omega⟩ (by omega) _ _
   clear A8 HX HU7 HK7 s7;generalize w7.setCells w.heap.size 14 [u1,u2,.int .i64 c.out.g,.bool c.out.cl]=w8 at *;have l8:=z3c C8 (z0p _ _);have s8:=z2o R8 z0z (z0p c ⟨.slice X nX DX,.slice B3 c.pd.length D3,.slice B5 c.rp.length D5,u1,u2⟩) (z2k I8);have R9:=R8.z0H (ds:=csC c ⟨.slice X nX DX,.slice B3 c.pd.length D3,.slice B5 c.rp.length D5,u1,u2⟩) (by rw[z0z];rfl)
   have b9:=z0b (b:=w.heap.size+1) (Nat.le_succ _) (csC c ⟨.slice X nX DX,.slice B3 c.pd.length D3,.slice B5 c.rp.length D5,u1,u2⟩).toList 0 _ b8;have I9:=I8.sets (g:=w.heap.size+1) (by omega) 0 (csC c ⟨.slice X nX DX,.slice B3 c.pd.length D3,.slice B5 c.rp.length D5,u1,u2⟩).toList
   have HZ:=hide (show _/\_/\_ from⟨R9,b9,I9⟩);clear C8 R8 b8 I8 R9 b9 I9;generalize w8.setCells (w.heap.size+1) 0 (csC c ⟨.slice X nX DX,.slice B3 c.pd.length D3,.slice B5 c.rp.length D5,u1,u2⟩).toList=w9 at *;go_wp2;exact bodyPost_ret (v:=.agg (csC c ⟨.slice X nX DX,.slice B3 c.pd.length D3,.slice B5 c.rp.length D5,u1,u2⟩)) (z5u results31 _ _ _ _ rfl HZ.out.1 rfl) rfl ⟨_,rfl,HZ.out.2.2,HZ.out.2.1⟩
end Wd
namespace Wd
open Go.RowKit Pv Kc
theorem q9T(L:Nat->Lk)(k:Nat):z0Q L k (L k)=L:=by
 funext i
 unfold z0Q
 by_cases h:i=k
 ·rw[if_pos h,h]
 ·rw[if_neg h]
theorem q9a{p:Pr}{v:PrV}(k:Nat)(hk:k<2)(j:Nat)(y:Value)(u:LkV)(hj:j<14)(h:lkL (p.L k) u=(lkL (p.L k) (v.l k)).set j y):(prC p v).setIfInBounds (66+k * 14+j) y=prC p (v.upd k u):=by
 have:=q3V (p:=p) (v:=v) k hk j y (p.L k) u hj h
 rwa [q9T]at this
theorem j8I(p:Pr)(v:PrV){k:Nat}(hk:k<2)(u:LkV):At (prC p v) (66+k * 14) (lkL (p.L k) (v.l k)) (lkL (p.L k) u) (prC p (v.upd k u)):=by
 have:=q7s p v hk (p.L k) u
 rwa [q9T]at this
theorem q0r(p:Pr)(v:PrV){k:Nat}(hk:k<2)(u1 u2:Value):At (prC p v) (66+k * 14+6) (lnL (p.L k).out (v.l k).said (v.l k).due) (lnL (p.L k).out u1 u2) (prC p (v.upd k { v.l k with said:=u1,due:=u2 })):=
 (j8I p v hk { v.l k with said:=u1,due:=u2 }).nest (by simpa using q8Y (p.L k) (v.l k) (p.L k).out u1 u2)
structure z7F(w:World)(p:Pr)(v:PrV)(wl:World):Prop where
 cat:CAt 57 wl w.heap.size (prC p v)
 res:CAt 57 wl (w.heap.size+1) zeroCells57
 bel:Below w.heap.size w wl
theorem z7F.over{w wl w':World}{p:Pr}{v:PrV}(h:z7F w p v wl)(hb:Below wl.heap.size wl w'):z7F w p v w':=⟨h.cat.over hb,h.res.over hb,zbt h.bel hb⟩
theorem z7F.set{w wl:World}{p:Pr}{v v':PrV}(h:z7F w p v wl)(o:Nat)(x:Value)(e:(prC p v).setIfInBounds o x=prC p v'):z7F w p v' (wl.setCell ⟨w.heap.size,o,none⟩ x):=by
 have k:=h.cat.set o x;rw[e]at k;exact⟨k,h.res.other (by omega) x,h.bel.setCell (p:=⟨w.heap.size,o,none⟩) (Nat.le_refl _) x⟩
theorem z6c.keep'{P:Nat->Prop}{w w':World}{x:Lk}{v:LkV}(h:z6c P w x v)(hk:∀ b,P b->b<w.heap.size->w'.heap[b]?=w.heap[b]?):z6c P w' x v:=⟨h.told.keep hk,h.done.keep hk,h.said.keep hk,h.due.keep hk⟩
structure LkR(w:World)(p:Pr)(v:PrV)(k:Nat)(wl:World):Prop where
 half:∃ v',v'.q=v.q/\z7F w p v' wl/\Rep (fun b=>w.heap.size+2<=b) wl v'.ws 8 64 (wsL p.s.W)/\Rep (fun b=>w.heap.size+2<=b) wl v'.set 2 16 (pwC p.set)/\(∀ c,c<k->z6c (fun b=>w.heap.size+2<=b) wl (p.L c) (v'.l c))/\∀ c,k<=c->v'.l c=v.l c
theorem LkR.step{w:World}{p:Pr}{v:PrV}{k:Nat}(hk:k<2){wl w':World}{v':PrV}(u:LkV)(hq:v'.q=v.q)(hh:z7F w p (v'.upd k u) w')(h1:Rep (fun b=>w.heap.size+2<=b) wl v'.ws 8 64 (wsL p.s.W))(h2:Rep (fun b=>w.heap.size+2<=b) wl v'.set 2 16 (pwC p.set))(h3:∀ c,c<k->z6c (fun b=>w.heap.size+2<=b) wl (p.L c) (v'.l c))(h4:∀ c,k<=c->v'.l c=v.l c)(hu:z6c (fun b=>w.heap.size+2<=b) w' (p.L k) u)(hk':∀ b,w.heap.size+2<=b->b<wl.heap.size->w'.heap[b]?=wl.heap[b]?):LkR w p v (k+1) w':=by
 refine⟨⟨v'.upd k u,hq,hh,h1.keep hk',h2.keep hk',fun c hc=>?_,fun c hc=>?_⟩⟩
 ·by_cases e:c=k
  ·subst e
   show z6c _ _ _ (if c=c then u else _)
   rw[if_pos rfl];exact hu
  ·show z6c _ _ _ (if c=k then u else _)
   rw[if_neg e];exact z6c.keep' (h3 c (by omega)) hk'
 ·show (if c=k then u else _)=_
  rw[if_neg (by omega)]
  exact h4 c (by omega)
theorem q7c(v:PrV)(k:Nat)(u:LkV):(v.upd k u).l k=u:=if_pos rfl
theorem q8D(v:PrV)(k:Nat)(u u':LkV):(v.upd k u).upd k u'=v.upd k u':=by
 unfold PrV.upd
 congr 1
 funext i
 by_cases h:i=k
 ·simp[h]
 ·simp[h]
theorem j3J{P:Nat->Prop}{w:World}:∀ (q:List (Int×Pkt)) (z:List (Value×Value)),(∀ (i:Nat) (x:Int×Pkt) (y:Value×Value),q[i]?=some x->z[i]?=some y->Rep P w y.1 2 16 (pwC x.2.S)/\Rep P w y.2 1 8 (inC x.2.D))->∀ u∈quL q z,u.oneCell'=true
 | [],_,_,u,hu=>by cases hu
 | _ :: _,[],_,u,hu=>by cases hu
 | x :: q,y :: z,h,u,hu=>by
  rcases List.mem_append.1 hu with h1 | h1
  ·obtain⟨a,b⟩:=h 0 x y rfl rfl;have e1:=z3q a;have e2:=z3q b;simp only[akL,List.mem_cons,List.not_mem_nil,or_false]at h1
   rcases h1 with rfl | rfl | rfl | rfl | rfl | rfl | rfl <;> first | rfl | assumption
  ·exact j3J q z (fun i x' y' hx hy=>h (i+1) x' y' (by simpa using hx) (by simpa using hy)) u h1
structure z8n(P:Nat->Prop)(w:World)(p:Pr)(v:PrV):Prop where
 ws:Rep P w v.ws 8 64 (wsL p.s.W)
 set:Rep P w v.set 2 16 (pwC p.set)
 lk:∀ c,c<2->z6c P w (p.L c) (v.l c)
theorem z8n.keep{P:Nat->Prop}{w w':World}{p:Pr}{v:PrV}(h:z8n P w p v)(hk:∀ b,P b->b<w.heap.size->w'.heap[b]?=w.heap[b]?):z8n P w' p v:=⟨h.ws.keep hk,h.set.keep hk,fun c hc=>z6c.keep' (h.lk c hc) hk⟩
theorem z8n.mono{P P':Nat->Prop}{w:World}{p:Pr}{v:PrV}(h:z8n P w p v)(hp:∀ b,b<w.heap.size->P b->P' b):z8n P' w p v:=⟨h.ws.mono hp,h.set.mono hp,fun c hc=>⟨(h.lk c hc).told.mono hp,(h.lk c hc).done.mono hp,(h.lk c hc).said.mono hp,(h.lk c hc).due.mono hp⟩⟩
structure QuR(w:World)(p:Pr)(P:Nat->Prop)(A:Option Addr)(C:Nat)(k:Nat)(wl:World):Prop where
 half:∃ v' z,v'.q=.slice A p.q.length C/\z7F w p v' wl/\wl.ownsRow (w.heap.size+2) 85 7 (.slice A p.q.length C) p.q.length (quL p.q z)/\(∀ g,A=some ⟨g,0,none⟩->z8F (fun b=>P b/\b<w.heap.size) (w.heap.size+2) g wl (p.q.map (·.2)) z k/\z8n (fun b=>w.heap.size+2<=b/\b≠g) wl p v')/\z8n (fun b=>w.heap.size+2<=b) wl p v'
attribute [local go_sem ↓] z0K z0q z2E z1Y
theorem q6M(p:Pr)(v:PrV)(P:Nat->Prop)(w:World)(hp:PIn P w p v)(h88:p.q.length * 88<=140737488351232) :
  Calls prog 29 #[.agg (prC p v)] w fun e w'=>∃ v',e=.returned (.agg (prC p v'))/\PIn (fun b=>w.heap.size+2<=b) w' p v'/\Below w.heap.size w w':=by
 have hp':PIn (fun b=>P b/\b<w.heap.size) w p v:=hp.mono fun b hl hb=>⟨hb,hl⟩;obtain⟨z,hz,hzr,hzi⟩:=id hp'.q;obtain⟨A0,C0,sb0,so0,e0,-,-,-⟩:=hp'.ws.q4n;obtain⟨A1,C1,e1,-,-⟩:=row_of hp'.set (z0c p.set) (by decide)
 have hwl:p.s.W.length * 64<=140737488351232:=by obtain⟨_,_,_,_,h⟩:=row_of hp'.ws (z1D p.s.W) (by decide);exact h
 have HW:=hide (fun (wx:World) (hb:Below w.heap.size w wx)=>(show Calls prog 40 #[.slice A0 p.s.W.length C0] wx fun e w'=>∃ A C,e=.returned (.slice A p.s.W.length C)/\z2y wx.heap.size w' A C p.s.W/\Below wx.heap.size wx w' from by obtain⟨ao,c,sb,so,hve,hW,-,-⟩:=(hp'.ws.over hb).q4n;rw[e0]at hve;cases hve;exact z3R A0 p.s.W C0 sb so wx hW))
 have HS:=hide (fun (wx:World) (hb:Below w.heap.size w wx)=>z4S A1 p.set.length C1 (pwC p.set) wx (by obtain⟨B,D,e,R,-⟩:=row_of (hp'.set.over hb) (z0c p.set) (by decide);rw[e1]at e;cases e;exact R) (z6t _) (by obtain⟨_,_,_,_,h⟩:=row_of hp'.set (z0c p.set) (by decide);exact h))
 have HPI:=hide hp';have K0:z7F w p v ((w.alloc (.cells (prC p v) 57)).alloc (.cells zeroCells57 57)):=⟨(CAt.new _ w _).alloc _,CAt.new2 _ w _ _,(znw w _).alloc (by simp) _⟩
 clear hp hp' hzr hzi
 go_enter func29,ntmps29
 go_upto_region 1 with fail
 change Code.wp prog _ _ _ ((w.alloc (.cells (prC p v) 57)).alloc (.cells zeroCells57 57));generalize (w.alloc (.cells (prC p v) 57)).alloc (.cells zeroCells57 57)=w0 at *;have a63:w0.cell? ⟨w.heap.size,63,none⟩=some (.slice A0 p.s.W.length C0):=by rw[← e0];exact K0.cat.cell 63
 have HK0:=hide K0;have hz0:w.heap.size+2<=w0.heap.size:=K0.res.lt;clear K0
 go_upto_region 2 with (go_at_call 40;refine (HW.out _ HK0.out.bel).mono ?_;rintro e w1⟨B1,D1,rfl,U1,hb1⟩;have K1:=HK0.out.over hb1;have f1:=K1.cat.free 63;have y1:w1.cell? ⟨w.heap.size,63,none⟩=some v.ws:=K1.cat.cell 63;have hz1:=K1.cat.lt;have HU1:=hide (show _/\_ from⟨U1,hb1.size⟩);clear a63 U1 hb1)
 have K2:=K1.set 63 (.slice B1 p.s.W.length D1) (v':={ v with ws:=.slice B1 p.s.W.length D1 }) rfl
 have A2:Alt w.heap.size w1 (w1.setCell ⟨w.heap.size,63,none⟩ (.slice B1 p.s.W.length D1)):=(Alt.refl _ _).set 63 _;have U2:=(A2.rep (P:=fun b=>w0.heap.size<=b) (fun h=>by omega) (Rep.own (bts:=64) HU1.out.1 hwl)).mono (P':=fun b=>w.heap.size+2<=b) fun b _ hb=>by omega
 have hs1:=HU1.out.2;clear y1 f1 K1 HU1 HK0 A2;generalize w1.setCell ⟨w.heap.size,63,none⟩ (.slice B1 p.s.W.length D1)=w2 at *;have a65:w2.cell? ⟨w.heap.size,65,none⟩=some (.slice A1 p.set.length C1):=by rw[← e1];exact K2.cat.cell 65
 have HK2:=hide (show _/\_ from⟨K2,U2⟩);have hz2:w.heap.size+2<=w2.heap.size:=K2.res.lt;clear K2 U2 e0 e1
 go_upto_region 3 with (go_at_call 41;refine (HS.out _ HK2.out.1.bel).mono ?_;rintro e w3⟨B3,D3,rfl,U3,hb3⟩;have K3:=HK2.out.1.over hb3;have f3:=K3.cat.free 65;have y3:w3.cell? ⟨w.heap.size,65,none⟩=some v.set:=K3.cat.cell 65;have hz3:=K3.cat.lt;have HU3:=hide (show _/\_ from⟨U3,hb3⟩);clear a65 U3 hb3)
 have K4:=K3.set 65 (.slice B3 p.set.length D3) (v':={ v with ws:=.slice B1 p.s.W.length D1,set:=.slice B3 p.set.length D3 }) rfl
 have A4:Alt w.heap.size w3 (w3.setCell ⟨w.heap.size,65,none⟩ (.slice B3 p.set.length D3)):=(Alt.refl _ _).set 65 _;have V4:=A4.rep (P:=fun b=>w.heap.size+2<=b) (fun h=>by omega) (HK2.out.2.over HU3.out.2)
 have S4:=(A4.rep (P:=fun b=>w2.heap.size<=b) (fun h=>by omega) HU3.out.1).mono (P':=fun b=>w.heap.size+2<=b) fun b _ hb=>by omega
 have HR0:Hid (LkR w p v 0 (w3.setCell ⟨w.heap.size,65,none⟩ (.slice B3 p.set.length D3))):=⟨⟨{ v with ws:=.slice B1 p.s.W.length D1,set:=.slice B3 p.set.length D3 },rfl,K4,V4,S4,fun c hc=>by omega,fun c _=>rfl⟩⟩
 have hz4:=K4.cat.lt;clear y3 f3 K3 K4 A4 V4 S4 HU3 HK2 HS HW;generalize w3.setCell ⟨w.heap.size,65,none⟩ (.slice B3 p.set.length D3)=w4 at *
 go_upto_region 4 with fail
 go_loopw [16] (fun i wl=>∃ (k:Nat),k<=2/\i=.int .i64 (k:Int)/\Hid (LkR w p v k wl)) (fun i _=>2 - (intOf i).toNat)
 case atStart=>exact⟨0,by omega,rfl,HR0⟩
 case round =>
  obtain⟨k,hk,rfl,HRR⟩:=hrel;clear HR0;obtain⟨v',hq,KH,W4,S4,L4,N4⟩:=HRR.out.half
  by_cases hltk:k<2
  ·have hkI:(k:Int)<2:=by omega
   have hlk:v'.l k=v.l k:=N4 k (Nat.le_refl _);obtain⟨At,Ct,et,-,hbt⟩:=row_of (HPI.out.lk k hltk).told (z0c _) (by decide)
   obtain⟨Ad,Cd,ed,-,hbd⟩:=row_of (HPI.out.lk k hltk).done (z0r _) (by decide)
   have HT:=hide (fun (wx:World) (hb:Below w.heap.size w wx)=>z4S At (p.L k).told.length Ct (pwC (p.L k).told) wx (by obtain⟨B,D,e,R,-⟩:=row_of ((HPI.out.lk k hltk).told.over hb) (z0c _) (by decide);rw[et]at e;cases e;exact R) (z6t _) hbt)
   have HD:=hide (fun (wx:World) (hb:Below w.heap.size w wx)=>z6p Ad (p.L k).done.length Cd (inC (p.L k).done) wx (by obtain⟨B,D,e,R,-⟩:=row_of ((HPI.out.lk k hltk).done.over hb) (z0r _) (by decide);rw[ed]at e;cases e;exact R) (q7i _) hbd)
   have HL:=hide (fun (wx:World) (hb:Below w.heap.size w wx)=>z8W (p.L k).out (v.l k).said (v.l k).due _ wx ((HPI.out.lk k hltk).said.over hb) ((HPI.out.lk k hltk).due.over hb));have hwr:w.heap.size+2<=wr.heap.size:=KH.res.lt;have c3:wr.cell? ⟨w.heap.size,66+k * 14+3,none⟩=some (.slice At (p.L k).told.length Ct):=(KH.cat.cell (66+k * 14+3)).trans ((z3I k hltk 3 (by omega)).trans (by rw[hlk,← et];rfl))
   have HX:=hide (show _/\_/\_/\_/\_/\_/\_/\_ from⟨KH,W4,S4,L4,N4,hlk,et,ed⟩);clear KH W4 S4 L4 N4 hlk et ed hbt hbd
   go_upto_region 8 with (go_at_call 41;refine (HT.out _ HX.out.1.bel).mono ?_;rintro e w5⟨B5,D5,rfl,U5,hb5⟩;have K5:=HX.out.1.over hb5;have f5:=K5.cat.free (66+k * 14+3);have hz5:=K5.cat.lt;have y5:w5.cell? ⟨w.heap.size,66+k * 14+3,none⟩=some (v.l k).told:=(K5.cat.cell (66+k * 14+3)).trans ((z3I k hltk 3 (by omega)).trans (by rw[HX.out.2.2.2.2.2.1];rfl));have HU5:=hide (show _/\_ from⟨U5,hb5⟩);clear c3 U5 hb5)
   have K6:=K5.set (66+k * 14+3) (.slice B5 (p.L k).told.length D5) (q9a k hltk 3 _ ⟨.slice B5 (p.L k).told.length D5,(v.l k).done,(v.l k).said,(v.l k).due⟩ (by omega) (by rw[HX.out.2.2.2.2.2.1];rfl))
   have A6:Alt w.heap.size w5 (w5.setCell ⟨w.heap.size,66+k * 14+3,none⟩ (.slice B5 (p.L k).told.length D5)):=(Alt.refl _ _).set _ _;have U6:=(A6.rep (P:=fun b=>wr.heap.size<=b) (fun h=>by omega) HU5.out.1).mono (P':=fun b=>w.heap.size+2<=b) fun b _ hb=>by omega
   have Q6:∀ b,w.heap.size+2<=b->b<wr.heap.size->(w5.setCell ⟨w.heap.size,66+k * 14+3,none⟩ (.slice B5 (p.L k).told.length D5)).heap[b]?=wr.heap[b]?:=fun b hb hl=>(A6.block b (by have:=HU5.out.2.size;omega) (by omega)).trans (HU5.out.2.block b hl)
   have z6:=HU5.out.2.size;have z6':=A6.size;clear y5 f5 K5 A6 HU5 HT;generalize w5.setCell ⟨w.heap.size,66+k * 14+3,none⟩ (.slice B5 (p.L k).told.length D5)=w6 at *;have c5:w6.cell? ⟨w.heap.size,66+k * 14+5,none⟩=some (.slice Ad (p.L k).done.length Cd):=(K6.cat.cell (66+k * 14+5)).trans ((z3I k hltk 5 (by omega)).trans (by rw[q7c,← HX.out.2.2.2.2.2.2.2];rfl))
   have hz6:w.heap.size+2<=w6.heap.size:=K6.res.lt;have HY:=hide (show _/\_/\_/\_/\_ from⟨K6,U6,Q6,z6,z6'⟩);clear K6 U6 Q6 z6 z6'
   go_upto_region 9 with (go_at_call 42;refine (HD.out _ HY.out.1.bel).mono ?_;rintro e w7⟨B7,D7,rfl,U7,hb7⟩;have K7:=HY.out.1.over hb7;have f7:=K7.cat.free (66+k * 14+5);have hz7:=K7.cat.lt;have y7:w7.cell? ⟨w.heap.size,66+k * 14+5,none⟩=some (v.l k).done:=(K7.cat.cell (66+k * 14+5)).trans ((z3I k hltk 5 (by omega)).trans (by rw[q7c];rfl));have HU7:=hide (show _/\_ from⟨U7,hb7⟩);clear c5 U7 hb7)
   have K8:=K7.set (66+k * 14+5) (.slice B7 (p.L k).done.length D7) (q9a k hltk 5 _ ⟨.slice B5 (p.L k).told.length D5,.slice B7 (p.L k).done.length D7,(v.l k).said,(v.l k).due⟩ (by omega) (by rw[q7c];rfl))
   rw[q8D]at K8;have A8:Alt w.heap.size w7 (w7.setCell ⟨w.heap.size,66+k * 14+5,none⟩ (.slice B7 (p.L k).done.length D7)):=(Alt.refl _ _).set _ _;have U8:=A8.rep (P:=fun b=>w.heap.size+2<=b) (fun h=>by omega) (HY.out.2.1.over HU7.out.2)
   have V8:=(A8.rep (P:=fun b=>w6.heap.size<=b) (fun h=>by omega) HU7.out.1).mono (P':=fun b=>w.heap.size+2<=b) fun b _ hb=>by omega
   have z8:wr.heap.size<=w7.heap.size:=by have h1:=HU7.out.2.size;have h2:=HY.out.2.2.2.1;have h3:=HY.out.2.2.2.2;omega
   have Q8:∀ b,w.heap.size+2<=b->b<wr.heap.size->(w7.setCell ⟨w.heap.size,66+k * 14+5,none⟩ (.slice B7 (p.L k).done.length D7)).heap[b]?=wr.heap[b]?:=fun b hb hl=>((A8.block b (by omega) (by omega)).trans (HU7.out.2.block b (by have h2:=HY.out.2.2.2.1;have h3:=HY.out.2.2.2.2;omega))).trans (HY.out.2.2.1 b hb hl)
   have z8':=A8.size;clear y7 f7 K7 A8 HU7 HY HD;generalize w7.setCell ⟨w.heap.size,66+k * 14+5,none⟩ (.slice B7 (p.L k).done.length D7)=w8 at *;have l8:=z6u ((q0r p _ hltk (v.l k).said (v.l k).due).part K8.cat) rfl;rw[q7c]at l8;change (z2I (.pointer (some ⟨w.heap.size,66+k * 14+6,none⟩))).run prog w8=.ok (.agg #[(v.l k).said,(v.l k).due,.int .i64 (p.L k).out.g,.bool (p.L k).out.cl]) w8 at l8;have hz8:w.heap.size+2<=w8.heap.size:=K8.res.lt;have HY:=hide (show _/\_/\_/\_/\_/\_ from⟨K8,U8,V8,Q8,z8,z8'⟩);clear K8 U8 V8 Q8 z8 z8'
   go_upto_region 10 with (go_at_call 43;refine (HL.out _ HY.out.1.bel).mono ?_;rintro e w9⟨u1,u2,rfl,U9,V9,hb9⟩;have K9:=HY.out.1.over hb9;have s9:=q2s (w:=w9) (g:=w.heap.size) (o:=66+k * 14+6) (cs:=[u1,u2,.int .i64 (p.L k).out.g,.bool (p.L k).out.cl]) ((q0r p _ hltk u1 u2).there K9.cat) rfl (by have a1:=U9.one;have a2:=V9.one;simp only[List.all_cons,List.all_nil,a1,a2];rfl);change (z3k (.pointer (some ⟨w.heap.size,66+k * 14+6,none⟩)) (.agg #[u1,u2,.int .i64 (p.L k).out.g,.bool (p.L k).out.cl])).run prog w9=_ at s9;have HU9:=hide (show _/\_/\_ from⟨U9,V9,hb9⟩);have HK9:=hide K9;clear l8 U9 V9 hb9 K9)
   have hz9:=HK9.out.res.lt;have A10:Alt w.heap.size w9 (w9.setCells w.heap.size (66+k * 14+6) [u1,u2,.int .i64 (p.L k).out.g,.bool (p.L k).out.cl]):=Alt.sets _ (Alt.refl _ _) _;have C10:=(q0r p _ hltk u1 u2).sets HK9.out.cat;rw[q7c,q8D]at C10;have K10:z7F w p (v'.upd k ⟨.slice B5 (p.L k).told.length D5,.slice B7 (p.L k).done.length D7,u1,u2⟩) (w9.setCells w.heap.size (66+k * 14+6) [u1,u2,.int .i64 (p.L k).out.g,.bool (p.L k).out.cl]):=⟨C10,A10.cat (by omega) HK9.out.res,z0b (b:=w.heap.size) (Nat.le_refl _) _ _ _ HK9.out.bel⟩
   have I10:z6c (fun b=>w.heap.size+2<=b) (w9.setCells w.heap.size (66+k * 14+6) [u1,u2,.int .i64 (p.L k).out.g,.bool (p.L k).out.cl]) (p.L k) ⟨.slice B5 (p.L k).told.length D5,.slice B7 (p.L k).done.length D7,u1,u2⟩:=
    z6c.keep' (w:=w9) ⟨HY.out.2.1.over HU9.out.2.2,HY.out.2.2.1.over HU9.out.2.2,HU9.out.1.mono fun b _ hb=>by omega,HU9.out.2.1.mono fun b _ hb=>by omega⟩ fun b hb hl=>A10.block b hl (by omega)
   have HM:=hide (LkR.step hltk _ hq K10 HX.out.2.1 HX.out.2.2.1 HX.out.2.2.2.1 HX.out.2.2.2.2.1 I10 fun b hb hl=>((A10.block b (by have h1:=HU9.out.2.2.size;have h2:=HY.out.2.2.2.2.1;have h3:=HY.out.2.2.2.2.2;omega) (by omega)).trans (HU9.out.2.2.block b (by have h2:=HY.out.2.2.2.2.1;have h3:=HY.out.2.2.2.2.2;omega))).trans (HY.out.2.2.2.1 b hb hl))
   clear A10 C10 K10 I10 HX HY HU9 HK9 s9;generalize w9.setCells w.heap.size (66+k * 14+6) [u1,u2,.int .i64 (p.L k).out.g,.bool (p.L k).out.cl]=w10 at *;go_wp2;exact⟨⟨k+1,by omega,by go_num,HM⟩,by simp[intOf];omega⟩
  ·obtain rfl:k=2:=by omega
   obtain⟨z,hz,hzr,hzi⟩:=HPI.out.q;obtain⟨A2,C2,e2,-,-⟩:=row_of hzr (z2x p.q z hz) (by decide)
   have HK:=hide (fun (wx:World) (hb:Below w.heap.size w wx)=>q4Y A2 p.q.length C2 (quL p.q z) wx (by obtain⟨B,D,e,R,-⟩:=row_of (hzr.over hb) (z2x p.q z hz) (by decide);rw[e2]at e;cases e;exact R) (j3J p.q z hzi) h88)
   have HZ0:Hid (∀ g wx,w.heap.size<=g->Below w.heap.size w wx->z8F (fun b=>P b/\b<w.heap.size) (w.heap.size+2) g wx (p.q.map (·.2)) z 0):=fun g wx hg hb=>⟨by simpa using hz,fun i x y hi=>by omega,fun i x y _ hx hy=>by
    obtain⟨x',hx',rfl⟩:∃ x',p.q[i]?=some x'/\x'.2=x:=by simpa using hx
    exact⟨(hzi i x' y hx' hy).1.over hb,(hzi i x' y hx' hy).2.over hb⟩⟩
   have x96:wr.cell? ⟨w.heap.size,96,none⟩=some (.slice A2 p.q.length C2):=by rw[← e2,← hq];exact KH.cat.cell 96
   have PR:z8n (fun b=>w.heap.size+2<=b) wr p v':=⟨W4,S4,L4⟩;have hwr:w.heap.size+2<=wr.heap.size:=KH.res.lt;have HX:=hide (show _/\_ from⟨KH,PR⟩);clear KH PR W4 S4 L4 N4 HRR hzr hzi
   go_upto_region 12 with (go_at_call 44;refine (HK.out _ HX.out.1.bel).mono ?_;rintro e w5⟨B5,D5,rfl,U5,hb5⟩;have K5:=HX.out.1.over hb5;have f5:=K5.cat.free 96;have y5:w5.cell? ⟨w.heap.size,96,none⟩=some v'.q:=K5.cat.cell 96;have hz5:=K5.cat.lt;have HU5:=hide (show _/\_ from⟨U5,hb5⟩);clear x96 U5 hb5)
   have K6:=K5.set 96 (.slice B5 p.q.length D5) (v':={ v' with q:=.slice B5 p.q.length D5 }) rfl
   have A6:Alt w.heap.size w5 (w5.setCell ⟨w.heap.size,96,none⟩ (.slice B5 p.q.length D5)):=(Alt.refl _ _).set 96 _;have O6:(w5.setCell ⟨w.heap.size,96,none⟩ (.slice B5 p.q.length D5)).ownsRow (w.heap.size+2) 85 7 (.slice B5 p.q.length D5) p.q.length (quL p.q z):=z4p (z1n HU5.out.1 fun k hk=>A6.block k (World.ownsRow.lt HU5.out.1 k hk).2 (by have:=(World.ownsRow.lt HU5.out.1 k hk).1;omega)) (by omega)
   have hgb:∀ g,B5=some ⟨g,0,none⟩->wr.heap.size<=g:=fun g hg=>(World.ownsRow.lt HU5.out.1 g (by rw[hg];rfl)).1
   have R6:z8n (fun b=>w.heap.size+2<=b/\b<wr.heap.size) (w5.setCell ⟨w.heap.size,96,none⟩ (.slice B5 p.q.length D5)) p { v' with q:=.slice B5 p.q.length D5 }:=
    let R:=(HX.out.2.mono (P':=fun b=>w.heap.size+2<=b/\b<wr.heap.size) fun b hl hb=>⟨hb,hl⟩).keep (w':=w5.setCell ⟨w.heap.size,96,none⟩ (.slice B5 p.q.length D5)) fun b hb hl=>(A6.block b (by have:=HU5.out.2.size;omega) (by omega)).trans (HU5.out.2.block b hl)
    ⟨R.ws,R.set,R.lk⟩
   have HR6:Hid (QuR w p P B5 D5 0 (w5.setCell ⟨w.heap.size,96,none⟩ (.slice B5 p.q.length D5))):=⟨⟨_,z,rfl,K6,O6,fun g hg=>⟨HZ0.out g _ (by have:=hgb g hg;omega) K6.bel,R6.mono fun b _ hb=>⟨hb.1,by have:=hgb g hg;omega⟩⟩,R6.mono fun b _ hb=>hb.1⟩⟩
   have a96:(w5.setCell ⟨w.heap.size,96,none⟩ (.slice B5 p.q.length D5)).cell? ⟨w.heap.size,96,none⟩=some (.slice B5 p.q.length D5):=K6.cat.cell 96;have hz6:=K6.cat.lt;clear y5 f5 K5 K6 A6 R6 O6 hgb HU5 HX HZ0 HK e2 hq;generalize w5.setCell ⟨w.heap.size,96,none⟩ (.slice B5 p.q.length D5)=w6 at *
   go_upto_region 13 with fail
   go_loopw [54] (fun i wl=>∃ (k:Nat),k<=p.q.length/\i=.int .i64 (k:Int)/\Hid (QuR w p P B5 D5 k wl)) (fun i _=>p.q.length - (intOf i).toNat)
   case atStart=>exact⟨0,Nat.zero_le _,rfl,HR6⟩
   case round =>
    obtain⟨k,hk,rfl,HRR⟩:=hrel;clear HR6 a96 hltk;obtain⟨v2,z',hv2,KH,O4,hKH,hV⟩:=HRR.out.half
    by_cases hltk:k<p.q.length
    ·obtain⟨gq,cur,rfl,hgq,Cq,hnC,hCm,hcs,hct⟩:=q0o O4 (by omega)
     obtain⟨KK,hV2⟩:=hKH gq rfl;have hzl:z'.length=p.q.length:=by have:=KK.len;simpa using this
     have hx:p.q[k]?=some p.q[k]:=List.getElem?_eq_getElem hltk;have hy:z'[k]?=some z'[k]:=List.getElem?_eq_getElem (by omega)
     generalize p.q[k]=xk at hx;generalize z'[k]=yk at hy;have hx2:(p.q.map (·.2))[k]?=some xk.2:=by simp[hx]
     have e4:cur[k * 7+1+4]?=some yk.1:=z7n hct ((z6S p.q z' k xk yk 5 hx hy (by omega)).trans rfl)
     have e5:cur[k * 7+1+5]?=some yk.2:=z7n hct ((z6S p.q z' k xk yk 6 hx hy (by omega)).trans rfl)
     obtain⟨o1,o2⟩:=KK.old k xk.2 yk (Nat.le_refl _) hx2 hy;have hgw:=Cq.lt;have HCL:=hide (z8i gq (k * 7+1) 85 cur xk.2.S xk.2.D yk.1 yk.2 _ wr Cq e4 e5 o1 o2 (fun h=>by omega))
     have x96:wr.cell? ⟨w.heap.size,96,none⟩=some (.slice (some ⟨gq,0,none⟩) p.q.length D5):=by rw[← hv2];exact KH.cat.cell 96
     have hwr:=KH.cat.lt;have hkI:(k:Int)<(p.q.length:Int):=by omega
     have HN:Hid (∀ u1 u2 w5,CAt 85 w5 gq ((cur.setIfInBounds (k * 7+1+4) u1).setIfInBounds (k * 7+1+5) u2)->Rep (fun b=>wr.heap.size<=b) w5 u1 2 16 (pwC xk.2.S)->Rep (fun b=>wr.heap.size<=b) w5 u2 1 8 (inC xk.2.D)->Alt gq wr w5->QuR w p P (some ⟨gq,0,none⟩) D5 (k+1) w5):=fun u1 u2 w5 hc h1 h2 ha=>by
      have hbe:w.heap.size+2<=wr.heap.size:=KH.res.lt;have O5:=q4l (base:=w.heap.size+2) O4.1 hgq hnC hCm hcs hct (k * 7+1+4) (k * 7+1+5) u1 u2 hc;rw[q3S p.q z' k u1 u2 hzl hltk]at O5;have hR:z8n (fun b=>w.heap.size+2<=b/\b≠gq) w5 p v2:=hV2.keep fun b hb hl=>ha.block b hl hb.2;refine⟨⟨v2,_,hv2,⟨ha.cat (by omega) KH.cat,ha.cat (by omega) KH.res,KH.bel.trans (ha.below (by omega) KH.bel.size)⟩,O5,fun g hg=>?_,hR.mono fun b _ hb=>hb.1⟩⟩
      cases hg;exact⟨KK.step hx2 h1 h2 hbe hgw ha (fun h=>by omega),hR⟩
     clear O4 hKH hV KH Cq KK hV2 hx hy hx2 e4 e5 o1 o2 hct hcs hzl hv2
     go_wp2_with (go_at_call 45;refine HCL.out.mono ?_;rintro e w5⟨u1,u2,rfl,hc5,h15,h25,ha5⟩;have HM:=hide (HN.out u1 u2 w5 hc5 h15 h25 ha5);clear hc5 h15 h25 ha5)
     exact⟨⟨k+1,by omega,by go_num,HM⟩,by simp[intOf];omega⟩
    ·obtain rfl:k=p.q.length:=by omega
     have QR:q4q (fun b=>w.heap.size+2<=b) wr (.slice B5 p.q.length D5) p.q:=by
      by_cases h0:0<p.q.length
      ·obtain⟨gq,cur,rfl,-⟩:=q0o O4 h0;obtain⟨KK,-⟩:=hKH gq rfl;refine⟨z',by have:=KK.len;simpa using this,Rep.own O4 (by omega),fun i x y hx hy=>?_⟩
       have:=KK.new i x.2 y (List.getElem?_eq_some_iff.1 hx).1 (by simp[hx]) hy
       exact⟨this.1.mono fun b _ hb=>hb.1,this.2.mono fun b _ hb=>hb.1⟩
      ·have e0:p.q=[]:=List.length_eq_zero_iff.1 (by omega)
       have R:=Rep.own (bts:=80) O4 (by omega)
       rw[e0]at R ⊢;exact⟨[],rfl,R,fun i x y hx=>by cases hx⟩
     have I8:PIn (fun b=>w.heap.size+2<=b) wr p v2:=⟨hV.ws,hV.set,hV.lk,by rw[hv2];exact QR⟩
     have x96:wr.cell? ⟨w.heap.size,96,none⟩=some (.slice B5 p.q.length D5):=by rw[← hv2];exact KH.cat.cell 96
     have l8:=z0k KH.cat (z0a _ _);have s8:=z0l KH.res z0e (z0a p v2) (z1c I8);have R9:=KH.res.z0H (ds:=prC p v2) (by rw[z0e];rfl)
     have b9:=z0b (b:=w.heap.size+1) (Nat.le_succ _) (prC p v2).toList 0 _ KH.bel;have I9:=I8.sets (g:=w.heap.size+1) (by omega) 0 (prC p v2).toList
     have HZ:=hide (show _/\_/\_ from⟨R9,b9,I9⟩);clear O4 hKH hV KH QR I8 R9 b9 I9 hv2 HRR;generalize wr.setCells (w.heap.size+1) 0 (prC p v2).toList=w9 at *;go_wp2;exact bodyPost_ret (v:=.agg (prC p v2)) (results_cell_row results29 _ _ (w.heap.size+1) 57 _ (0,0) _ rfl HZ.out.1 underlying57 rfl (by rw[z3l];rfl)) rfl ⟨_,rfl,HZ.out.2.2,HZ.out.2.1⟩
end Wd
namespace Wd
open Go.RowKit Pv Kc
attribute [local go_sem ↓] z0K z0q z1t z1f
theorem j5c{x:Wo}(h:Inv x):x.p.q.length * 88<=140737488351232:=by
 have h1:=h.ql;have h2:=h.n1;omega
theorem j9z{x:Wo}(h:Inv x){i:Nat}(hi:i<2):(x.c i).pd.length * 80<=140737488351232/\(x.c i).rp.length * 16<=140737488351232:=by
 have h1:=h.cl i hi;have h2:=h.n1;omega
theorem j0I(g:Nat)(x:Wo)(v:WoV)(P:Nat->Prop)(w:World)(hC:CAt 98 w g (wdC x v))(hI:WIn P w x v)(hx:Inv x) :
  Calls prog 11 #[.pointer (some ⟨g,0,none⟩)] w fun e w'=>∃ v',e=.returned (.agg (prC x.p v'))/\PIn (fun b=>w.heap.size+1<=b) w' x.p v'/\Below w.heap.size w w':=by
 have hI':PIn (fun b=>P b/\b<w.heap.size) w x.p v.p:=hI.p.mono fun b hl hp=>⟨hp,hl⟩;have HP:=hide (fun (wx:World) (hb:Below w.heap.size w wx)=>q6M x.p v.p _ wx (hI'.over hb) (j5c hx));have HL:=hide (fun (wx:World) (hb:Below w.heap.size w wx)=>(show (q0k (.pointer (some ⟨g,2,none⟩))).run prog wx=.ok (.agg (prC x.p v.p)) wx from j1T ((z8y x v x.p v.p).part (hC.over hb)) (z0a _ _)));have R0:CAt 57 (w.alloc (.cells zeroCells57 57)) w.heap.size zeroCells57:=CAt.new _ w _;have B0:Below w.heap.size w (w.alloc (.cells zeroCells57 57)):=znw w _;have hlt:=hC.lt;clear hC hI hI'
 go_enter func11,ntmps11
 go_upto_region 1 with fail
 generalize w.alloc (.cells zeroCells57 57)=w0 at *;have hz0:=R0.lt;have l0:=HL.out w0 B0;have HR0:=hide (show _/\_ from⟨R0,B0⟩);clear R0 B0
 go_wp2_with (go_at_call 29;refine (HP.out _ HR0.out.2).mono ?_;rintro e w1⟨v',rfl,I1,b1⟩;have R1:=HR0.out.1.over b1;have hz1:=R1.lt;have s1:=z0l R1 z0e (z0a x.p v') (z1c I1);have R2:=R1.z0H (ds:=prC x.p v') (by rw[z0e];rfl);have b2:=z0b (b:=w.heap.size) (Nat.le_refl _) (prC x.p v').toList 0 _ (zbt HR0.out.2 b1);have I2:=(I1.sets (g:=w.heap.size) (by omega) 0 (prC x.p v').toList).mono (P':=fun b=>w.heap.size+1<=b) (fun b _ hb=>by omega);have HZ:=hide (show _/\_/\_ from⟨R2,b2,I2⟩);clear R1 R2 b1 b2 I1 I2 l0;generalize w1.setCells w.heap.size 0 (prC x.p v').toList=w2 at *)
 exact bodyPost_ret (v:=.agg (prC x.p v')) (results_cell_row results11 _ _ w.heap.size 57 _ (0,0) _ rfl HZ.out.1 underlying57 rfl (by rw[z3l];rfl)) rfl ⟨_,rfl,HZ.out.2.2,HZ.out.2.1⟩
theorem q8H(g:Nat)(x:Wo)(v:WoV)(P:Nat->Prop)(w:World)(i:Nat)(hi:i<2)(hC:CAt 98 w g (wdC x v))(hI:WIn P w x v)(hx:Inv x) :
  Calls prog 12 #[.pointer (some ⟨g,0,none⟩),.int .i64 (i:Int)] w fun e w'=>∃ v',e=.returned (.agg (csC (x.c i) v'))/\CIn (fun b=>w.heap.size+1<=b) w' (x.c i) v'/\Below w.heap.size w w':=by
 have hI':CIn (fun b=>P b/\b<w.heap.size) w (x.c i) (v.c i):=(hI.c i hi).mono fun b hl hp=>⟨hp,hl⟩;have HP:=hide (fun (wx:World) (hb:Below w.heap.size w wx)=>q5I (x.c i) (v.c i) _ wx (hI'.over hb) (j9z hx hi).1 (j9z hx hi).2);have HL:=hide (fun (wx:World) (hb:Below w.heap.size w wx)=>(show (z7k (.pointer (some ⟨g,99+i * 22,none⟩))).run prog wx=.ok (.agg (csC (x.c i) (v.c i))) wx from j4Y ((q1L x v hi (x.c i) (v.c i)).part (hC.over hb)) (z0p _ _)));have R0:CAt 63 (w.alloc (.cells Z22 63)) w.heap.size Z22:=CAt.new _ w _;have B0:Below w.heap.size w (w.alloc (.cells Z22 63)):=znw w _;have hlt:=hC.lt;have i1:(i:Int)<2:=by omega
 have hic:isC (i:Int)=true:=by unfold isC;simp;omega
 have HCC:Hid (∀ wx,Calls prog 30 #[.int .i64 (i:Int)] wx fun e w'=>e=.returned (.bool true)/\wx=w'):=fun wx=>by rw[← hic];exact z3r i wx
 clear hC hI hI'
 go_enter func12,ntmps12
 go_upto_region 1 with fail
 change Code.wp prog _ _ _ (w.alloc (.cells Z22 63));generalize w.alloc (.cells Z22 63)=w0 at *;have hz0:=R0.lt;have l0:=HL.out w0 B0;have HR0:=hide (show _/\_ from⟨R0,B0⟩);clear R0 B0
 go_wp2_with (first
  | (go_at_call 30;refine (HCC.out _).mono ?_;rintro e w'⟨rfl,rfl⟩)
  | (go_at_call 31;refine (HP.out _ HR0.out.2).mono ?_;rintro e w1⟨v',rfl,I1,b1⟩;have R1:=HR0.out.1.over b1;have hz1:=R1.lt;have s1:=z2o R1 z0z (z0p (x.c i) v') (z2k I1);have R2:=R1.z0H (ds:=csC (x.c i) v') (by rw[z0z];rfl);have b2:=z0b (b:=w.heap.size) (Nat.le_refl _) (csC (x.c i) v').toList 0 _ (zbt HR0.out.2 b1);have I2:=(I1.sets (g:=w.heap.size) (by omega) 0 (csC (x.c i) v').toList).mono (P':=fun b=>w.heap.size+1<=b) (fun b _ hb=>by omega);have HZ:=hide (show _/\_/\_ from⟨R2,b2,I2⟩);clear R1 R2 b1 b2 I1 I2 l0;generalize w1.setCells w.heap.size 0 (csC (x.c i) v').toList=w2 at *))
 exact bodyPost_ret (v:=.agg (csC (x.c i) v')) (z5u results12 _ _ _ _ rfl HZ.out.1 rfl) rfl ⟨_,rfl,HZ.out.2.2,HZ.out.2.1⟩
end Wd
namespace Wd
open Go.RowKit Pv Kc
def y1a:CsV:=⟨.slice none 0 0,.slice none 0 0,.slice none 0 0,.slice none 0 0,.slice none 0 0⟩
def q2r:WoV:=⟨z5q,fun _=>y1a⟩
theorem j8h(P:Nat->Prop)(w:World):CIn P w csN y1a:=⟨Rep.nil _ _ _ _,z7X.nil _ _,Rep.nil _ _ _ _,z0I.nil _ _ _ _,z0I.nil _ _ _ _⟩
theorem j4Z(P:Nat->Prop)(w:World):WIn P w z7h q2r:=by
 refine⟨⟨Rep.nil _ _ _ _,Rep.nil _ _ _ _,fun c _=>⟨Rep.nil _ _ _ _,Rep.nil _ _ _ _,z0I.nil _ _ _ _,z0I.nil _ _ _ _⟩,⟨[],rfl,Rep.nil _ _ _ _,fun i x y h=>by cases h⟩⟩,fun i _=>j8h P w⟩
theorem j1w(w:World):Calls prog 22 #[] w fun e w'=>∃ g,e=.returned (.pointer (some ⟨g,0,none⟩))/\CAt 98 w' g (wdC z7h q2r)/\w.heap.size<=g/\Below w.heap.size w w':=by
 have HN:=hide (q3F w);have HE:Hid (∀ w1:World,Below w.heap.size w w1->CAt 98 (w1.alloc (.cells (wdC z7h q2r) 98)) w1.heap.size (wdC z7h q2r)/\Below w.heap.size w (w1.alloc (.cells (wdC z7h q2r) 98))):=fun w1 hb=>⟨CAt.new _ w1 _,hb.alloc hb.size _⟩
 go_enter func22,ntmps22
 go_upto_region 1 with fail
 apply wp_region_lit
 go_step
 go_step
 refine HN.out.mono ?_;rintro e w1⟨rfl,h1⟩;have HB1:=hide h1;clear h1;dsimp only
 go_step
 go_step
 go_step
 change Oper.upon prog _ _ _ _ (Result.ok (Next.value (.agg (wdC z7h q2r))) w1);obtain⟨C,B⟩:=HE.out w1 HB1.out;obtain⟨ts,hts⟩:∃ y,y=wdC z7h q2r:=⟨_,rfl⟩;rw[← hts]at C B ⊢;have HZ:=hide (show _/\_/\_ from⟨C,B,hts⟩);clear C B hts;go_simp;apply_assumption;go_wp2;go_ret;refine⟨w1.heap.size,rfl,?_,HB1.out.size,HZ.out.2.1⟩;have h:=HZ.out.1;have e:=HZ.out.2.2;exact Eq.mp (congrArg (CAt 98 _ _) e) h
theorem q6E(g:Nat)(x:Wo)(v:WoV)(w:World)(hC:CAt 98 w g (wdC x v)):Calls prog 39 #[.pointer (some ⟨g,0,none⟩)] w fun e w'=>e=.returned (.int .i64 x.ck)/\w=w':=by
 have c0:w.cell? ⟨g,0,none⟩=some (.int .i64 x.ck):=hC.cell 0;have hlt:=hC.lt;clear hC
 go_enter func39,ntmps39
 go_wp2;go_ret;exact⟨rfl,rfl⟩
def y0n(l:List Dd):Wo:=l.foldl (fun x d=>(doW x d).1) z7h
theorem q4B:∀ (l:List Dd) (x:Wo),Inv x->Inv (l.foldl (fun x d=>(doW x d).1) x)
 | [],_,h=>h
 | d :: l,_,h=>q4B l _ (j4J h d)
theorem j5D(l:List Dd):Inv (y0n l):=q4B l _ q7x
def stW(l:List Dd)(k:Nat):Wo:=y0n (l.take k)
theorem z3j{l:List Dd}{k:Nat}{d:Dd}(h:l[k]?=some d):stW l (k+1)=(doW (stW l k) d).1:=by
 unfold stW y0n;rw[List.take_add_one,h,List.foldl_append];rfl
theorem q0D(l:List Dd)(k:Nat):Inv (stW l k):=j5D _
def dA:Dd:=⟨1,0,0,0,700,false,false⟩
def dB:Dd:=⟨5,0,0,0,5,false,false⟩
def dC:Dd:=⟨6,0,0,0,0,false,false⟩
def dD:Dd:=⟨4,0,0,0,0,false,false⟩
theorem j6u:(doW z7h dA).2.1=0:=by decide +kernel
theorem j6x:(doW (doW z7h dA).1 dB).2.2=5:=by decide +kernel
theorem j6Y:(doW (doW (doW z7h dA).1 dB).1 dC).2.1=0:=by decide +kernel
theorem j5L:(doW (doW (doW (doW z7h dA).1 dB).1 dC).1 dD).2.2=1:=by decide +kernel
theorem j6b:(doW (doW (doW (doW z7h dA).1 dB).1 dC).1 dD).1.ck=5:=by decide +kernel
theorem j5O:((doW (doW (doW (doW z7h dA).1 dB).1 dC).1 dD).1.c 0).set.length=1:=by decide +kernel
end Wd
end Go.Proofs.YtmopekkhmhhcaaaGreat
