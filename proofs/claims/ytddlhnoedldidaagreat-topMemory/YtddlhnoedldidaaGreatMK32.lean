/- Parts of the proof. -/
import Derived.Test.YtddlhnoedldidaaGreatML
import Derived.Test.YtddlhnoedldidaaGreatMK25
set_option maxRecDepth 100000
set_option maxHeartbeats 16000000
namespace Go.Proofs.YtddlhnoedldidaaGreat
open Go.Proofs.Tryz
open Value renaming int->J,slice->J1,pointer->J2,bool->J3,agg->J4
open IntKind renaming i64->I
open Obj renaming cells->J5
namespace Wd
open Go.RowKit Pv Kc
theorem z8L(A:Option Addr)(n C:Nat)(cs:List Value)(w:World)(h:Row w A n C 7 cs)(h1:∀ u∈cs,u.oneCell'=true)(hb:n * 88<=140737488351232) :
  Calls prog 42 #[J1 A n C] w fun e w'=>∃ A' C',e=.returned (J1 A' n C')/\w'.ownsRow w.heap.size 70 7 (J1 A' n C') n cs/\Bl w w':=by
 cases A with
 | none =>
  obtain⟨rfl,rfl⟩:=h.nil rfl;obtain rfl:cs=[]:=List.length_eq_zero_iff.1 (by rw[h.len])
  have c:=fun w=>j2P w none 0 0;clear h h1
  go_enter func42,ntmps42
  go_wp2;go_ret;exact⟨_,_,rfl,World.ownsRow_nil _ _ _ _,Below.refl _ _⟩
 | some a =>
  have c:=fun w=>j2P w (some a) n C;have d:=J6 h;have b:=J6 h1;clear h h1
  go_enter func42,ntmps42
  go_upto_region 3 with fail
  apply wp_region_lit
  iterate 6 go_step
  refine q5v rfl rfl _ _ rfl a n C cs rfl rfl d.out b.out hb ?_;rintro A' C' w'⟨h1,h2⟩;have b:=J6 h1;have f:=J6 h2;clear h1 h2;go_wp2;go_ret;exact⟨_,_,rfl,b.out,f.out⟩
theorem z8x(A:Option Addr)(n C:Nat)(cs:List Value)(w:World)(h:Row w A n C 6 cs)(h1:∀ u∈cs,u.oneCell'=true)(hb:n * 80<=140737488351232) :
  Calls prog 44 #[J1 A n C] w fun e w'=>∃ A' C',e=.returned (J1 A' n C')/\w'.ownsRow w.heap.size 68 6 (J1 A' n C') n cs/\Bl w w':=by
 cases A with
 | none =>
  obtain⟨rfl,rfl⟩:=h.nil rfl;obtain rfl:cs=[]:=List.length_eq_zero_iff.1 (by rw[h.len])
  have c:=fun w=>j2G w none 0 0;clear h h1
  go_enter func44,ntmps44
  go_wp2;go_ret;exact⟨_,_,rfl,World.ownsRow_nil _ _ _ _,Below.refl _ _⟩
 | some a =>
  have c:=fun w=>j2G w (some a) n C;have d:=J6 h;have b:=J6 h1;clear h h1
  go_enter func44,ntmps44
  go_upto_region 3 with fail
  apply wp_region_lit
  iterate 6 go_step
  refine q4C rfl rfl _ _ rfl a n C cs rfl rfl d.out b.out hb ?_;rintro A' C' w'⟨h1,h2⟩;have b:=J6 h1;have f:=J6 h2;clear h1 h2;go_wp2;go_ret;exact⟨_,_,rfl,b.out,f.out⟩
theorem z4e{w:World}{base n C size:Nat}{e:TypeId}{A:Option Addr}{b:List Value}(h:w.ownsRow base e size (J1 A n C) n b)(h0:0<n):∃ g a,A=some ⟨g,0,none⟩/\base<=g/\CAt e w g a/\n<=C/\C<=maxLen/\a.size=C * size/\a.toList.take (n * size)=b:=by
 rcases h.2 with⟨_,hn⟩ | ⟨g,cap,a,hv,h1,h2,h3,h4,h5,h6⟩
 ·omega
 ·cases hv;exact⟨g,a,rfl,h1,h2,h3,h4,h5,h6⟩
theorem z6M{w':World}{base n C size g:Nat}{e:TypeId}{a:Array Value}{b:List Value}(f:b.length=n * size)(hb:base<=g)(h:n<=C)(i:C<=maxLen)(j:a.size=C * size)(k:a.toList.take (n * size)=b)(c d:Nat)(u1 u2:Value)(hc:CAt e w' g ((a.setIfInBounds c u1).setIfInBounds d u2)):w'.ownsRow base e size (J1 (some ⟨g,0,none⟩) n C) n ((b.set c u1).set d u2):=by
 refine⟨by simpa using f,.inr ⟨g,C,_,rfl,hb,hc,h,i,by simpa using j,?_⟩⟩
 rw[<- k]
 simp[List.take_set]
theorem z3n{n size k:Nat}{a:Array Value}{b:List Value}(c:a.toList.take (n * size)=b){u:Value}(h:b[k]?=some u):a[k]?=some u:=by
 rw[<- c,List.getElem?_take]at h
 split at h
 ·simpa using h
 ·cases h
theorem z9K:∀ (q:List Pkt) (z:List (Value×Value)) (k:Nat) (u1 u2:Value),z.length=q.length->k<q.length->((pdL q z).set (k * 6+4) u1).set (k * 6+5) u2=pdL q (z.set k (u1,u2))
 | x :: q,y :: z,0,u1,u2,_,_=>by
  show ((pkL x y ++ pdL q z).set (0 * 6+4) u1).set (0 * 6+5) u2=pkL x (u1,u2) ++ pdL q z
  rfl
 | x :: q,y :: z,k+1,u1,u2,h,hk=>by
  have a:=z9K q z k u1 u2 (by simpa using h) (by simpa using hk)
  show ((pkL x y ++ pdL q z).set ((k+1) * 6+4) u1).set ((k+1) * 6+5) u2=pkL x y ++ pdL q (z.set k (u1,u2))
  rw[<- a,List.set_append_right _ _ (by show 6<=_;omega),List.set_append_right _ _ (by show 6<=_;omega)]
  show pkL x y ++ ((pdL q z).set ((k+1) * 6+4 - 6) u1).set ((k+1) * 6+5 - 6) u2=_
  rw[show (k+1) * 6+4 - 6=k * 6+4 by omega,show (k+1) * 6+5 - 6=k * 6+5 by omega]
 | [],_,_,_,_,_,hk=>by simp at hk
 | _ :: _,[],_,_,_,h,_=>by simp at h
theorem z9N:∀ (q:List (Int×Pkt)) (z:List (Value×Value)) (k:Nat) (u1 u2:Value),z.length=q.length->k<q.length->((quL q z).set (k * 7+1+4) u1).set (k * 7+1+5) u2=quL q (z.set k (u1,u2))
 | x :: q,y :: z,0,u1,u2,_,_=>by
  show ((akL x y ++ quL q z).set (0 * 7+1+4) u1).set (0 * 7+1+5) u2=akL x (u1,u2) ++ quL q z
  rfl
 | x :: q,y :: z,k+1,u1,u2,h,hk=>by
  have a:=z9N q z k u1 u2 (by simpa using h) (by simpa using hk)
  show ((akL x y ++ quL q z).set ((k+1) * 7+1+4) u1).set ((k+1) * 7+1+5) u2=akL x y ++ quL q (z.set k (u1,u2))
  rw[<- a,List.set_append_right _ _ (by show 7<=_;omega),List.set_append_right _ _ (by show 7<=_;omega)]
  show akL x y ++ ((quL q z).set ((k+1) * 7+1+4 - 7) u1).set ((k+1) * 7+1+5 - 7) u2=_
  rw[show (k+1) * 7+1+4 - 7=k * 7+1+4 by omega,show (k+1) * 7+1+5 - 7=k * 7+1+5 by omega]
 | [],_,_,_,_,_,hk=>by simp at hk
 | _ :: _,[],_,_,_,h,_=>by simp at h
structure z7V(P:Nat->Prop)(B g:Nat)(w:World)(q:List Pkt)(z:List (Value×Value))(k:Nat):Prop where
 len:z.length=q.length
 new:∀ (i:Nat) (x:Pkt) (y:Value×Value),i<k->q[i]?=some x->z[i]?=some y->Rep (fun b=>B<=b/\b≠g) w y.1 2 16 (pwC x.S)/\Rep (fun b=>B<=b/\b≠g) w y.2 1 8 (inC x.D)
 old:∀ (i:Nat) (x:Pkt) (y:Value×Value),k<=i->q[i]?=some x->z[i]?=some y->Rep P w y.1 2 16 (pwC x.S)/\Rep P w y.2 1 8 (inC x.D)
theorem z7V.keep{P:Nat->Prop}{B g:Nat}{w w':World}{q:List Pkt}{z:List (Value×Value)}{k:Nat}(h:z7V P B g w q z k)(f:∀ b,b<w.heap.size->(P b∨(B<=b/\b≠g))->w'.heap[b]?=w.heap[b]?):z7V P B g w' q z k:=
 ⟨h.len,fun i x y c d e=>⟨(h.new i x y c d e).1.keep fun b hb a=>f b a (.inr hb),(h.new i x y c d e).2.keep fun b hb a=>f b a (.inr hb)⟩,fun i x y c d e=>⟨(h.old i x y c d e).1.keep fun b hb a=>f b a (.inl hb),(h.old i x y c d e).2.keep fun b hb a=>f b a (.inl hb)⟩⟩
theorem z7V.step{P:Nat->Prop}{B g:Nat}{w w':World}{q:List Pkt}{z:List (Value×Value)}{k:Nat}(h:z7V P B g w q z k){x:Pkt}(c:q[k]?=some x){u1 u2:Value}(h1:Rep (fun b=>w.heap.size<=b) w' u1 2 16 (pwC x.S))(h2:Rep (fun b=>w.heap.size<=b) w' u2 1 8 (inC x.D))(o:B<=w.heap.size)(r:g<w.heap.size)(f:Alt g w w')(j:¬ P g):z7V P B g w' q (z.set k (u1,u2)) (k+1):=by
 have d:=h.keep (w':=w') fun b l hb=>f.block b l fun e=>by
  rcases hb with hb | hb
  ·exact j (e ▸ hb)
  ·exact hb.2 e
 refine⟨by rw[List.length_set];exact h.len,fun i y p m a hp=>?_,fun i y p m a hp=>?_⟩
 ·by_cases e:i=k
  ·subst e;rw[c]at a;cases a;have n:i<z.length:=by have:=(List.getElem?_eq_some_iff.1 c).1;have:=h.len;omega
   rw[List.getElem?_set_self n]at hp;cases hp;exact⟨h1.mono fun b _ hb=>⟨by omega,by omega⟩,h2.mono fun b _ hb=>⟨by omega,by omega⟩⟩
  ·rw[List.getElem?_set_ne (by omega)]at hp
   exact d.new i y p (by omega) a hp
 ·rw[List.getElem?_set_ne (by omega)]at hp
  exact d.old i y p (by omega) a hp
end Wd
namespace Wd
open Go.RowKit Pv Kc
theorem q7e{P:Nat->Prop}{w:World}:∀ (q:List Pkt) (z:List (Value×Value)),(∀ (i:Nat) (x:Pkt) (y:Value×Value),q[i]?=some x->z[i]?=some y->Rep P w y.1 2 16 (pwC x.S)/\Rep P w y.2 1 8 (inC x.D))->∀ u∈pdL q z,u.oneCell'=true
 | [],_,_,u,hu=>by cases hu
 | _ :: _,[],_,u,hu=>by cases hu
 | x :: q,y :: z,h,u,hu=>by
  rcases List.mem_append.1 hu with h1 | h1
  ·obtain⟨a,b⟩:=h 0 x y rfl rfl;have g:=z3e a;have j:=z3e b;simp only[pkL,List.mem_cons,List.not_mem_nil,or_false]at h1
   rcases h1 with rfl | rfl | rfl | rfl | rfl | rfl <;> first | rfl | assumption
  ·exact q7e q z (fun i c d e f=>h (i+1) c d (by simpa using e) (by simpa using f)) u h1
theorem j0G{P:Nat->Prop}{w:World}{v:Value}{sz a b:Nat}{cs:List Value}(h:Rep P w v sz a cs)(c:b<=a):Rep P w v sz b cs:=by
 obtain⟨A,n,C,h1,h2,h3,d⟩:=h;exact⟨A,n,C,h1,h2,Nat.le_trans (Nat.mul_le_mul_left _ c) h3,d⟩
structure PdR(w:World)(c:Cs)(v:CsV)(P:Nat->Prop)(A:Option Addr)(C:Nat)(k:Nat)(wl:World):Prop where
 half:∃ v' z,v'={ v with set:=v'.set,pd:=J1 A c.pd.length C }/\(∃ X n D,v'.set=J1 X n D)/\CAt 75 wl w.heap.size (csC c v')/\wl.ownsRow (w.heap.size+2) 68 6 (J1 A c.pd.length C) c.pd.length (pdL c.pd z)/\(∀ g,A=some ⟨g,0,none⟩->z7V (fun b=>P b/\b<w.heap.size) (w.heap.size+2) g wl c.pd z k/\Rep (fun b=>w.heap.size+2<=b/\b≠g) wl v'.set 2 16 (pwC c.set))/\Rep (fun b=>w.heap.size+2<=b) wl v'.set 2 16 (pwC c.set)
 res:CAt 75 wl (w.heap.size+1) Z22
 bel:Bl w wl
structure z7X(w:World)(c:Cs)(v:CsV)(wl:World):Prop where
 cat:CAt 75 wl w.heap.size (csC c v)
 res:CAt 75 wl (w.heap.size+1) Z22
 bel:Bl w wl
theorem z7X.over{w wl w':World}{c:Cs}{v:CsV}(h:z7X w c v wl)(hb:Bl wl w'):z7X w c v w':=⟨h.cat.over hb,h.res.over hb,zbt h.bel hb⟩
theorem z7X.set{w wl:World}{c:Cs}{v v':CsV}(h:z7X w c v wl)(o:Nat)(x:Value)(e:(csC c v).setIfInBounds o x=csC c v'):z7X w c v' (wl.setCell ⟨w.heap.size,o,none⟩ x):=by
 have k:=h.cat.set o x;rw[e]at k;exact⟨k,h.res.other (by omega) x,h.bel.setCell (p:=⟨w.heap.size,o,none⟩) (Nat.le_refl _) x⟩
attribute [local go_sem ↓] z1r z1j z1Z z1y
theorem q4J(c:Cs)(v:CsV)(P:Nat->Prop)(w:World)(hp:CIn P w c v)(c9:c.pd.length * 80<=140737488351232)(d0:c.rp.length * 16<=140737488351232) :
  Calls prog 27 #[J4 (csC c v)] w fun e w'=>∃ v',e=.returned (J4 (csC c v'))/\CIn (fun b=>w.heap.size+2<=b) w' c v'/\Bl w w':=by
 have hp':CIn (fun b=>P b/\b<w.heap.size) w c v:=hp.mono fun b hl hb=>⟨hb,hl⟩;obtain⟨z,hz,V,E⟩:=id hp'.pd;obtain⟨A1,C1,e1,-,-⟩:=row_of hp'.set (z0c c.set) (by decide)
 obtain⟨A2,C2,e2,-,-⟩:=row_of V (z0W c.pd z hz) (by decide)
 obtain⟨A3,C3,e3,-,-⟩:=row_of hp'.rp (z0c c.rp) (by decide)
 have HS:=J6 (fun (n:World) (hb:Bl w n)=>z4r A1 c.set.length C1 (pwC c.set) n (by obtain⟨B,D,e,R,-⟩:=row_of (hp'.set.over hb) (z0c c.set) (by decide);rw[e1]at e;cases e;exact R) (z2X _) (by obtain⟨_,_,_,_,h⟩:=row_of hp'.set (z0c c.set) (by decide);exact h))
 have HK:=J6 (fun (n:World) (hb:Bl w n)=>z8x A2 c.pd.length C2 (pdL c.pd z) n (by obtain⟨B,D,e,R,-⟩:=row_of (V.over hb) (z0W c.pd z hz) (by decide);rw[e2]at e;cases e;exact R) (q7e c.pd z E) c9)
 have HR:=J6 (fun (n:World) (hb:Bl w n)=>q5y A3 c.rp.length C3 (pwC c.rp) n (by obtain⟨B,D,e,R,-⟩:=row_of (hp'.rp.over hb) (z0c c.rp) (by decide);rw[e3]at e;cases e;exact R) (z2X _) d0)
 have HL:=J6 (fun (n:World) (hb:Bl w n)=>z8V c.out v.said v.due _ n (hp'.said.over hb) (hp'.due.over hb));have b5:Hid (∀ g n,w.heap.size<=g->Bl w n->z7V (fun b=>P b/\b<w.heap.size) (w.heap.size+2) g n c.pd z 0):=fun g n W hb=>⟨hz,fun i x y hi=>by omega,fun i x y _ j u=>⟨(E i x y j u).1.over hb,(E i x y j u).2.over hb⟩⟩
 have K0:z7X w c v ((w.alloc (J5 (csC c v) 75)).alloc (J5 Z22 75)):=⟨(CAt.new _ w _).alloc _,CAt.new2 _ w _ _,(znw w _).alloc (by simp) _⟩
 clear hp hp' V E
 go_enter func27,ntmps27
 go_upto_region 1 with fail
 change Code.wp prog _ _ _ ((w.alloc (J5 (csC c v) 75)).alloc (J5 Z22 75));generalize (w.alloc (J5 (csC c v) 75)).alloc (J5 Z22 75)=w0 at *;have a5:w0.cell? ⟨w.heap.size,5,none⟩=some (J1 A1 c.set.length C1):=by rw[<- e1];exact K0.cat.cell 5
 have Y:=J6 K0;have d9:w.heap.size+2<=w0.heap.size:=K0.res.lt;clear K0
 go_upto_region 2 with (go_at_call 39;refine (HS.out _ Y.out.bel).mono ?_;rintro e w1⟨B1,D1,rfl,U1,Z⟩;have K1:=Y.out.over Z;have f1:=K1.cat.free 5;have y1:w1.cell? ⟨w.heap.size,5,none⟩=some v.set:=K1.cat.cell 5;have e6:=K1.cat.lt;have a0:=J6 (show _/\_ from⟨U1,Z.size⟩);clear a5 U1 Z)
 have K2:=K1.set 5 (J1 B1 c.set.length D1) (v':={ v with set:=J1 B1 c.set.length D1 }) rfl
 have U2:=((Alt.refl w.heap.size w1).set 5 (J1 B1 c.set.length D1)).rep (P:=fun b=>w0.heap.size<=b) (fun h=>by omega) a0.out.1
 have e7:=a0.out.2;clear y1 f1 K1 a0 Y;generalize w1.setCell ⟨w.heap.size,5,none⟩ (J1 B1 c.set.length D1)=w2 at *;have HE:=J6 (show _/\_/\_ from⟨e1,e2,e3⟩);have a6:w2.cell? ⟨w.heap.size,6,none⟩=some (J1 A2 c.pd.length C2):=by rw[<- e2];exact K2.cat.cell 6
 have F:=J6 (show _/\_ from⟨K2,U2⟩);have e8:w.heap.size+2<=w2.heap.size:=K2.res.lt;clear K2 U2 e1 e2 e3
 go_upto_region 3 with (go_at_call 44;refine (HK.out _ F.out.1.bel).mono ?_;rintro e w3⟨d,a,rfl,U3,a3⟩;have K3:=F.out.1.over a3;have f3:=K3.cat.free 6;have y3:w3.cell? ⟨w.heap.size,6,none⟩=some v.pd:=K3.cat.cell 6;have e9:=K3.cat.lt;have p:=J6 (show _/\_ from⟨U3,a3⟩);clear a6 U3 a3)
 have K4:=K3.set 6 (J1 d c.pd.length a) (v':={ v with set:=J1 B1 c.set.length D1,pd:=J1 d c.pd.length a }) rfl
 have A4:Alt w.heap.size w3 (w3.setCell ⟨w.heap.size,6,none⟩ (J1 d c.pd.length a)):=(Alt.refl _ _).set 6 _;have V4:=A4.rep (P:=fun b=>w0.heap.size<=b/\b<w2.heap.size) (fun h=>by omega) ((F.out.2.mono (P':=fun b=>w0.heap.size<=b/\b<w2.heap.size) fun b hl hb=>⟨hb,hl⟩).over p.out.2)
 have C:(w3.setCell ⟨w.heap.size,6,none⟩ (J1 d c.pd.length a)).ownsRow (w.heap.size+2) 68 6 (J1 d c.pd.length a) c.pd.length (pdL c.pd z):=z2N (z1c p.out.1 fun k hk=>A4.block k (World.ownsRow.lt p.out.1 k hk).2 (by have:=(World.ownsRow.lt p.out.1 k hk).1;omega)) (by omega)
 have a4:∀ g,d=some ⟨g,0,none⟩->w2.heap.size<=g:=fun g W=>(World.ownsRow.lt p.out.1 g (by rw[W];rfl)).1
 have b6:Hid (PdR w c v P d a 0 (w3.setCell ⟨w.heap.size,6,none⟩ (J1 d c.pd.length a))):=⟨⟨_,z,rfl,⟨_,_,_,rfl⟩,K4.cat,C,fun g W=>⟨b5.out g _ (by have:=a4 g W;omega) K4.bel,V4.mono fun b _ hb=>⟨by omega,by have:=a4 g W;omega⟩⟩,V4.mono fun b _ hb=>by omega⟩,K4.res,K4.bel⟩
 have a6:(w3.setCell ⟨w.heap.size,6,none⟩ (J1 d c.pd.length a)).cell? ⟨w.heap.size,6,none⟩=some (J1 d c.pd.length a):=K4.cat.cell 6;have f4:=K4.cat.lt;clear y3 f3 K3 K4 A4 V4 C a4 p F b5 HS HK;generalize w3.setCell ⟨w.heap.size,6,none⟩ (J1 d c.pd.length a)=w4 at *
 go_upto_region 4 with fail
 go_loopw [15] (fun i wl=>∃ (k:Nat),k<=c.pd.length/\i=.int .i64 (k:Int)/\Hid (PdR w c v P d a k wl)) (fun i _=>c.pd.length - (intOf i).toNat)
 case atStart=>exact⟨0,Nat.zero_le _,rfl,b6⟩
 case round =>
  obtain⟨k,hk,rfl,f⟩:=hrel;clear b6 a6;obtain⟨v',Q,G,b7,H,C,K,hV⟩:=f.out.half
  by_cases T:k<c.pd.length
  ·obtain⟨U,a7,rfl,d1,Cq,d2,d3,c4,L⟩:=z4e C (by omega)
   obtain⟨M,a8⟩:=K U rfl;have j:c.pd[k]?=some c.pd[k]:=List.getElem?_eq_getElem T;have d4:k<Q.length:=by have:=M.len;omega
   have u:Q[k]?=some Q[k]:=List.getElem?_eq_getElem d4;generalize c.pd[k]=xk at j;generalize Q[k]=yk at u;have e4:=z3n L ((z4m c.pd Q k xk yk 4 j u (by omega)).trans rfl)
   have e5:=z3n L ((z4m c.pd Q k xk yk 5 j u (by omega)).trans rfl)
   obtain⟨o1,o2⟩:=M.old k xk yk (Nat.le_refl _) j u;have d5:=Cq.lt;have d6:=J6 (z6Y U (k * 6) 68 a7 xk.S xk.D yk.1 yk.2 _ wr Cq e4 e5 o1 o2 (fun h=>by omega))
   have x6:wr.cell? ⟨w.heap.size,6,none⟩=some (J1 (some ⟨U,0,none⟩) c.pd.length a):=by rw[G]at H;exact H.cell 6
   have d7:=H.lt;have f6:(k:Int)<(c.pd.length:Int):=by omega
   have HN:Hid (∀ u1 u2 w5,CAt 68 w5 U ((a7.setIfInBounds (k * 6+4) u1).setIfInBounds (k * 6+5) u2)->Rep (fun b=>wr.heap.size<=b) w5 u1 2 16 (pwC xk.S)->Rep (fun b=>wr.heap.size<=b) w5 u2 1 8 (inC xk.D)->Alt U wr w5->PdR w c v P (some ⟨U,0,none⟩) a (k+1) w5):=fun u1 u2 w5 hc h1 h2 ha=>by
    have d8:w.heap.size+2<=wr.heap.size:=f.out.res.lt;have O5:=z6M (base:=w.heap.size+2) C.1 d1 d2 d3 c4 L (k * 6+4) (k * 6+5) u1 u2 hc;rw[z9K c.pd Q k u1 u2 M.len T]at O5;refine⟨⟨v',_,G,b7,ha.cat (by omega) H,O5,fun g W=>?_,?_⟩,ha.cat (by omega) f.out.res,f.out.bel.trans (ha.below (by omega) f.out.bel.size)⟩
    ·cases W;exact⟨M.step j h1 h2 d8 d5 ha (fun h=>by omega),ha.rep (fun h=>h.2 rfl) a8⟩
    ·exact (ha.rep (fun h=>h.2 rfl) a8).mono fun b _ hb=>hb.1
   clear C K hV H Cq M a8 j u e4 e5 o1 o2 L c4
   go_wp2_with (go_at_call 43;refine d6.out.mono ?_;rintro e w5⟨u1,u2,rfl,c5,c6,c7,c8⟩;have HM:=J6 (HN.out u1 u2 w5 c5 c6 c7 c8);clear c5 c6 c7 c8)
   exact⟨⟨k+1,by omega,by go_num,HM⟩,by simp[intOf];omega⟩
  ·obtain rfl:k=c.pd.length:=by omega
   have KR:z6S (fun b=>w.heap.size+2<=b) wr (J1 d c.pd.length a) c.pd:=by
    by_cases h0:0<c.pd.length
    ·obtain⟨U,a7,rfl,-⟩:=z4e C h0;obtain⟨M,-⟩:=K U rfl;exact⟨Q,M.len,Rep.own C (by omega),fun i x y j u=>⟨(M.new i x y (List.getElem?_eq_some_iff.1 j).1 j u).1.mono fun b _ hb=>hb.1,(M.new i x y (List.getElem?_eq_some_iff.1 j).1 j u).2.mono fun b _ hb=>hb.1⟩⟩
    ·have e0:c.pd=[]:=List.length_eq_zero_iff.1 (by omega)
     have R:=Rep.own (bts:=40) C (by omega)
     rw[e0]at R ⊢;exact⟨[],rfl,R,fun i x y j=>by cases j⟩
   obtain⟨sv,pv,rv,sd,du⟩:=v';simp only[CsV.mk.injEq,true_and]at G;obtain⟨rfl,rfl,rfl,rfl⟩:=G;obtain⟨X,q,r,rfl⟩:=b7;have x6:wr.cell? ⟨w.heap.size,6,none⟩=some (J1 d c.pd.length a):=H.cell 6;have x7:wr.cell? ⟨w.heap.size,7,none⟩=some (J1 A3 c.rp.length C3):=by rw[<- HE.out.2.2];exact H.cell 7
   have KX:z7X w c ⟨J1 X q r,J1 d c.pd.length a,v.rp,v.said,v.due⟩ wr:=⟨H,f.out.res,f.out.bel⟩;have d7:w.heap.size+2<=wr.heap.size:=f.out.res.lt;have t:=J6 (show _/\_/\_ from⟨KX,KR,hV⟩);clear KX KR hV H C K f
   go_upto_region 9 with (go_at_call 45;refine (HR.out _ t.out.1.bel).mono ?_;rintro e w5⟨l,m,rfl,U5,a9⟩;have K5:=t.out.1.over a9;have f5:=K5.cat.free 7;have y5:w5.cell? ⟨w.heap.size,7,none⟩=some v.rp:=K5.cat.cell 7;have f7:=K5.cat.lt;have N:=J6 (show _/\_ from⟨U5,a9⟩);clear x6 x7 U5 a9)
   have K6:=K5.set 7 (J1 l c.rp.length m) (v':=⟨J1 X q r,J1 d c.pd.length a,J1 l c.rp.length m,v.said,v.due⟩) rfl;have A6:Alt w.heap.size w5 (w5.setCell ⟨w.heap.size,7,none⟩ (J1 l c.rp.length m)):=(Alt.refl _ _).set 7 _;have U6:=(j0G (A6.rep (P:=fun b=>wr.heap.size<=b) (fun h=>by omega) N.out.1) (b:=8) (by omega)).mono (P':=fun b=>w.heap.size+2<=b) fun b _ hb=>by omega
   have V6:=A6.rep (P:=fun b=>w.heap.size+2<=b) (fun h=>by omega) (t.out.2.2.over N.out.2)
   have R6:=(t.out.2.1.over N.out.2).keep (w':=w5.setCell ⟨w.heap.size,7,none⟩ (J1 l c.rp.length m)) fun b hb hl=>A6.block b hl (by omega)
   clear y5 f5 K5 A6 N t;generalize w5.setCell ⟨w.heap.size,7,none⟩ (J1 l c.rp.length m)=w6 at *;have l6:=z5n ((z4Q c ⟨J1 X q r,J1 d c.pd.length a,J1 l c.rp.length m,v.said,v.due⟩ c.out v.said v.due).part K6.cat) rfl;change (z2i (J2 (some ⟨w.heap.size,14,none⟩))).run prog w6=.ok (J4 #[v.said,v.due,.int .i64 c.out.g,J3 c.out.cl]) w6 at l6;have f8:w.heap.size+2<=w6.heap.size:=K6.res.lt;have t:=J6 (show _/\_/\_/\_ from⟨K6,V6,R6,U6⟩);clear K6 V6 R6 U6 HR
   go_upto_region 10 with (go_at_call 41;refine (HL.out _ t.out.1.bel).mono ?_;rintro e w7⟨u1,u2,rfl,U7,V7,b4⟩;have K7:=t.out.1.over b4;have s7:=z8b (w:=w7) (g:=w.heap.size) (o:=14) (cs:=[u1,u2,.int .i64 c.out.g,J3 c.out.cl]) ((z4Q c ⟨J1 X q r,J1 d c.pd.length a,J1 l c.rp.length m,v.said,v.due⟩ c.out u1 u2).there K7.cat) rfl (by have a1:=U7.one;have a2:=V7.one;simp only[List.all_cons,List.all_nil,a1,a2];rfl);change (z2K (J2 (some ⟨w.heap.size,14,none⟩)) (J4 #[u1,u2,.int .i64 c.out.g,J3 c.out.cl])).run prog w7=_ at s7;have s:=J6 (show _/\_/\_ from⟨U7,V7,b4⟩);have A:=J6 K7;clear l6 U7 V7 b4 K7)
   have f9:=A.out.res.lt;have C8:=(z4Q c ⟨J1 X q r,J1 d c.pd.length a,J1 l c.rp.length m,v.said,v.due⟩ c.out u1 u2).sets A.out.cat;change CAt 75 (w7.setCells w.heap.size 14 [u1,u2,.int .i64 c.out.g,J3 c.out.cl]) w.heap.size (csC c ⟨J1 X q r,J1 d c.pd.length a,J1 l c.rp.length m,u1,u2⟩) at C8;have A8:Alt w.heap.size w7 (w7.setCells w.heap.size 14 [u1,u2,.int .i64 c.out.g,J3 c.out.cl]):=Alt.sets _ (Alt.refl _ _) 14;have R8:=A8.cat (by omega) A.out.res
   have b8:=z0a (b:=w.heap.size) (Nat.le_refl _) [u1,u2,.int .i64 c.out.g,J3 c.out.cl] 14 _ A.out.bel
   have I8:CIn (fun b=>w.heap.size+2<=b) (w7.setCells w.heap.size 14 [u1,u2,.int .i64 c.out.g,J3 c.out.cl]) c ⟨J1 X q r,J1 d c.pd.length a,J1 l c.rp.length m,u1,u2⟩:=
    CIn.sets ⟨t.out.2.1.over s.out.2.2,t.out.2.2.1.over s.out.2.2,t.out.2.2.2.over s.out.2.2,s.out.1.mono fun b _ hb=>by omega,s.out.2.1.mono fun b _ hb=>by omega⟩ (by omega) _ _
   clear A8 t s A s7;generalize w7.setCells w.heap.size 14 [u1,u2,.int .i64 c.out.g,J3 c.out.cl]=w8 at *;have l8:=z2p C8 (z0i _ _);have s8:=z1C R8 z0p (z0i c ⟨J1 X q r,J1 d c.pd.length a,J1 l c.rp.length m,u1,u2⟩) (z1E I8);have R9:=R8.z0t (ds:=csC c ⟨J1 X q r,J1 d c.pd.length a,J1 l c.rp.length m,u1,u2⟩) (by rw[z0p];rfl)
   have b9:=z0a (b:=w.heap.size+1) (Nat.le_succ _) (csC c ⟨J1 X q r,J1 d c.pd.length a,J1 l c.rp.length m,u1,u2⟩).toList 0 _ b8;have I9:=I8.sets (g:=w.heap.size+1) (by omega) 0 (csC c ⟨J1 X q r,J1 d c.pd.length a,J1 l c.rp.length m,u1,u2⟩).toList
   have HZ:=J6 (show _/\_/\_ from⟨R9,b9,I9⟩);clear C8 R8 b8 I8 R9 b9 I9;generalize w8.setCells (w.heap.size+1) 0 (csC c ⟨J1 X q r,J1 d c.pd.length a,J1 l c.rp.length m,u1,u2⟩).toList=w9 at *;go_wp2;exact bodyPost_ret (v:=J4 (csC c ⟨J1 X q r,J1 d c.pd.length a,J1 l c.rp.length m,u1,u2⟩)) (z2Y results27 _ _ _ _ rfl HZ.out.1 rfl) rfl ⟨_,rfl,HZ.out.2.2,HZ.out.2.1⟩
end Wd
namespace Wd
open Go.RowKit Pv Kc
theorem q9w(L:Nat->Lk)(k:Nat):z1a L k (L k)=L:=by
 funext i
 unfold z1a
 by_cases h:i=k
 ·rw[if_pos h,h]
 ·rw[if_neg h]
theorem z9L{p:Pr}{v:PrV}(k:Nat)(a:k<2)(j:Nat)(y:Value)(u:LkV)(b:j<14)(h:lkL (p.L k) u=(lkL (p.L k) (v.l k)).set j y):(prC p v).setIfInBounds (66+k * 14+j) y=prC p (v.upd k u):=by
 have:=q3y (p:=p) (v:=v) k a j y (p.L k) u b h
 rwa [q9w]at this
theorem j6K(p:Pr)(v:PrV){k:Nat}(a:k<2)(u:LkV):At (prC p v) (66+k * 14) (lkL (p.L k) (v.l k)) (lkL (p.L k) u) (prC p (v.upd k u)):=by
 have:=q8I p v a (p.L k) u
 rwa [q9w]at this
theorem z4y(p:Pr)(v:PrV){k:Nat}(a:k<2)(u1 u2:Value):At (prC p v) (66+k * 14+6) (lnL (p.L k).out (v.l k).said (v.l k).due) (lnL (p.L k).out u1 u2) (prC p (v.upd k { v.l k with said:=u1,due:=u2 })):=
 (j6K p v a { v.l k with said:=u1,due:=u2 }).nest (by simpa using q6G (p.L k) (v.l k) (p.L k).out u1 u2)
structure z4G(w:World)(p:Pr)(v:PrV)(wl:World):Prop where
 cat:CAt 58 wl w.heap.size (prC p v)
 res:CAt 58 wl (w.heap.size+1) zeroCells58
 bel:Bl w wl
theorem z4G.over{w wl w':World}{p:Pr}{v:PrV}(h:z4G w p v wl)(hb:Bl wl w'):z4G w p v w':=⟨h.cat.over hb,h.res.over hb,zbt h.bel hb⟩
theorem z4G.set{w wl:World}{p:Pr}{v v':PrV}(h:z4G w p v wl)(o:Nat)(x:Value)(e:(prC p v).setIfInBounds o x=prC p v'):z4G w p v' (wl.setCell ⟨w.heap.size,o,none⟩ x):=by
 have k:=h.cat.set o x;rw[e]at k;exact⟨k,h.res.other (by omega) x,h.bel.setCell (p:=⟨w.heap.size,o,none⟩) (Nat.le_refl _) x⟩
theorem z8g(v:PrV)(k:Nat)(u:LkV):(v.upd k u).l k=u:=if_pos rfl
theorem z9E(v:PrV)(k:Nat)(u a:LkV):(v.upd k u).upd k a=v.upd k a:=by
 unfold PrV.upd
 congr 1
 funext i
 by_cases h:i=k
 ·simp[h]
 ·simp[h]
theorem q7E{P:Nat->Prop}{w:World}:∀ (q:List (Int×Pkt)) (z:List (Value×Value)),(∀ (i:Nat) (x:Int×Pkt) (y:Value×Value),q[i]?=some x->z[i]?=some y->Rep P w y.1 2 16 (pwC x.2.S)/\Rep P w y.2 1 8 (inC x.2.D))->∀ u∈quL q z,u.oneCell'=true
 | [],_,_,u,hu=>by cases hu
 | _ :: _,[],_,u,hu=>by cases hu
 | x :: q,y :: z,h,u,hu=>by
  rcases List.mem_append.1 hu with h1 | h1
  ·obtain⟨a,b⟩:=h 0 x y rfl rfl;have g:=z3e a;have j:=z3e b;simp only[akL,List.mem_cons,List.not_mem_nil,or_false]at h1
   rcases h1 with rfl | rfl | rfl | rfl | rfl | rfl | rfl <;> first | rfl | assumption
  ·exact q7E q z (fun i c d e f=>h (i+1) c d (by simpa using e) (by simpa using f)) u h1
attribute [local go_sem ↓] z0H z0w z1Z z1y
end Wd
namespace Wd
open Go.RowKit Pv Kc
attribute [local go_sem ↓] z0H z0w z1r z1j
theorem q8R{x:Wo}(h:Inv x):x.p.q.length * 88<=140737488351232:=by
 have h1:=h.ql;have h2:=h.n1;omega
theorem j0K{x:Wo}(h:Inv x){i:Nat}(a:i<2):(x.c i).pd.length * 80<=140737488351232/\(x.c i).rp.length * 16<=140737488351232:=by
 have h1:=h.cl i a;have h2:=h.n1;omega
theorem q7w(g:Nat)(x:Wo)(v:WoV)(P:Nat->Prop)(w:World)(i:Nat)(h:i<2)(k:CAt 97 w g (wdC x v))(p:WIn P w x v)(q:Inv x) :
  Calls prog 13 #[J2 (some ⟨g,0,none⟩),J I (i:Int)] w fun e w'=>∃ v',e=.returned (J4 (csC (x.c i) v'))/\CIn (fun b=>w.heap.size+1<=b) w' (x.c i) v'/\Bl w w':=by
 have f:CIn (fun b=>P b/\b<w.heap.size) w (x.c i) (v.c i):=(p.c i h).mono fun b t hp=>⟨hp,t⟩;have u:=J6 (fun (a:World) (hb:Bl w a)=>q4J (x.c i) (v.c i) _ a (f.over hb) (j0K q h).1 (j0K q h).2);have y:=J6 (fun (a:World) (hb:Bl w a)=>(show (z5b (J2 (some ⟨g,99+i * 22,none⟩))).run prog a=.ok (J4 (csC (x.c i) (v.c i))) a from j2k ((z9W x v h (x.c i) (v.c i)).part (k.over hb)) (z0i _ _)));have R0:CAt 75 (w.alloc (J5 Z22 75)) w.heap.size Z22:=CAt.new _ w _;have B0:Bl w (w.alloc (J5 Z22 75)):=znw w _;have z:=k.lt;have i1:(i:Int)<2:=by omega
 have l:isC (i:Int)=true:=by unfold isC;simp;omega
 have m:Hid (∀ a,Calls prog 26 #[J I (i:Int)] a fun e w'=>e=.returned (J3 true)/\a=w'):=fun a=>by rw[<- l];exact z2v i a
 clear k p f
 go_enter func13,ntmps13
 go_upto_region 1 with fail
 change Code.wp prog _ _ _ (w.alloc (J5 Z22 75));generalize w.alloc (J5 Z22 75)=w0 at *;have A:=R0.lt;have B:=y.out w0 B0;have d:=J6 (show _/\_ from⟨R0,B0⟩);clear R0 B0
 go_wp2_with (first
  | (go_at_call 26;refine (m.out _).mono ?_;rintro e w'⟨rfl,rfl⟩)
  | (go_at_call 27;refine (u.out _ d.out.2).mono ?_;rintro e w1⟨v',rfl,n,b1⟩;have j:=d.out.1.over b1;have C:=j.lt;have D:=z1C j z0p (z0i (x.c i) v') (z1E n);have r:=j.z0t (ds:=csC (x.c i) v') (by rw[z0p];rfl);have b2:=z0a (b:=w.heap.size) (Nat.le_refl _) (csC (x.c i) v').toList 0 _ (zbt d.out.2 b1);have s:=(n.sets (g:=w.heap.size) (by omega) 0 (csC (x.c i) v').toList).mono (P':=fun b=>w.heap.size+1<=b) (fun b _ hb=>by omega);have o:=J6 (show _/\_/\_ from⟨r,b2,s⟩);clear j r b1 b2 n s B;generalize w1.setCells w.heap.size 0 (csC (x.c i) v').toList=w2 at *))
 exact bodyPost_ret (v:=J4 (csC (x.c i) v')) (z2Y results13 _ _ _ _ rfl o.out.1 rfl) rfl ⟨_,rfl,o.out.2.2,o.out.2.1⟩
end Wd
namespace Wd
open Go.RowKit Pv Kc
def j8q(l:List Dd):Wo:=l.foldl (fun x d=>(doW x d).1) z8k
def stW(l:List Dd)(k:Nat):Wo:=j8q (l.take k)
theorem q2B{l:List Dd}{k:Nat}{d:Dd}(h:l[k]?=some d):stW l (k+1)=(doW (stW l k) d).1:=by
 unfold stW j8q;rw[List.take_add_one,h,List.foldl_append];rfl
def dA:Dd:=⟨1,0,0,0,700,false,false⟩
def dB:Dd:=⟨5,0,0,0,5,false,false⟩
def dC:Dd:=⟨6,0,0,0,0,false,false⟩
def dD:Dd:=⟨4,0,0,0,0,false,false⟩
theorem j4r:(doW z8k dA).2.1=0:=by decide +kernel
theorem j2Y:(doW (doW z8k dA).1 dB).2.2=5:=by decide +kernel
theorem j4T:(doW (doW (doW z8k dA).1 dB).1 dC).2.1=0:=by decide +kernel
theorem j5f:(doW (doW (doW (doW z8k dA).1 dB).1 dC).1 dD).2.2=1:=by decide +kernel
theorem j4z:(doW (doW (doW (doW z8k dA).1 dB).1 dC).1 dD).1.ck=5:=by decide +kernel
theorem j3x:((doW (doW (doW (doW z8k dA).1 dB).1 dC).1 dD).1.c 0).set.length=1:=by decide +kernel
end Wd
namespace Wd
open Go.RowKit Pv Kc
def Uz(e:TypeId)(w:World)(b:Nat):Prop:=∃ cs,w.heap[b]?=some (J5 cs e (0,0))
section
variable {e:TypeId} {P P':Nat->Prop} {w w':World} {v:Value} {sz bts:Nat} {cs:List Value}
end
def Wr(e:TypeId)(P:Nat->Prop)(w:World)(v:Value)(n sz:Nat):Prop:=n<=140737488351232/\∃ A C,v=J1 A n C/\(0<n->∃ b off,A=some ⟨b,off,none⟩/\P b/\Uz e w b/\∀ j,j<n * sz->∃ u,w.cell? ⟨b,off+j,none⟩=some u)
section
variable {e:TypeId} {P P':Nat->Prop} {w w':World} {v:Value} {n sz bts:Nat} {cs:List Value}
end
end Wd
end Go.Proofs.YtddlhnoedldidaaGreat
