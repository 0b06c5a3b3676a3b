/- Parts of the proof. -/
import Derived.Test.YtddlhnoedldidaaGreatML
import Derived.Test.YtddlhnoedldidaaGreatMK18
set_option maxRecDepth 100000
set_option maxHeartbeats 16000000
namespace Go.Proofs.YtddlhnoedldidaaGreat
open Go.Proofs.Tryz
open Value renaming int->J,slice->J1,pointer->J2,bool->J3,agg->J4
open IntKind renaming i64->I
open Obj renaming cells->J5
namespace Pv
open Go.RowKit
theorem z5q(p:Pr)(v:PrV)(k:Nat)(b:k<2):∃ a c:List Value,a.length=66+k * 14/\prC p v=(a ++ (lkL (p.L k) (v.l k) ++ c)).toArray/\∀ x u,prC { p with L:=z1a p.L k x } (v.upd k u)=(a ++ (lkL x u ++ c)).toArray:=by
 have h0:([J I p.h,J I p.t] ++ ((stC p.s v.ws).toList ++ [v.set]):List Value).length=66:=by simp[z0f]
 match k,b with
 | 0,_ =>
  refine⟨[J I p.h,J I p.t] ++ ((stC p.s v.ws).toList ++ [v.set]),lkL (p.L 1) (v.l 1) ++ [J I p.ml,J I p.mn,v.q],h0,?_,fun x u=>?_⟩
  ·simp[prC]
  ·simp[prC,PrV.upd,z1a]
 | 1,_ =>
  refine⟨[J I p.h,J I p.t] ++ ((stC p.s v.ws).toList ++ [v.set]) ++ lkL (p.L 0) (v.l 0),[J I p.ml,J I p.mn,v.q],?_,?_,fun x u=>?_⟩
  ·rw[List.length_append,h0];rfl
  ·simp[prC]
  ·simp[prC,PrV.upd,z1a]
theorem upd_same(v:PrV)(k:Nat):v.upd k (v.l k)=v:=by
 unfold PrV.upd;have:(fun i=>if i=k then v.l k else v.l i)=v.l:=by funext i;by_cases h:i=k <;> simp[h]
 rw[this]
theorem q3y{p:Pr}{v:PrV}(k:Nat)(b:k<2)(j:Nat)(y:Value)(x:Lk)(u:LkV)(d:j<14)(h:lkL x u=(lkL (p.L k) (v.l k)).set j y):(prC p v).setIfInBounds (66+k * 14+j) y=prC { p with L:=z1a p.L k x } (v.upd k u):=by
 obtain⟨a,c,e,h1,h2⟩:=z5q p v k b;rw[h1,h2,set_mid _ _ _ _ _ _ e (by exact d),h]
def frL(L:Nat->Lk)(k:Nat):Nat->Lk:=fun c=>if c<k then z1x L c else L c
theorem j5j{L:Nat->Lk}{k:Nat}(h:(L k).on=false):frL L (k+1)=frL L k:=by
 funext c
 unfold frL z1x
 by_cases h1:c<k
 ·rw[if_pos h1,if_pos (by omega)]
 ·by_cases h2:c=k
  ·subst h2;rw[if_neg h1,if_pos (by omega),if_neg (by simp[h])]
  ·rw[if_neg h1,if_neg (by omega)]
theorem j6O{L:Nat->Lk}{k:Nat}(h:(L k).on=true):z1a (frL L k) k { L k with fresh:=true }=frL L (k+1):=by
 funext c
 show (if c=k then _ else (if c<k then z1x L c else L c))=(if c<k+1 then z1x L c else L c)
 by_cases h2:c=k
 ·subst h2;rw[if_pos rfl,if_pos (by omega)]
  show _=(if (L c).on=true then _ else _)
  rw[if_pos h]
 ·rw[if_neg h2]
  by_cases h1:c<k
  ·rw[if_pos h1,if_pos (by omega)]
  ·rw[if_neg h1,if_neg (by omega)]
theorem j2v{L:Nat->Lk}{k:Nat}:frL L k k=L k:=if_neg (Nat.lt_irrefl k)
theorem j4p(p:Pr)(s:St)(v:PrV):prC { p with s:=s,L:=frL p.L 2 } v=prC { p with s:=s,L:=z1x p.L } v:=rfl
def hk0(p:Pr)(k:Nat):Int:=if 0<k then z2L p 0 else 0
def hk1(p:Pr)(k:Nat):Int:=if 1<k then z2L p 1 else 0
def YC(w:World)(y:Nat)(h d a b:Int):Prop:=CAt 63 w y #[J I 0,J I 0,J I 0,J I 0,J I h,J I d,J I a,J I b]
theorem YC.hold{w:World}{y k:Nat}{a b:Int}{p:Pr}(h:YC w y a b (hk0 p k) (hk1 p k))(d:k<2)(c:(p.L k).on=true):YC (w.setCell ⟨y,6+k,none⟩ (J I (p.h+1))) y a b (hk0 p (k+1)) (hk1 p (k+1)):=by
 have:=CAt.set h (6+k) (J I (p.h+1))
 match k,d with
 | 0,_=>simpa [YC,hk0,hk1,z2L,c] using this
 | 1,_=>simpa [YC,hk0,hk1,z2L,c] using this
theorem YC.skip{w:World}{y k:Nat}{a b:Int}{p:Pr}(h:YC w y a b (hk0 p k) (hk1 p k))(d:k<2)(c:(p.L k).on=false):YC w y a b (hk0 p (k+1)) (hk1 p (k+1)):=by
 match k,d with
 | 0,_=>simpa [YC,hk0,hk1,z2L,c] using h
 | 1,_=>simpa [YC,hk0,hk1,z2L,c] using h
theorem YC.at{w:World}{y k:Nat}{a b c d:Int}(h:YC w y a b c d)(f:k<2):∃ e:Int,w.cell? ⟨y,6+k,none⟩=some (J I e):=by
 match k,f with
 | 0,_=>exact⟨c,CAt.cell h 6⟩
 | 1,_=>exact⟨d,CAt.cell h 7⟩
attribute [local go_sem ↓] z1B z0H z0w z1w
theorem q4y(p:Pr)(v:PrV)(P:Nat->Prop)(w:World)(d x n now:Int)(hp:PIn P w p v) :
  Calls prog 55 #[J4 (prC p v),J I d,J I x,J I n,J I now] w (j2B P w (z2C p d x n now)):=by
 have hD:z2C p d x n now=if z0J p=true/\isT now=true then if (z0S p.s d x n (q0H p now)).2=0 then ({ p with s:=(z0S p.s d x n (q0H p now)).1,L:=z1x p.L },0) else (p,(z0S p.s d x n (q0H p now)).2) else (p,2):=rfl
 generalize z2C p d x n now=D at *;have M:=J6 hD;clear hD;have A:=z0Y hp;have N:=J6 (fun (wx:World) (hb:Bl w wx)=>z3a p v P wx (hp.over hb));have HN:=J6 (fun (wx:World) (hb:Bl w wx)=>hp.z2y hb 2);have HU:=J6 (fun (wx:World) (hb:Bl w wx)=>j0e ((hp.ws.mono (P':=fun b=>P b/\b<w.heap.size) fun _ hl hP=>⟨hP,hl⟩).over hb) d x n (q0H p now));have HP:=J6 hp;clear hp
 have S:Hid (z0J p=true->0<=p.h/\p.h<=1099511627775):=fun h=>by
  unfold z0J at h;simp only[Bool.and_eq_true,decide_eq_true_eq]at h;exact⟨h.1.1.1.1.1.1.2,h.1.1.1.1.1.2⟩
 have T:Hid (isT now=true->0<=now/\now<=1099511627776):=fun h=>by
  unfold isT at h;simp only[Bool.and_eq_true,decide_eq_true_eq]at h;exact h
 generalize z0J p=G at *
 go_enter func55,ntmps55
 go_upto_region 1 with fail
 change Code.wp prog _ _ _ ((w.alloc (J5 (prC p v) 58)).alloc (J5 zeroCells58 58));have C0:CAt 58 ((w.alloc (J5 (prC p v) 58)).alloc (J5 zeroCells58 58)) w.heap.size (prC p v):=(CAt.new _ w _).alloc _;have R0:CAt 58 ((w.alloc (J5 (prC p v) 58)).alloc (J5 zeroCells58 58)) (w.heap.size+1) zeroCells58:=CAt.new2 _ w _ _;have B0:Bl w ((w.alloc (J5 (prC p v) 58)).alloc (J5 zeroCells58 58)):=(znw w _).alloc (by simp) _
 generalize (w.alloc (J5 (prC p v) 58)).alloc (J5 zeroCells58 58)=w0 at *;have l0:=z0j C0 (z0b _ _);have H:=J6 (show _/\_/\_ from⟨C0,R0,B0⟩);clear C0 R0 B0
 by_cases Q:G=true/\isT now=true
 ·obtain⟨rfl,a0⟩:=Q;replace M:=J6 (M.out.trans (if_pos ⟨rfl,a0⟩));obtain⟨a6,b7⟩:=S.out rfl;obtain⟨b8,b9⟩:=T.out a0;have a7:p.h<=1099511627776:=by omega
  clear S T
  go_upto_region 3 with (first
   | (go_at_call 67;refine (N.out _ H.out.2.2).mono ?_;rintro e w1⟨rfl,f⟩;clear l0)
   | (go_at_call 69;refine (z3E _ _).mono ?_;rintro e w'⟨rfl,rfl⟩))
  have C1:=H.out.1.over f;have U:=H.out.2.1.over f;have B1:=zbt H.out.2.2 f;have a1:=J6 (z7H w.heap.size p v w1 C1 a6 a7);have H1:=J6 (show _/\_/\_ from⟨C1,U,B1⟩);have c5:=U.lt;clear C1 U B1 f H N
  go_upto_region 4 with (go_at_call 70;refine a1.out.mono ?_;rintro e w'⟨rfl,rfl⟩)
  have Y2:YC (w1.alloc (J5 #[J I 0,J I 0,J I 0,J I 0,J I (p.h+1),J I (now+20),J I 0,J I 0] 63)) w1.heap.size (p.h+1) (now+20) 0 0:=CAt.new _ w1 _;have b2:Bl w1 (w1.alloc (J5 #[J I 0,J I 0,J I 0,J I 0,J I (p.h+1),J I (now+20),J I 0,J I 0] 63)):=znw w1 _;have C2:=H1.out.1.over b2;have R2:=H1.out.2.1.over b2;have B2:=zbt H1.out.2.2 b2;clear b2 H1 a1;generalize w1.alloc (J5 #[J I 0,J I 0,J I 0,J I 0,J I (p.h+1),J I (now+20),J I 0,J I 0] 63)=w2 at *;generalize w1.heap.size=yb at *;have c7:=CAt.lt Y2;have V:=J6 (show _/\_/\_/\_ from⟨Y2,C2,R2,B2⟩);clear Y2 C2 R2 B2
  go_upto_region 5 with fail
  go_loopw [31] (fun i wl=>∃ (k:Nat),k<=2/\i=J I (k:Int)/\Hid (YC wl yb (p.h+1) (now+20) (hk0 p k) (hk1 p k)/\Alt yb w2 wl)) (fun i _=>(2 - intOf i).toNat)
  case atStart=>exact⟨0,by omega,rfl,V.out.1,Alt.refl _ _⟩
  case round =>
   obtain⟨k,hk,rfl,z⟩:=hrel
   by_cases R:k<2
   ·have a8:(k:Int)<2:=by omega
    have a9:(0:Int)<=(k:Int):=by omega
    have X:wr.cell? ⟨w.heap.size,66+k * 14,none⟩=some (J3 (p.L k).on):=(CAt.lk (z.out.2.cat (by omega) V.out.2.1) R).facts.1
    obtain⟨e6,c6⟩:=z.out.1.at R;have f6:=CAt.free z.out.1 (6+k);have c4:wr.cell? ⟨yb,4,none⟩=some (J I (p.h+1)):=CAt.cell z.out.1 4;have b4:=CAt.lt z.out.1;cases m:(p.L k).on
    ·rw[m]at X;have B:=J6 (show _/\_ from⟨z.out.1.skip R m,z.out.2⟩);clear z;go_wp2
     first | exact⟨⟨k+1,by omega,by go_num,B⟩,by simp[intOf];omega⟩ | ((repeat apply Exists.intro);exact⟨⟨k+1,by omega,by go_num,B⟩,rfl⟩)
    ·rw[m]at X;have B:=J6 (show _/\_ from⟨z.out.1.hold R m,z.out.2.set (6+k) (J I (p.h+1))⟩);clear z
     go_upto_region 9 with fail
     generalize wr.setCell ⟨yb,6+k,none⟩ (J I (p.h+1))=w3 at *;clear X c6 f6 c4;go_wp2
     first | exact⟨⟨k+1,by omega,by go_num,B⟩,by simp[intOf];omega⟩ | ((repeat apply Exists.intro);exact⟨⟨k+1,by omega,by go_num,B⟩,rfl⟩)
   ·obtain rfl:k=2:=by omega
    have K:YC wr yb (p.h+1) (now+20) (z2L p 0) (z2L p 1):=z.out.1;have A4:=z.out.2;have C4:=A4.cat (b:=w.heap.size) (by omega) V.out.2.1
    have R4:=A4.cat (b:=w.heap.size+1) (by omega) V.out.2.2.1
    have B4:=V.out.2.2.2.trans (A4.below (by omega) V.out.2.2.2.size)
    have m4:=z2a C4;have y0:wr.cell? ⟨yb,0,none⟩=some (J I 0):=CAt.cell K 0;have y1:wr.cell? ⟨yb,1,none⟩=some (J I 0):=CAt.cell K 1;have y2:wr.cell? ⟨yb,2,none⟩=some (J I 0):=CAt.cell K 2;have y3:wr.cell? ⟨yb,3,none⟩=some (J I 0):=CAt.cell K 3;have y4:wr.cell? ⟨yb,4,none⟩=some (J I (p.h+1)):=CAt.cell K 4;have y5:wr.cell? ⟨yb,5,none⟩=some (J I (now+20)):=CAt.cell K 5;have y6:wr.cell? ⟨yb,6,none⟩=some (J I (z2L p 0)):=CAt.cell K 6;have y7:wr.cell? ⟨yb,7,none⟩=some (J I (z2L p 1)):=CAt.cell K 7;have c8:=CAt.lt K;have hu:=HU.out wr B4;have C:=J6 hu;have H4:=J6 (show _/\_/\_ from⟨C4,R4,B4⟩);clear K A4 C4 R4 B4 z V hu HU;have a2:Hid (q0H p now=⟨0,0,0,0,p.h+1,now+20,z2L p 0,z2L p 1⟩):=rfl;rw[a2.out]at C M;dsimp only at C;generalize z2L p 0=ho0 at *;generalize z2L p 1=ho1 at *;generalize z0S p.s d x n ⟨0,0,0,0,p.h+1,now+20,ho0,ho1⟩=r at *;obtain⟨a,er⟩:=r;dsimp only at C M;clear a2
    go_upto_region 11 with (go_at_call 71;refine C.out.mono ?_;rintro e w5⟨t,u,y,rfl,U5,Y⟩;clear m4;have a3:=z7A (CAt.new 43 w5 Z63) rfl (z0f a (J1 t u y)) (z0y _ _ _ _);unfold Z63 at a3)
    change Code.wp prog _ _ _ ((w5.alloc (J5 Z63 43)).setCells w5.heap.size 0 (stC a (J1 t u y)).toList);have bS:Bl w5 ((w5.alloc (J5 Z63 43)).setCells w5.heap.size 0 (stC a (J1 t u y)).toList):=z0a (Nat.le_refl _) _ _ _ (znw w5 _);have T6:CAt 43 ((w5.alloc (J5 Z63 43)).setCells w5.heap.size 0 (stC a (J1 t u y)).toList) w5.heap.size (stC a (J1 t u y)):=(CAt.new 43 w5 Z63).z0t rfl;have b6:=zbt Y bS;have C6:=H4.out.1.over b6;have R6:=H4.out.2.1.over b6;have B6:=zbt H4.out.2.2 b6;have U6:er=0->Rep (fun b=>New (fun b=>P b/\b<w.heap.size) wr 0 b/\b<w5.heap.size) _ (J1 t u y) 8 64 (wsL a.W):=fun h=>((U5 h).mono (P':=fun b=>New (fun b=>P b/\b<w.heap.size) wr 0 b/\b<w5.heap.size) fun b hl hb=>⟨hb,hl⟩).over bS;have c9:=Y.size;clear a3 Y bS b6 U5 C H4 y0 y1 y2 y3 y4 y5 y6 y7;generalize (w5.alloc (J5 Z63 43)).setCells w5.heap.size 0 (stC a (J1 t u y)).toList=w6 at *;generalize w5.heap.size=tb at *;have d0:=T6.lt
    by_cases he:er=0
    ·subst he;have z:=J6 (M.out.trans (if_pos rfl));have mS:=z6J T6 (z0f _ _);have sS:=z2D C6 (z0b _ _) (z0f a (J1 t u y)) (z0y _ _ _ _);have C7:=C6.z1g a (J1 t u y);have R7:=R6.others (c:=w.heap.size) (o:=2) (by omega) (stC a (J1 t u y)).toList
     have B7:=z0a (b:=w.heap.size) (Nat.le_refl _) (stC a (J1 t u y)).toList 2 _ B6
     have N7:PIn (New P w 2) (w6.setCells w.heap.size 2 (stC a (J1 t u y)).toList) { p with s:=a,L:=frL p.L 0 } { v with ws:=J1 t u y }:=by
      have h1:=(HN.out _ B6).sets (g:=w.heap.size) (z3F (j:=0) (by omega)) 2 (stC a (J1 t u y)).toList
      have h2:=(U6 rfl).sets (g:=w.heap.size) (fun h=>by
       rcases h.1 with⟨h,_⟩ | h
       ·have:=h.2;omega
       ·omega) 2 (stC a (J1 t u y)).toList
      exact⟨h2.mono fun b _ hb=>by
       rcases hb.1 with⟨h,_⟩ | h
       ·exact .inl h
       ·exact .inr (by omega),h1.set,h1.lk,h1.q⟩
     have a4:CAt 58 (w6.setCells w.heap.size 2 (stC a (J1 t u y)).toList) w.heap.size (prC { p with s:=a,L:=frL p.L 0 } { v with ws:=J1 t u y }):=C7
     have H7:=J6 (show _/\_/\_/\_ from⟨a4,R7,B7,N7⟩);have d1:=R7.lt;clear C6 R6 B6 C7 a4 R7 B7 N7 T6 A U6
     go_upto_region 15 with fail
     clear mS sS;generalize w6.setCells w.heap.size 2 (stC a (J1 t u y)).toList=w7 at *;generalize ({ v with ws:=J1 t u y }:PrV)=v7 at *
     go_loopw [61] (fun i wl=>∃ (k:Nat),k<=2/\i=J I (k:Int)/\Hid (CAt 58 wl w.heap.size (prC { p with s:=a,L:=frL p.L k } v7)/\Alt w.heap.size w7 wl)) (fun i _=>(2 - intOf i).toNat)
     case atStart=>exact⟨0,by omega,rfl,H7.out.1,Alt.refl _ _⟩
     case round =>
      obtain⟨k,hk,rfl,E⟩:=hrel
      by_cases a5:k<2
      ·have a8:(k:Int)<2:=by omega
       have a9:(0:Int)<=(k:Int):=by omega
       have Z:=CAt.lk E.out.1 a5
       have X:wr.cell? ⟨w.heap.size,66+k * 14,none⟩=some (J3 (p.L k).on):=by
        have:=Z.facts.1
        rwa [show ({ p with s:=a,L:=frL p.L k }:Pr).L k=p.L k from j2v]at this
       obtain⟨-,-,-,-,o5,-⟩:=Z.facts;have f5:=E.out.1.free (66+k * 14+4);have b4:=E.out.1.lt;clear Z;cases m:(p.L k).on
       ·rw[m]at X;have B:Hid (CAt 58 wr w.heap.size (prC { p with s:=a,L:=frL p.L (k+1) } v7)/\Alt w.heap.size w7 wr):=by rw[j5j m];exact E.out
        clear E;go_wp2
        first | exact⟨⟨k+1,by omega,by go_num,B⟩,by simp[intOf];omega⟩ | ((repeat apply Exists.intro);exact⟨⟨k+1,by omega,by go_num,B⟩,rfl⟩)
       ·rw[m]at X;have C8:=E.out.1.set (66+k * 14+4) (J3 true);rw[q3y k a5 4 (J3 true) { p.L k with fresh:=true } (v7.l k) (by omega) (by rw[show ({ p with s:=a,L:=frL p.L k }:Pr).L k=p.L k from j2v];rfl),upd_same,show z1a ({ p with s:=a,L:=frL p.L k }:Pr).L k { p.L k with fresh:=true }=frL p.L (k+1) from j6O m]at C8
        have B:=J6 (show _/\_ from⟨C8,E.out.2.set (66+k * 14+4) (J3 true)⟩);clear E C8
        go_upto_region 20 with fail
        generalize wr.setCell ⟨w.heap.size,66+k * 14+4,none⟩ (J3 true)=w8 at *;clear X o5 f5;go_wp2
        first | exact⟨⟨k+1,by omega,by go_num,B⟩,by simp[intOf];omega⟩ | ((repeat apply Exists.intro);exact⟨⟨k+1,by omega,by go_num,B⟩,rfl⟩)
      ·obtain rfl:k=2:=by omega
       have C9:CAt 58 wr w.heap.size (prC { p with s:=a,L:=z1x p.L } v7):=by rw[<- j4p];exact E.out.1
       have A9:=E.out.2;have R9:=A9.cat (b:=w.heap.size+1) (by omega) H7.out.2.1
       have B9:=H7.out.2.2.1.trans (A9.below (Nat.le_refl _) H7.out.2.2.1.size);have N8:=A9.pin (z3F (P:=P) (w:=w) (k:=2) (j:=0) (by omega)) H7.out.2.2.2
       have N9:PIn (New P w 2) wr { p with s:=a,L:=z1x p.L } v7:=⟨N8.ws,N8.set,fun c hc=>by
        have h:=N8.lk c hc
        have e0:({ p with s:=a,L:=frL p.L 0 }:Pr).L c=p.L c:=by
         show (if c<0 then z1x p.L c else p.L c)=p.L c
         exact if_neg (by omega)
        rw[e0]at h
        show z5g _ _ (z1x p.L c) _
        unfold z1x
        split
        ·exact⟨h.told,h.done,h.said,h.due⟩
        ·exact h,N8.q⟩
       have l9:=z0j C9 (z0b _ _);have s9:=z0k R9 z0d (z0b { p with s:=a,L:=z1x p.L } v7) (z0Y N9)
       have F:=J6 (show _/\_/\_ from⟨R9,B9,N9⟩);clear C9 A9 R9 B9 N8 N9 E H7;go_wp2;exact z0K results55 F.out.1 z0d F.out.2.1 { p with s:=a,L:=z1x p.L } v7 0 D z.out F.out.2.2 _ rfl rfl rfl
    ·have z:=J6 (M.out.trans (if_neg he));have l6:=z0j C6 (z0b _ _);have s6:=z0k R6 z0d (z0b p v) A;have d2:(er != 0)=true:=by simpa using he
     have F:=J6 (show _/\_ from⟨R6,B6⟩);clear C6 R6 B6 T6 A U6;go_wp2;exact z0K results55 F.out.1 z0d F.out.2 p v er D z.out (HN.out _ F.out.2) _ rfl rfl rfl
 ·replace M:=J6 (M.out.trans (if_neg Q))
  have b5:G=false∨(G=true/\isT now=false):=by
   cases G
   ·exact .inl rfl
   ·cases h:isT now
    ·exact .inr ⟨rfl,rfl⟩
    ·exact absurd ⟨rfl,h⟩ Q
  clear Q S T HU
  rcases b5 with rfl | ⟨rfl,h1⟩
  all_goals
   go_upto_region 2 with (first
    | (go_at_call 67;refine (N.out _ H.out.2.2).mono ?_;rintro e w1⟨rfl,f⟩;clear l0)
    | (go_at_call 69;refine (z3E _ _).mono ?_;rintro e w'⟨rfl,rfl⟩))
   have U:=H.out.2.1.over f;have l1:=z0j (H.out.1.over f) (z0b _ _);have s1:=z0k U z0d (z0b p v) A;have B1:=zbt H.out.2.2 f;have F:=J6 (show _/\_ from⟨U,B1⟩);clear U B1 f A H N;go_wp2;exact z0K results55 F.out.1 z0d F.out.2 p v 2 D M.out (HN.out _ F.out.2) _ rfl rfl rfl
end Pv
namespace Wd
open Go.RowKit Pv Kc
structure WoV where
 p:PrV
 c:Nat->CsV
def WoV.upd(v:WoV)(i:Nat)(u:CsV):WoV:={ v with c:=fun k=>if k=i then u else v.c k }
def hdL(h:Hd):List Value:=[J I h.h,J I h.t,J I h.s,J I h.g]
def wdC(x:Wo)(v:WoV):Array Value:=(([J I x.ck,J I x.dn]:List Value) ++ ((prC x.p v.p).toList ++ ((csC (x.c 0) (v.c 0)).toList ++ ((csC (x.c 1) (v.c 1)).toList ++ ((hdL (x.hp 0) ++ hdL (x.hc 0)) ++ (hdL (x.hp 1) ++ hdL (x.hc 1))))))).toArray
structure WIn(P:Nat->Prop)(w:World)(x:Wo)(v:WoV):Prop where
 p:PIn P w x.p v.p
 c:∀ i,i<2->CIn P w (x.c i) (v.c i)
section
variable {P P':Nat->Prop} {w w':World} {x:Wo} {v:WoV}
theorem WIn.mono(h:WIn P w x v)(hp:∀ b,b<w.heap.size->P b->P' b):WIn P' w x v:=⟨h.p.mono hp,fun i a=>(h.c i a).mono hp⟩
theorem WIn.lo(h:WIn P w x v):WIn (fun b=>P b/\b<w.heap.size) w x v:=h.mono fun _ a hp=>⟨hp,a⟩
theorem WIn.keep(h:WIn P w x v)(a:∀ b,P b->b<w.heap.size->w'.heap[b]?=w.heap[b]?):WIn P w' x v:=⟨h.p.keep a,fun i d=>(h.c i d).keep a⟩
theorem WIn.over(h:WIn P w x v)(hb:Bl w w'):WIn P w' x v:=h.keep fun b _ a=>hb.block b a
theorem WIn.alt{g:Nat}(h:WIn P w x v)(c:¬ P g)(d:Alt g w w'):WIn P w' x v:=h.keep fun b hb a=>d.block b a (fun e=>c (e ▸ hb))
theorem WIn.new{g:Nat}(h:WIn P w x v)(c:¬ P g)(d:Alt g w w')(k:Nat):WIn (New P w k) w' x v:=((h.mono (P':=fun b=>New P w k b/\P b/\b<w.heap.size) fun _ a hp=>⟨.inl ⟨hp,a⟩,hp,a⟩).alt (g:=g) (fun h=>c h.2.1) d).mono fun _ _ h=>h.1
theorem _root_.Go.Proofs.YtddlhnoedldidaaGreat.Pv.PIn.q9E{g:Nat}{p:Pr}{u:PrV}(h:PIn P w p u)(c:¬ P g)(d:Alt g w w')(k:Nat):PIn (New P w k) w' p u:=(d.pin (P:=fun b=>New P w k b/\P b/\b<w.heap.size) (fun h=>c h.2.1) (h.mono fun _ a hp=>⟨.inl ⟨hp,a⟩,hp,a⟩)).mono fun _ _ h=>h.1
theorem _root_.Go.Proofs.YtddlhnoedldidaaGreat.Kc.CIn.q9E{g:Nat}{p:Cs}{u:CsV}(h:CIn P w p u)(c:¬ P g)(d:Alt g w w')(k:Nat):CIn (New P w k) w' p u:=(d.cin (P:=fun b=>New P w k b/\P b/\b<w.heap.size) (fun h=>c h.2.1) (h.mono fun _ a hp=>⟨.inl ⟨hp,a⟩,hp,a⟩)).mono fun _ _ h=>h.1
end
structure At(cs:Array Value)(o:Nat)(ds es:List Value)(cs':Array Value):Prop where
 len:ds.length=es.length
 ex:∃ a c:List Value,a.length=o/\cs=(a ++ (ds ++ c)).toArray/\cs'=(a ++ (es ++ c)).toArray
theorem At.sets{cs cs':Array Value}{o:Nat}{ds es:List Value}(h:At cs o ds es cs'){ty:TypeId}{w:World}{g:Nat}(hc:CAt ty w g cs):CAt ty (w.setCells g o es) g cs':=by
 obtain⟨a,c,rfl,h1,h2⟩:=h.ex;have:=CAt.sets es a.length w cs hc
 rwa [h1,q8t _ _ _ _ h.len,<- h2]at this
theorem At.part{cs cs':Array Value}{o:Nat}{ds es:List Value}(h:At cs o ds es cs'){ty:TypeId}{w:World}{g:Nat}(hc:CAt ty w g cs):w.rangeAt g o ds:=by
 obtain⟨a,c,rfl,h1,-⟩:=h.ex;refine hc.part fun j v b=>?_;have d:j<ds.length:=(List.getElem?_eq_some_iff.1 b).1;rw[h1,List.getElem?_toArray,List.getElem?_append_right (by omega),Nat.add_sub_cancel_left,List.getElem?_append_left d]
 exact b
theorem At.there{cs cs':Array Value}{o:Nat}{ds es:List Value}(h:At cs o ds es cs'){ty:TypeId}{w:World}{g:Nat}(hc:CAt ty w g cs):w.there g o es.length:=by
 obtain⟨a,c,rfl,h1,-⟩:=h.ex;refine hc.there _ _ ?_;rw[h1,<- h.len]
 simp
theorem At.nest{cs cs':Array Value}{o l:Nat}{ds es b d:List Value}(h:At cs o ds es cs')(k:At ds.toArray l b d es.toArray):At cs (o+l) b d cs':=by
 obtain⟨a,c,m,h1,h2⟩:=h.ex;obtain⟨e,f,g,k1,n⟩:=k.ex;have i:ds=e ++ (b ++ f):=by simpa using congrArg Array.toList k1
 have j:es=e ++ (d ++ f):=by simpa using congrArg Array.toList n
 refine⟨k.len,a ++ e,f ++ c,by simp[m,g],?_,?_⟩
 ·rw[h1,i];simp
 ·rw[h2,j];simp
section
variable (x:Wo) (v:WoV)
theorem z7P(a:Pr)(u:PrV):At (wdC x v) 2 (prC x.p v.p).toList (prC a u).toList (wdC { x with p:=a } { v with p:=u }):=⟨rfl,[J I x.ck,J I x.dn],_,rfl,rfl,rfl⟩
theorem z9W{i:Nat}(a:i<2)(y:Cs)(u:CsV):At (wdC x v) (99+i * 22) (csC (x.c i) (v.c i)).toList (csC y u).toList (wdC { x with c:=z3y x.c i y } (v.upd i u)):=by
 refine⟨rfl,?_⟩
 match i,a with
 | 0,_=>exact⟨[J I x.ck,J I x.dn] ++ (prC x.p v.p).toList,_,rfl,rfl,rfl⟩
 | 1,_=>exact⟨[J I x.ck,J I x.dn] ++ ((prC x.p v.p).toList ++ (csC (x.c 0) (v.c 0)).toList),_,rfl,rfl,rfl⟩
theorem j8o{i:Nat}(a:i<2)(y z:Hd):At (wdC x v) (143+i * 8) (hdL (x.hp i) ++ hdL (x.hc i)) (hdL y ++ hdL z) (wdC { x with hp:=q5U x.hp i y,hc:=q5U x.hc i z } v):=by
 refine⟨rfl,?_⟩
 match i,a with
 | 0,_=>exact⟨[J I x.ck,J I x.dn] ++ ((prC x.p v.p).toList ++ ((csC (x.c 0) (v.c 0)).toList ++ (csC (x.c 1) (v.c 1)).toList)),hdL (x.hp 1) ++ hdL (x.hc 1),rfl,rfl,rfl⟩
 | 1,_=>exact⟨[J I x.ck,J I x.dn] ++ ((prC x.p v.p).toList ++ ((csC (x.c 0) (v.c 0)).toList ++ ((csC (x.c 1) (v.c 1)).toList ++ (hdL (x.hp 0) ++ hdL (x.hc 0))))),[],rfl,rfl,rfl⟩
theorem j6N{i:Nat}(a:i<2)(y:Hd):At (wdC x v) (143+i * 8) (hdL (x.hp i)) (hdL y) (wdC { x with hp:=q5U x.hp i y } v):=by
 refine⟨rfl,?_⟩
 match i,a with
 | 0,_=>exact⟨[J I x.ck,J I x.dn] ++ ((prC x.p v.p).toList ++ ((csC (x.c 0) (v.c 0)).toList ++ (csC (x.c 1) (v.c 1)).toList)),hdL (x.hc 0) ++ (hdL (x.hp 1) ++ hdL (x.hc 1)),rfl,rfl,rfl⟩
 | 1,_=>exact⟨[J I x.ck,J I x.dn] ++ ((prC x.p v.p).toList ++ ((csC (x.c 0) (v.c 0)).toList ++ ((csC (x.c 1) (v.c 1)).toList ++ (hdL (x.hp 0) ++ hdL (x.hc 0))))),hdL (x.hc 1),rfl,rfl,rfl⟩
theorem j5S{i:Nat}(a:i<2)(y:Hd):At (wdC x v) (147+i * 8) (hdL (x.hc i)) (hdL y) (wdC { x with hc:=q5U x.hc i y } v):=by
 refine⟨rfl,?_⟩
 match i,a with
 | 0,_=>exact⟨[J I x.ck,J I x.dn] ++ ((prC x.p v.p).toList ++ ((csC (x.c 0) (v.c 0)).toList ++ ((csC (x.c 1) (v.c 1)).toList ++ hdL (x.hp 0)))),hdL (x.hp 1) ++ hdL (x.hc 1),rfl,rfl,rfl⟩
 | 1,_=>exact⟨[J I x.ck,J I x.dn] ++ ((prC x.p v.p).toList ++ ((csC (x.c 0) (v.c 0)).toList ++ ((csC (x.c 1) (v.c 1)).toList ++ ((hdL (x.hp 0) ++ hdL (x.hc 0)) ++ hdL (x.hp 1))))),[],rfl,rfl,rfl⟩
end
theorem j8A(p:Pr)(v:PrV)(s:St)(u:Value):At (prC p v) 2 (stC p.s v.ws).toList (stC s u).toList (prC { p with s:=s } { v with ws:=u }):=⟨rfl,[J I p.h,J I p.t],_,rfl,rfl,rfl⟩
theorem q8I(p:Pr)(v:PrV){k:Nat}(b:k<2)(y:Lk)(u:LkV):At (prC p v) (66+k * 14) (lkL (p.L k) (v.l k)) (lkL y u) (prC { p with L:=z1a p.L k y } (v.upd k u)):=by
 obtain⟨a,c,d,h1,h2⟩:=z5q p v k b;exact⟨rfl,a,c,d,h1,h2 y u⟩
def lnL(x:Ln.Line)(u1 u2:Value):List Value:=[u1,u2,J I x.g,J3 x.cl]
theorem q6G(x:Lk)(v:LkV)(y:Ln.Line)(u1 u2:Value):At (lkL x v).toArray 6 (lnL x.out v.said v.due) (lnL y u1 u2) (lkL { x with out:=y } { v with said:=u1,due:=u2 }).toArray:=⟨rfl,[J3 x.on,J3 x.gone,J I x.base,v.told,J3 x.fresh,v.done],[J I x.h0,J I x.h1,J I x.h2,J I x.h3],rfl,rfl,rfl⟩
theorem j3N(x:Lk)(v:LkV)(h:Hd):At (lkL x v).toArray 10 [J I x.h0,J I x.h1,J I x.h2,J I x.h3] (hdL h) (lkL (j7o x h) v).toArray:=⟨rfl,[J3 x.on,J3 x.gone,J I x.base,v.told,J3 x.fresh,v.done,v.said,v.due,J I x.out.g,J3 x.out.cl],[],rfl,rfl,rfl⟩
theorem z4Q(x:Cs)(v:CsV)(y:Ln.Line)(u1 u2:Value):At (csC x v) 14 (lnL x.out v.said v.due) (lnL y u1 u2) (csC { x with out:=y } { v with said:=u1,due:=u2 }):=⟨rfl,[J3 x.on,J3 x.gone,J I x.h,J I x.t,J I x.id,v.set,v.pd,v.rp,J3 (x.fl 0),J3 (x.fl 1),J3 (x.fl 2),J3 (x.fl 3),J3 (x.fl 4),J3 (x.fl 5)],[J I x.h0,J I x.h1,J I x.h2,J I x.h3],rfl,rfl,rfl⟩
theorem j4v(x:Cs)(v:CsV)(h:Hd):At (csC x v) 18 [J I x.h0,J I x.h1,J I x.h2,J I x.h3] (hdL h) (csC (j7Z x h) v):=⟨rfl,[J3 x.on,J3 x.gone,J I x.h,J I x.t,J I x.id,v.set,v.pd,v.rp,J3 (x.fl 0),J3 (x.fl 1),J3 (x.fl 2),J3 (x.fl 3),J3 (x.fl 4),J3 (x.fl 5),v.said,v.due,J I x.out.g,J3 x.out.cl],[],rfl,rfl,rfl⟩
theorem z4M:(prog.info? 48).map (·.size)=some 4:=by kernel_rfl
theorem q2L:(prog.info? 50).map (·.size)=some 4:=by kernel_rfl
theorem j5N:(prog.info? 94).map (·.size)=some 8:=by kernel_rfl
def z2i(v:Value):Sem Value:=Instr.loadAt 48 v
theorem z1Z(v:Value):Instr.loadAt 48 v=z2i v:=rfl
def z2K(a v:Value):Sem Unit:=Instr.storeAt 48 a v
theorem z1y(a v:Value):Instr.storeAt 48 a v=z2K a v:=rfl
def j2n(v:Value):Sem Value:=Instr.loadAt 50 v
theorem q6V(v:Value):Instr.loadAt 50 v=j2n v:=rfl
def q7F(a v:Value):Sem Unit:=Instr.storeAt 50 a v
theorem z6b(a v:Value):Instr.storeAt 50 a v=q7F a v:=rfl
def q1y(a v:Value):Sem Unit:=Instr.storeAt 94 a v
theorem q4I(a v:Value):Instr.storeAt 94 a v=q1y a v:=rfl
section
variable {w:World} {g o:Nat}
theorem q9F{cs:Array Value}(h:w.rangeAt g o cs.toList)(a:cs.size=97):(z7u (J2 (some ⟨g,o,none⟩))).run prog w=.ok (J4 cs) w:=by
 have:=run_loadAt_mid (P:=prog) w g o 58 cs.toList _ h underlying58 rfl (by rw[z2E];simp[a])
 change (Instr.loadAt 58 _).run prog w=_
 simpa using this
theorem j2k{cs:Array Value}(h:w.rangeAt g o cs.toList)(a:cs.size=22):(z5b (J2 (some ⟨g,o,none⟩))).run prog w=.ok (J4 cs) w:=by
 have:=run_loadAt_mid (P:=prog) w g o 75 cs.toList _ h underlying75 rfl (by rw[z3q];simp[a])
 change (Instr.loadAt 75 _).run prog w=_
 simpa using this
theorem j8E{cs:Array Value}(h:w.rangeAt g o cs.toList)(a:cs.size=63):(z8i (J2 (some ⟨g,o,none⟩))).run prog w=.ok (J4 cs) w:=by
 have:=run_loadAt_mid (P:=prog) w g o 43 cs.toList _ h underlying43 rfl (by rw[z0x];simp[a])
 change (Instr.loadAt 43 _).run prog w=_
 simpa using this
theorem z5n{cs:List Value}(h:w.rangeAt g o cs)(a:cs.length=4):(z2i (J2 (some ⟨g,o,none⟩))).run prog w=.ok (J4 cs.toArray) w:=
 run_loadAt_mid (P:=prog) w g o 48 cs _ h underlying48 rfl (by rw[z4M,a])
theorem j0T{cs:List Value}(h:w.rangeAt g o cs)(a:cs.length=4):(j2n (J2 (some ⟨g,o,none⟩))).run prog w=.ok (J4 cs.toArray) w:=
 run_loadAt_mid (P:=prog) w g o 50 cs _ h underlying50 rfl (by rw[q2L,a])
theorem j7h{cs:Array Value}(h:w.there g o cs.toList.length)(a:cs.size=97)(h1:cs.all (·.oneCell')=true):(z6x (J2 (some ⟨g,o,none⟩)) (J4 cs)).run prog w=.ok () (w.setCells g o cs.toList):=
 run_storeAt_mid (P:=prog) w g o 58 cs (by simpa using h) (by rw[z2E,a]) h1
theorem z8b{cs:List Value}(h:w.there g o cs.length)(a:cs.length=4)(h1:cs.all (·.oneCell')=true):(z2K (J2 (some ⟨g,o,none⟩)) (J4 cs.toArray)).run prog w=.ok () (w.setCells g o cs):=
 run_storeAt_mid (P:=prog) w g o 48 cs.toArray (by simpa using h) (by rw[z4M];simp[a]) (by simpa using h1)
theorem j6H{cs:List Value}(h:w.there g o cs.length)(a:cs.length=4)(h1:cs.all (·.oneCell')=true):(q7F (J2 (some ⟨g,o,none⟩)) (J4 cs.toArray)).run prog w=.ok () (w.setCells g o cs):=
 run_storeAt_mid (P:=prog) w g o 50 cs.toArray (by simpa using h) (by rw[q2L];simp[a]) (by simpa using h1)
theorem j7J{cs:List Value}(h:w.there g o cs.length)(a:cs.length=8)(h1:cs.all (·.oneCell')=true):(q1y (J2 (some ⟨g,o,none⟩)) (J4 cs.toArray)).run prog w=.ok () (w.setCells g o cs):=
 run_storeAt_mid (P:=prog) w g o 94 cs.toArray (by simpa using h) (by rw[j5N];simp[a]) (by simpa using h1)
end
def z1b(P:Nat->Prop)(w:World)(g:Nat)(a:Wo)(w':World):Prop:=∃ v',CAt 97 w' g (wdC a v')/\WIn (New P w 0) w' a v'/\Alt g w w'
theorem z7J{P:Nat->Prop}{w w1:World}{b:Nat}(a:w.heap.size<=w1.heap.size)(h:New (New P w 0) w1 0 b):New P w 0 b:=by
 rcases h with⟨h,_⟩ | h
 ·exact h
 ·exact .inr (by omega)
theorem z1b.trans{P:Nat->Prop}{w w1 d:World}{g:Nat}{e:Wo}(h:Alt g w w1)(k:z1b (New P w 0) w1 g e d):z1b P w g e d:=by
 obtain⟨v,c,i,a⟩:=k;exact⟨v,c,i.mono fun b _ hb=>z7J h.size hb,h.trans a⟩
theorem z1b.same{P:Nat->Prop}{w w1:World}{g:Nat}{x:Wo}{v:WoV}(hc:CAt 97 w1 g (wdC x v))(a:WIn P w x v)(b:¬ P g)(h:Alt g w w1):z1b P w g x w1:=⟨v,hc,a.new b h 0,h⟩
theorem q3J{P:Nat->Prop}{w:World}{g:Nat}{x:Wo}{v:WoV}(a:CAt 97 w g (wdC x v))(b:WIn P w x v)(c:¬ P g):Hid (∀ (w':World),Bl w w'->z1b P w g x w'):=fun _ hb=>z1b.same (a.over hb) b c (Alt.of (g:=g) hb)
end Wd
namespace Wd
open Go.RowKit Pv
theorem j7S(s:St)(v:Int):(z1G s v).1.W=s.W:=by
 unfold z1G
 repeat' split
 all_goals rfl
theorem q6D{P:Nat->Prop}{w:World}{s:St}{u:Value}(hu:Rep P w u 8 64 (wsL s.W))(v:Int):Calls prog 56 #[J4 (stC s u),J I v] w fun e w'=>e=.returned (.tuple #[J4 (stC (z1G s v).1 u),J I (z1G s v).2])/\Bl w w':=by
 obtain⟨A,C,b,o,rfl,W,-,-⟩:=hu.z9Z;exact q2o s A b o C v w W
theorem q7x(x:Ln.Line)(k:Int)(s:ByteArray)(said now:Int)(v1 v2:Value)(P:Nat->Prop)(w:World)(h1:z0C P w v1 1 16 (txC x.S))(h2:z0C P w v2 1 8 (inC x.D)):Calls prog 87 #[J4 #[v1,v2,J I x.g,J3 x.cl],J I k,.string s,J I said,J I now] w (j7r P w (Ln.z7b x k s said now) (Ln.z4p x k s said now)):=by
 obtain⟨a,b,c,d,sb,so,db,dO,rfl,rfl,L,p1,p2⟩:=z0C.line h1 h2;exact (Ln.j5r x a c b d sb so db dO k s said now w L).mono fun e w' h=>j3f L p1 p2 h
theorem q6X(x:Ln.Line)(k time got:Int)(v1 v2:Value)(P:Nat->Prop)(w:World)(h1:z0C P w v1 1 16 (txC x.S))(h2:z0C P w v2 1 8 (inC x.D)):Calls prog 89 #[J4 #[v1,v2,J I x.g,J3 x.cl],J I k,J I time,J I got] w (j7r P w (Ln.z9O x k time got) (Ln.z5k x k time got)):=by
 obtain⟨a,b,c,d,sb,so,db,dO,rfl,rfl,L,p1,p2⟩:=z0C.line h1 h2;exact (Ln.j5h x a c b d sb so db dO k time got w L).mono fun e w' h=>j3f L p1 p2 h
end Wd
namespace Wd
open Go.RowKit Pv Kc
def z9z(P:Nat->Prop)(w:World)(g:Nat)(r:Wo×Int×Int)(e:Ending)(w':World):Prop:=e=.returned (.tuple #[J I r.2.1,J I r.2.2])/\z1b P w g r.1 w'
def q2s(P:Nat->Prop)(w:World)(g:Nat)(r:Wo×Int)(e:Ending)(w':World):Prop:=e=.returned (J I r.2)/\z1b P w g r.1 w'
theorem z2v(c:Int)(w:World):Calls prog 26 #[J I c] w fun e w'=>e=.returned (J3 (isC c))/\w=w':=by
 have b:isC c=(decide (0<=c) && decide (c<2)):=rfl;generalize isC c=B at *;have a:=J6 b;clear b
 go_enter func26,ntmps26
 by_cases h1:c≥0
 ·by_cases h2:c<2
  ·go_wp2;go_ret;exact⟨by rw[a.out];simp[h1,h2],rfl⟩
  ·go_wp2;go_ret;exact⟨by rw[a.out];simp[h1,h2],rfl⟩
 ·go_wp2;go_ret;exact⟨by rw[a.out];simp;omega,rfl⟩
theorem q8V(g:Nat)(x:Wo)(v:WoV)(P:Nat->Prop)(w:World)(n:Int)(d:CAt 97 w g (wdC x v))(f:WIn P w x v)(e:¬ P g)(hk0:0<=x.ck)(hk1:x.ck<=1099511627736) :
  Calls prog 34 #[J2 (some ⟨g,0,none⟩),J I n] w (z9z P w g (z7T x n)):=by
 have i:z7T x n=if n<1∨1099511627736 - x.ck<n then (x,0,2) else ({ x with ck:=x.ck+n },x.ck+n,0):=by unfold z7T;rfl
 generalize z7T x n=D at *;have b:=J6 i;clear i;have c0:w.cell? ⟨g,0,none⟩=some (J I x.ck):=d.cell 0;have f0:=d.free 0;have j:=d.lt;have k:IntKind.i64.wrap (1099511627736 - x.ck)=1099511627736 - x.ck:=z7l (by omega) (by omega)
 have H:=J6 (show _/\_ from⟨d,f⟩);clear d f
 go_enter func34,ntmps34
 by_cases h1:n<1
 ·have hd:=b.out.trans (if_pos (.inl h1));have a:=J6 hd;clear hd b;go_wp2;go_ret2;rw[a.out];exact⟨rfl,.same H.out.1 H.out.2 e (Alt.refl _ _)⟩
 ·by_cases h2:1099511627736 - x.ck<n
  ·have hd:=b.out.trans (if_pos (.inr h2));have a:=J6 hd;clear hd b;have l:n > 1099511627736 - x.ck:=h2;go_wp2;go_ret2;rw[a.out];exact⟨rfl,.same H.out.1 H.out.2 e (Alt.refl _ _)⟩
  ·have hd:=b.out.trans (if_neg (fun h=>by rcases h with h | h <;> omega))
   have a:=J6 hd;have m:IntKind.i64.wrap (x.ck+n)=x.ck+n:=z7l (by omega) (by omega)
   clear hd b;go_wp2;go_ret2;rw[a.out];exact⟨rfl,v,H.out.1.set 0 (J I (x.ck+n)),(by have h:=H.out.2.new e ((Alt.refl g w).set 0 (J I (x.ck+n))) 0;exact⟨h.p,h.c⟩),(Alt.refl g w).set 0 _⟩
theorem j2s(h:Hd):(hdL h).all (·.oneCell')=true:=rfl
attribute [local go_sem ↓] q6V z6b
theorem q9l(g:Nat)(x:Wo)(v:WoV)(P:Nat->Prop)(w:World)(i:Nat)(t:i<2)(b:Bool)(a:CAt 97 w g (wdC x v))(o:WIn P w x v)(u:¬ P g) :
  Calls prog 62 #[J2 (some ⟨g,0,none⟩),J I (i:Int),J3 b] w fun e w'=>e=.returned (.tuple #[])/\z1b P w g (z7g x i b) w':=by
 have A:=a.lt;have B:(i:Int)<2:=by omega
 have C:(0:Int)<=(i:Int):=by omega
 have hd:=(Below.refl w.heap.size w).drew;cases b
 ·have f:=j6N x v t (x.hp i);have j:=(z9W x v t (j7Z (x.c i) (x.hp i)) (v.c i)).nest (by simpa using j4v (x.c i) (v.c i) (x.hp i))
  have y:=j0T (f.part a) rfl;have m:=j0T (f.part (a.over hd)) rfl;have n:=j6H (j.there (a.over hd)) rfl (j2s _);have r:=j.sets (a.over hd);have d:Alt g w (w.drew.setCells g (99+i * 22+18) (hdL (x.hp i))):=(Alt.of (g:=g) hd).sets _ _
  have z:Hid (z1b P w g (z7g x i false) (w.drew.setCells g (99+i * 22+18) (hdL (x.hp i)))):=by
   refine⟨v.upd i (v.c i),r,⟨o.p.q9E u d 0,fun k s=>?_⟩,d⟩;have h:=(o.c k s).q9E u d 0
   show CIn _ _ (z3y x.c i _ k) (if k=i then v.c i else v.c k)
   unfold z3y
   by_cases e:k=i
   ·subst e;rw[if_pos rfl,if_pos rfl];exact⟨h.set,h.pd,h.rp,h.said,h.due⟩
   ·rw[if_neg e,if_neg e];exact h
  generalize w.drew.setCells g (99+i * 22+18) (hdL (x.hp i))=wS at *;generalize z7g x i false=D at *;clear r o f j a d hd
  go_enter func62,ntmps62
  go_upto_region 3 with fail
  apply z3M (fun w'=>w'=wS)
  ·refine wp_region_noPanic ?_
   go_region_with (fail)
   all_goals exact NoPanic.normal ⟨rfl,rfl,rfl⟩
  rintro w' rfl;clear y m n;go_wp2;go_end0;exact⟨rfl,z.out⟩
 ·have f:=j5S x v t (x.hc i);have j:=(z7P x v { x.p with L:=z1a x.p.L i (j7o (x.p.L i) (x.hc i)) } (v.p.upd i (v.p.l i))).nest ((q8I x.p v.p t (j7o (x.p.L i) (x.hc i)) (v.p.l i)).nest (j3N (x.p.L i) (v.p.l i) (x.hc i)))
  rw[show 147+i * 8=143+i * 8+4 by omega]at f
  rw[show 2+(66+i * 14+10)=68+i * 14+10 by omega]at j
  have y:=j0T (f.part a) rfl;have m:=j0T (f.part (a.over hd)) rfl;have n:=j6H (j.there (a.over hd)) rfl (j2s _);have r:=j.sets (a.over hd);have d:Alt g w (w.drew.setCells g (68+i * 14+10) (hdL (x.hc i))):=(Alt.of (g:=g) hd).sets _ _
  have z:Hid (z1b P w g (z7g x i true) (w.drew.setCells g (68+i * 14+10) (hdL (x.hc i)))):=by
   have hp:=o.p.q9E u d 0;refine⟨{ v with p:=v.p.upd i (v.p.l i) },r,⟨⟨hp.ws,hp.set,fun k s=>?_,hp.q⟩,fun k s=>(o.c k s).q9E u d 0⟩,d⟩
   have h:=hp.lk k s
   show z5g _ _ (z1a x.p.L i _ k) (if k=i then v.p.l i else v.p.l k)
   unfold z1a
   by_cases e:k=i
   ·subst e;rw[if_pos rfl,if_pos rfl];exact⟨h.told,h.done,h.said,h.due⟩
   ·rw[if_neg e,if_neg e];exact h
  generalize w.drew.setCells g (68+i * 14+10) (hdL (x.hc i))=wS at *;generalize z7g x i true=D at *;clear r o f j a d hd
  go_enter func62,ntmps62
  go_upto_region 2 with fail
  apply z3M (fun w'=>w'=wS)
  ·refine wp_region_noPanic ?_
   go_region_with (fail)
   all_goals exact NoPanic.normal ⟨rfl,rfl,rfl⟩
  rintro w' rfl;clear y m n;go_wp2;go_end0;exact⟨rfl,z.out⟩
end Wd
namespace Kc
open Go.RowKit Pv
theorem j2f{P:Nat->Prop}{w:World}{v:Value}{l:List (Int×Int)}(h:Rep P w v 2 16 (pwC l)):∃ A C b off,v=J1 A l.length C/\Df.PIn w l A b off:=by
 obtain⟨A,C,rfl,c,-,hc,-⟩:=h.open (z0c _) (by decide)
 rcases Nat.eq_zero_or_pos l.length with h0 | h0
 ·exact⟨A,C,0,0,rfl,by omega,fun h=>by omega,fun i a=>by omega⟩
 ·obtain⟨b,off,e,-,-,hcell⟩:=hc h0;exact⟨A,C,b,off,rfl,by omega,fun _=>e,fun i a=>⟨hcell _ _ (z1U l i a).1,hcell _ _ (z1U l i a).2⟩⟩
theorem q1j:∀ l:List (Int×Int),pwL l=pwC l
 | []=>rfl
 | x :: l=>by
  show Value.int .i64 x.1 :: Value.int .i64 x.2 :: pwL l=[Value.int .i64 x.1,Value.int .i64 x.2] ++ pwC l
  rw[q1j l];rfl
theorem j1D{w:World}{B:Nat}{v:Value}{l:List (Int×Int)}(h:z5F w B v l)(c:l.length<=6):Rep (fun b=>B<=b) w v 2 16 (pwC l):=by
 have a:w.ownsRow B 65 2 v l.length (pwC l):=by rw[<- q1j];exact h
 exact Rep.own (bts:=16) a (by omega)
theorem q6O(a d:List (Int×Int)):(Df.z3W a d).length<=6:=Df.z3D _ _ 6
theorem q9h(a d:List (Int×Int))(v u:Value)(P P':Nat->Prop)(w:World)(g:Rep P w v 2 16 (pwC a))(hd:Rep P' w u 2 16 (pwC d)) :
  Calls prog 161 #[v,u] w fun e w'=>∃ A n C,e=.returned (J1 A n C)/\Rep (fun b=>w.heap.size<=b) w' (J1 A n C) 2 16 (pwC (Df.z3W a d))/\Bl w w':=by
 obtain⟨A,C,b,off,rfl,p1⟩:=j2f g;obtain⟨A',C',h,c,rfl,p2⟩:=j2f hd;refine (Df.q9j a d A A' C C' b off h c w p1 p2).mono ?_;rintro e w'⟨x,rfl,hp,hb⟩;have f:=j1D hp (q6O a d);obtain⟨i,n0,C0,rfl,_⟩:=id f;exact⟨i,n0,C0,rfl,f,hb⟩
def Joins(F:Option Addr->Nat->Nat->Act)(R:Option Addr->Nat->Nat->World->Prop)(ex:Exit)(a:Act)(w:World):Prop:=∃ A n C,ex=Exit.normal/\a=F A n C/\R A n C w
theorem j0X{P:Program}{c:Code}{Q:Exit->Act->World->Prop}{a:Act}{w:World}(R:Option Addr->Nat->Nat->World->Prop)(F:Option Addr->Nat->Nat->Act)(h1:Code.wp P c (Joins F R) a w)(h2:∀ A n C w',R A n C w'->Q Exit.normal (F A n C) w'):Code.wp P c Q a w:=
 Code.wp_mono (fun e b w' h=>by obtain⟨A,n,C,rfl,rfl,h⟩:=h;exact h2 A n C w' h) h1
theorem q6Y{n:Nat}(h:n * 16<=168884986026393):Builtin.nextslicecap (n+1) n * 16<=281474976710656:=by
 have:Builtin.nextslicecap (n+1) n<=n+(n+1024) / 4+256:=by
  unfold Builtin.nextslicecap
  split
  ·omega
  ·split
   ·omega
   ·rw[growBy_four]
    repeat' split
    all_goals omega
 omega
def RR(P:Nat->Prop)(B:Nat)(o:Option Nat)(w:World)(v:Value)(l:List (Int×Int)):Prop:=
 (o=none/\(∃ A,v=J1 A l.length l.length)/\Rep P w v 2 8 (pwC l))∨(∃ g cap,o=some g/\v=J1 (some ⟨g,0,none⟩) l.length cap/\w.ownsRow B 79 2 v l.length (pwC l))
theorem j6b:(prog.info? 79).map (fun i=>(i.zero,i.size,i.bytes))=some (some (J4 #[J I 0,J I 0]),2,16):=by kernel_rfl
theorem j3B(l m:List (Int×Int)):pwC (l ++ m)=pwC l ++ pwC m:=by simp[pwC]
theorem RR.slice{P:Nat->Prop}{B:Nat}{o:Option Nat}{w:World}{v:Value}{l:List (Int×Int)}(h:RR P B o w v l):∃ A C,v=J1 A l.length C:=by
 rcases h with⟨-,⟨A,rfl⟩,-⟩ | ⟨g,cap,-,rfl,-⟩
 ·exact⟨_,_,rfl⟩
 ·exact⟨_,_,rfl⟩
theorem RR.keep{P:Nat->Prop}{B:Nat}{o:Option Nat}{w w':World}{v:Value}{l:List (Int×Int)}(h:RR P B o w v l)(h1:∀ b,P b->b<w.heap.size->w'.heap[b]?=w.heap[b]?)(h2:∀ b,o=some b->w'.heap[b]?=w.heap[b]?):RR P B o w' v l:=by
 rcases h with⟨e,hA,hr⟩ | ⟨g,cap,e,hv,ho⟩
 ·exact .inl ⟨e,hA,hr.keep h1⟩
 ·exact .inr ⟨g,cap,e,hv,Ln.z1c ho fun k a=>h2 k (by rw[e,<- a,hv];rfl)⟩
theorem RR.lt{P:Nat->Prop}{B:Nat}{o:Option Nat}{w:World}{v:Value}{l:List (Int×Int)}(h:RR P B o w v l){r:Nat}(a:o=some r):B<=r/\r<w.heap.size:=by
 rcases h with⟨e,-,-⟩ | ⟨g,cap,e,hv,ho⟩
 ·rw[e]at a;cases a
 ·rw[a]at e;cases e;exact World.ownsRow.lt ho r (by rw[hv];rfl)
theorem RR.rep{P Q:Nat->Prop}{B:Nat}{o:Option Nat}{w:World}{v:Value}{l:List (Int×Int)}(h:RR P B o w v l)(k:l.length * 16<=168884986026393)(h1:∀ b,b<w.heap.size->P b->Q b)(h2:∀ b,o=some b->Q b):Rep Q w v 2 8 (pwC l):=by
 rcases h with⟨e,hA,hr⟩ | ⟨g,cap,e,hv,ho⟩
 ·exact hr.mono h1
 ·obtain⟨A,n,C,a,c,d,f,i⟩:=Rep.own (bts:=8) ho (by omega)
  refine⟨A,n,C,a,c,d,f,fun h0=>?_⟩;obtain⟨b,off,b1,b2,b3,j⟩:=i h0;rw[hv]at a;cases a;cases b1;exact⟨g,0,rfl,h2 g e,b3,j⟩
theorem j3c{P:Nat->Prop}{B:Nat}{o:Option Nat}{w:World}{v:Value}{l:List (Int×Int)}(h:RR P B o w v l)(N:B<=w.heap.size)(Q:l.length * 16<=168884986026393)(x:Int×Int)(y:Nat)(R:∀ j u,([.int .i64 x.1,.int .i64 x.2]:List Value)[j]?=some u->w.cell? ⟨y,j,none⟩=some u) :
  ∃ g cap w',(Builtin.append_ #[72,72] 72 #[v,J1 (some ⟨y,0,none⟩) 1 1]).run prog w=.ok (J1 (some ⟨g,0,none⟩) (l.length+1) cap) w'/\RR P B (some g) w' (J1 (some ⟨g,0,none⟩) (l.length+1) cap) (l ++ [x])/\w.grownBy w' o/\(o=some g∨g=w.heap.size):=by
 obtain⟨i0,F,p,b,q⟩:=info_parts j6b;have c:∀ j u,([.int .i64 x.1,.int .i64 x.2]:List Value)[j]?=some u->w.cell? ((⟨y,0,none⟩:Addr).add j)=some u:=fun j v z=>by rw[Addr.add_lit,Nat.zero_add];exact R j v z
 have f:(pwC l ++ [Value.int .i64 x.1,Value.int .i64 x.2]).length=(l.length+1) * 2:=by rw[List.length_append,z0c];simp;omega
 have C:pwC (l ++ [x])=pwC l ++ [.int .i64 x.1,.int .i64 x.2]:=by rw[j3B];rfl
 have m:(l ++ [x]).length=l.length+1:=by simp
 have r:l.length+1<=maxLen:=by unfold maxLen;omega
 have n:=q6Y Q
 have grown:∀ (old:Nat),
   (w.drew.alloc (J5 ((pwC l).toArray ++ ([.int .i64 x.1,.int .i64 x.2]:List Value).toArray ++ Builtin.zeroCells (Value.agg #[.int .i64 0,.int .i64 0]).cells (grownCap w (l.length+1) old 79 - (l.length+1))) 79)).ownsRow B 79 2
    (J1 (some ⟨w.heap.size,0,none⟩) (l.length+1) (grownCap w (l.length+1) old 79)) (l.length+1) (pwC l ++ [.int .i64 x.1,.int .i64 x.2]) /\
   w.grownBy (w.drew.alloc (J5 ((pwC l).toArray ++ ([.int .i64 x.1,.int .i64 x.2]:List Value).toArray ++ Builtin.zeroCells (Value.agg #[.int .i64 0,.int .i64 0]).cells (grownCap w (l.length+1) old 79 - (l.length+1))) 79)) o:=by
  intro old;have H:=grownCap_ge w (l.length+1) old 79;have s:grownCap w (l.length+1) old 79<=maxLen:=grownCap_le_maxLen w (l.length+1) old 79 r;refine⟨⟨f,.inr ⟨w.heap.size,_,_,rfl,N,heap_alloc_new w.drew _,H,s,?_,?_⟩⟩,⟨rfl,rfl,rfl,by simp,fun k K _=>Below.heap_alloc w.drew _ k K⟩⟩
  ·simp only[Array.size_append,List.size_toArray,size_zeroCells,z0c];simp only[Value.cells,List.size_toArray,List.length_cons,List.length_nil];omega
  ·simp only[Array.toList_append,List.append_assoc];rw[<- List.append_assoc,<- f];exact List.take_left
 have t:∀ (cap:Nat) (w':World),w'.ownsRow B 79 2 (J1 (some ⟨w.heap.size,0,none⟩) (l.length+1) cap) (l.length+1) (pwC l ++ [.int .i64 x.1,.int .i64 x.2])->RR P B (some w.heap.size) w' (J1 (some ⟨w.heap.size,0,none⟩) (l.length+1) cap) (l ++ [x]):=fun cap w' G=>.inr ⟨_,cap,rfl,by rw[m],by rw[C,m];exact G⟩
 rcases h with⟨e,⟨A,rfl⟩,hr⟩ | ⟨g,cap,e,rfl,G⟩
 ·obtain⟨A',C',S,-,L,hc,M⟩:=hr.open (z0c _) (by decide)
  cases S;cases A with
  | none =>
   obtain⟨h0,-⟩:=L rfl;obtain rfl:l=[]:=List.length_eq_zero_iff.1 h0;have d:=run_append_nil (P:=prog) w 72 72 79 i0 _ underlying72 F p ⟨y,0,none⟩ 1 1 [.int .i64 x.1,.int .i64 x.2] (by rw[b];rfl) c (by omega) (by omega) (by rw[q];omega)
   have D:=grown 0;refine⟨_,_,_,d,t _ _ ?_,?_,.inr rfl⟩
   ·simpa [pwC] using D.1
   ·simpa [pwC] using D.2
  | some a =>
   have d:=run_append_grow (P:=prog) w 72 72 79 i0 _ underlying72 F p a l.length l.length (pwC l) (by rw[b,z0c]) (M a rfl) ⟨y,0,none⟩ 1 1 [.int .i64 x.1,.int .i64 x.2] (by rw[b];rfl) c (by omega) (by unfold maxLen at r;omega) (by rw[q];exact n)
   exact⟨_,_,_,d,t _ _ (grown l.length).1,(grown l.length).2,.inr rfl⟩
 ·rcases G.2 with⟨z,-⟩ | ⟨g',cap',cur,z,hbg,D,hnc,s,hcs,htake⟩
  ·cases z
  cases z
  by_cases i:l.length+1<=cap
  ·have T:l.length * i0.size+([.int .i64 x.1,.int .i64 x.2]:List Value).length<=cur.size:=by rw[b,hcs];simp;omega
   have d:=run_append_room (P:=prog) w 72 72 79 i0 underlying72 F g l.length cap cur D ⟨y,0,none⟩ 1 1 [.int .i64 x.1,.int .i64 x.2] (by rw[b];rfl) c (fun u hu=>by simp at hu;rcases hu with rfl | rfl <;> rfl) i T
   refine⟨_,_,_,d,.inr ⟨g,cap,rfl,by rw[m],?_⟩,⟨rfl,rfl,rfl,by simp,fun k _ K=>setRow_other w g k _ (fun U=>K (by rw[e,U]))⟩,.inl e⟩
   rw[C,m];refine⟨f,.inr ⟨g,cap,_,rfl,hbg,setRow_heap w g cur _ 79 _ D,i,s,?_,?_⟩⟩
   ·simp only[List.size_toArray,List.length_append,List.length_take,List.length_drop,Array.length_toList];rw[b]
    simp
    omega
   ·rw[b,htake,<- f];exact List.take_left
  ·have E:cap=l.length:=by omega
   subst E;have holds:∀ j u,(pwC l)[j]?=some u->w.cell? ((⟨g,0,none⟩:Addr).add j)=some u:=G.cells (g:=g) rfl;have d:=run_append_grow (P:=prog) w 72 72 79 i0 _ underlying72 F p ⟨g,0,none⟩ l.length l.length (pwC l) (by rw[b,z0c]) holds ⟨y,0,none⟩ 1 1 [.int .i64 x.1,.int .i64 x.2] (by rw[b];rfl) c (by omega) (by unfold maxLen at r;omega) (by rw[q];exact n)
   exact⟨_,_,_,d,t _ _ (grown l.length).1,(grown l.length).2,.inr rfl⟩
theorem j0q{P:Nat->Prop}{ops:Array Oper}{b:Oper}{a:Act}{w:World}{K:Act->World->Prop}{Q:Exit->Act->World->Prop}{E:Prop}(e:b.guard=none)(c:b.type=72)(p q:Operand)
  (d:b.op=Op.call { callee:=Callee.builtin Builtin.append,args:=#[p,q],argTypes:=#[72,72] }) {B:Nat} {o:Option Nat} {v:Value} {l:List (Int×Int)} (f:a.eval p=v) (x:Int×Int) (y:Nat) (i:a.eval q=J1 (some ⟨y,0,none⟩) 1 1)
  (h:RR P B o w v l) (k:B<=w.heap.size) (m:l.length * 16<=168884986026393) (n:∀ j u,([J I x.1,J I x.2]:List Value)[j]?=some u->w.cell? ⟨y,j,none⟩=some u)
  (r:∀ g C w',RR P B (some g) w' (J1 (some ⟨g,0,none⟩) (l.length+1) C) (l ++ [x])->w.grownBy w' o->(o=some g∨g=w.heap.size)->K (a.put b.dst (J1 (some ⟨g,0,none⟩) (l.length+1) C)) w') :
  if Region.wanted b (yielded ops a.tmps)=true then Oper.wp prog b a w K Q else E:=by
 have s:Region.wanted b (yielded ops a.tmps)=true:=by simp[Region.wanted,e]
 rw[if_pos s];unfold Oper.wp;obtain⟨g,C,w',t,h1,h2,h3⟩:=j3c h k m x y n
 simp[execOp,d,resolve,invoke,builtin,f,i,c,t,Result.andThen]
 exact r _ _ _ h1 h2 h3
end Kc
namespace Pv
def swI(l:List Int)(p:Nat):List Int:=(l.set (p+1) (l.getD p 0)).set p (l.getD (p+1) 0)
def q9s:Nat->List Int->List Int
 | 0,l=>l
 | p+1,l=>if l.getD (p+1) 0<l.getD p 0 then q9s p (swI l p) else l
def q4Q(l:List Int):Nat->List Int
 | 0=>l
 | m+1=>q9s (m+1) (q4Q l m)
def z4X(l:List Int):List Int:=q4Q l (l.length - 1)
theorem z8J(l:List Int)(p:Nat):(swI l p).length=l.length:=by simp[swI]
theorem z7m:∀ (j:Nat) (l:List Int),(q9s j l).length=l.length
 | 0,_=>rfl
 | p+1,l=>by rw[q9s];split;rw[z7m p,z8J];rfl
theorem z5a(l:List Int):∀ m,(q4Q l m).length=l.length
 | 0=>rfl
 | m+1=>by rw[q4Q,z7m,z5a l m]
theorem q0C(l:List Int):(z4X l).length=l.length:=z5a _ _
theorem z4C:∀ (l:List Int) (a:Int),z2j a l=true->∀ x∈l,a<x/\x<=5
 | [],_,_,x,b=>by cases b
 | y :: l,a,h,x,b=>by
  simp only[z2j,Bool.and_eq_true,decide_eq_true_eq]at h
  rcases List.mem_cons.1 b with rfl | b
  ·exact⟨h.1.1,h.1.2⟩
  ·have:=z4C l y h.2 x b;exact⟨by omega,this.2⟩
theorem q3b:∀ (l m:List Int) (a b:Int),z2j a l=true->z2j b m=true->(∀ x,x∈l↔x∈m)->l=m
 | [],[],_,_,_,_,_=>rfl
 | [],y :: m,_,_,_,_,h=>by have:=(h y).2 (List.mem_cons_self);cases this
 | x :: l,[],_,_,_,_,h=>by have:=(h x).1 (List.mem_cons_self);cases this
 | x :: l,y :: m,a,b,hl,hm,h=>by
  simp only[z2j,Bool.and_eq_true,decide_eq_true_eq]at hl hm
  have e:x=y:=by
   rcases List.mem_cons.1 ((h x).1 List.mem_cons_self) with h1 | h1
   ·exact h1
   ·rcases List.mem_cons.1 ((h y).2 List.mem_cons_self) with h2 | h2
    ·exact h2.symm
    ·have:=(z4C m y hm.2 x h1).1;have:=(z4C l x hl.2 y h2).1;omega
  subst e;rw[q3b l m x x hl.2 hm.2 fun z=>⟨fun c=>?_,fun c=>?_⟩]
  ·rcases List.mem_cons.1 ((h z).1 (List.mem_cons_of_mem _ c)) with h1 | h1
   ·have:=(z4C l x hl.2 z c).1;omega
   ·exact h1
  ·rcases List.mem_cons.1 ((h z).2 (List.mem_cons_of_mem _ c)) with h1 | h1
   ·have:=(z4C m x hm.2 z c).1;omega
   ·exact h1
def six:List Int:=[0,1,2,3,4,5]
theorem j7b:(List.range 6).map Int.ofNat=six:=by decide
theorem j4P{v:Int}(h0:0<=v)(h1:v<=5):v∈six:=by
 rcases (show v=0∨v=1∨v=2∨v=3∨v=4∨v=5 by omega) with rfl | rfl | rfl | rfl | rfl | rfl <;> decide
def mkB(b0 b1 b2 b3 a b:Bool):List Int:=(if b0 then [0] else []) ++ (if b1 then [1] else []) ++ (if b2 then [2] else []) ++ (if b3 then [3] else []) ++ (if a then [4] else []) ++ (if b then [5] else [])
theorem z5I(f:Int->Bool):six.filter f=mkB (f 0) (f 1) (f 2) (f 3) (f 4) (f 5):=by
 unfold six mkB;simp only[List.filter_cons,List.filter_nil];cases f 0 <;> cases f 1 <;> cases f 2 <;> cases f 3 <;> cases f 4 <;> cases f 5 <;> rfl
theorem q7W:∀ b0 b1 b2 b3 a b:Bool,z2j (-1) (mkB b0 b1 b2 b3 a b)=true:=by decide +kernel
theorem q2w{D:List Int}(h:z2j (-1) D=true):D=six.filter fun u=>decide (u∈D):=by
 refine q3b D _ (-1) (-1) h (by rw[z5I];exact q7W _ _ _ _ _ _) fun x=>⟨fun a=>?_,fun a=>?_⟩
 ·have:=z4C D (-1) h x a;exact List.mem_filter.2 ⟨j4P (by omega) this.2,by simpa using a⟩
 ·simpa using (List.mem_filter.1 a).2
theorem z9u(D:List Int)(v:Int):z2P D v=six.filter fun u=>decide (u=v) || decide (u∈D):=by unfold z2P;rw[j7b]
theorem q7L(D:List Int)(v:Int):z2j (-1) (z2P D v)=true:=by rw[z9u,z5I];exact q7W _ _ _ _ _ _
theorem j4h{D:List Int}{v:Int}(h:z2j (-1) D=true)(a:v∈D):z2P D v=D:=by
 rw[z9u]
 conv=>rhs;rw[q2w h]
 congr 1
 funext u
 by_cases e:u=v
 ·subst e;simp[a]
 ·simp[e]
theorem q3k{D:List Int}(h:z2j (-1) D=true):D.length<=6:=by
 rw[q2w h];exact List.length_filter_le _ _
theorem j3U:∀ b0 b1 b2 b3 a b:Bool,(b0=false->z4X (mkB b0 b1 b2 b3 a b ++ [0])=mkB true b1 b2 b3 a b)/\(b1=false->z4X (mkB b0 b1 b2 b3 a b ++ [1])=mkB b0 true b2 b3 a b)/\(b2=false->z4X (mkB b0 b1 b2 b3 a b ++ [2])=mkB b0 b1 true b3 a b)/\(b3=false->z4X (mkB b0 b1 b2 b3 a b ++ [3])=mkB b0 b1 b2 true a b)/\(a=false->z4X (mkB b0 b1 b2 b3 a b ++ [4])=mkB b0 b1 b2 b3 true b)/\(b=false->z4X (mkB b0 b1 b2 b3 a b ++ [5])=mkB b0 b1 b2 b3 a true):=by decide +kernel
theorem q7k{D:List Int}{v:Int}(h:z2j (-1) D=true)(h0:0<=v)(h1:v<=5)(c:v ∉ D):z4X (D ++ [v])=z2P D v:=by
 have b:=q2w h;rw[z5I]at b;have a:decide (v∈D)=false:=by simpa using c
 have k:=j3U (decide ((0:Int)∈D)) (decide ((1:Int)∈D)) (decide ((2:Int)∈D)) (decide ((3:Int)∈D)) (decide ((4:Int)∈D)) (decide ((5:Int)∈D));rw[<- b]at k;rw[z9u,z5I]
 rcases (show v=0∨v=1∨v=2∨v=3∨v=4∨v=5 by omega) with rfl | rfl | rfl | rfl | rfl | rfl
 ·rw[k.1 a];simp
 ·rw[k.2.1 a];simp
 ·rw[k.2.2.1 a];simp
 ·rw[k.2.2.2.1 a];simp
 ·rw[k.2.2.2.2.1 a];simp
 ·rw[k.2.2.2.2.2 a];simp
end Pv
namespace Pv
open Go.RowKit
theorem q4f(l:List Int)(u:Value)(P:Nat->Prop)(w:World)(v:Int)(hu:Rep P w u 1 8 (inC l)) :
  Calls prog 201 #[u,J I v] w fun e w'=>(∃ r:Int,e=.returned (J I r)/\decide (0<=r)=decide (v∈l))/\w=w':=by
 obtain⟨A,C,rfl,m,-,hc,-⟩:=hu.open (z0h _) (by decide)
 have n:=J6 hc;have o:l.length<=17592186044405:=by omega
 obtain⟨G,c⟩:∃ G,decide (v∈l)=G:=⟨_,rfl⟩;have g:=J6 c;rw[c];clear hc hu m c
 go_enter func201,ntmps201
 go_wp2
 go_loop [8] (fun i=>∃ (k:Nat),k<=l.length/\i=J I (k:Int)/\Hid (G=decide (v∈l.drop k))) (fun i=>l.length - (intOf i).toNat)
 case atStart=>exact⟨0,Nat.zero_le _,rfl,by rw[List.drop_zero];exact g.out.symm⟩
 case round =>
  obtain⟨k,y,rfl,d⟩:=hrel
  by_cases a:k<l.length
  ·have p:(k:Int)<(l.length:Int):=by omega
   obtain⟨x,h,hd⟩:=z9M a;obtain⟨q,s,rfl,-,t,hcell⟩:=n.out (by omega)
   have j:l.getD k 0=x:=by simp[List.getD,h]
   have p0:=z3J l k a;rw[j]at p0;have c0:w.cell? ⟨q,s+k,none⟩=some (J I x):=hcell _ _ p0;have b:Hid (G=decide (v∈x :: l.drop (k+1))):=by have:=d.out;rw[hd]at this;exact this
   clear d hd h j p0 hcell
   by_cases h1:v=x
   ·subst h1;have e:G=true:=by rw[b.out];simp
    subst e;clear b g;go_wp2;go_ret;exact⟨⟨_,rfl,by simp⟩,rfl⟩
   ·have f:Hid (G=decide (v∈l.drop (k+1))):=by rw[Hid,b.out];simp[h1]
    clear b;go_wp2
    go_round
    case rel=>exact⟨k+1,by omega,by go_num,f⟩
    case measure=>simp[intOf];omega
  ·obtain rfl:k=l.length:=by omega
   have e:G=false:=by have:=d.out;rw[List.drop_length]at this;simpa using this
   subst e;go_wp2;go_ret;exact⟨⟨_,rfl,by decide⟩,rfl⟩
theorem z9s(l:List Int)(u:Value)(P:Nat->Prop)(w:World)(v:Int)(hu:Rep P w u 1 8 (inC l)) :
  Calls prog 193 #[u,J I v] w fun e w'=>e=.returned (J3 (decide (v∈l)))/\w=w':=by
 have a:=J6 (q4f l u P w v hu);generalize decide (v∈l)=G at *;clear hu
 go_enter func193,ntmps193
 go_wp2_with (go_at_call 201;refine a.out.mono ?_;rintro e w1⟨⟨r,rfl,b⟩,rfl⟩)
 go_ret;subst b;exact⟨rfl,rfl⟩
theorem q8s(ao:Option Addr)(n c:Nat)(a:n<=c)(h0:ao=none->n=0)(hc:(n:Int)<4611686018427387904)(w:World):Calls prog 194 #[J1 ao n c] w fun e w'=>e=.returned (J1 ao n n)/\w=w':=by
 have h1:(n:Int)<=(c:Int):=by omega
 have h2:(0:Int)<=(n:Int):=by omega
 go_enter func194,ntmps194
 cases ao
 ·obtain rfl:=h0 rfl;go_wp2;go_ret;exact⟨rfl,rfl⟩
 ·clear h0;go_wp2;go_ret;exact⟨rfl,rfl⟩
def z5i(w:World)(g:Nat)(l:List Int):Prop:=∃ a:Array Value,w.heap[g]?=some (J5 a 3 (0,0))/\∀ (i:Nat) (x:Int),l[i]?=some x->a[i]?=some (Value.int .i64 x)
theorem z5i.later{w w':World}{g:Nat}{l:List Int}(h:z5i w g l)(hb:Bl w w'):z5i w' g l:=by
 obtain⟨a,hc,b⟩:=h;exact⟨a,(hb.block g (Array.getElem?_eq_some_iff.1 hc).1).trans hc,b⟩
theorem z5i.cell{w:World}{g:Nat}{l:List Int}(h:z5i w g l){i:Nat}(a:i<l.length):w.cell? ⟨g,i,none⟩=some (J I (l.getD i 0)):=by
 obtain⟨b,hc,c⟩:=h;have e:l[i]?=some (l.getD i 0):=by simp[List.getD,a]
 have h1:=c i _ e;simp only[World.cell?,hc]
 simp[h1]
theorem z5i.free{w:World}{g:Nat}{l:List Int}(h:z5i w g l)(o:Nat):w.frozen? ⟨g,o,none⟩=false:=by
 obtain⟨a,hc,_⟩:=h
 simp[World.frozen?,hc]
theorem z5i.lt{w:World}{g:Nat}{l:List Int}(h:z5i w g l):g<w.heap.size:=by
 obtain⟨a,hc,_⟩:=h;exact (Array.getElem?_eq_some_iff.1 hc).1
theorem z5i.put{w:World}{g:Nat}{l:List Int}(h:z5i w g l){i:Nat}(d:i<l.length)(x:Int):z5i (w.setCell ⟨g,i,none⟩ (J I x)) g (l.set i x):=by
 obtain⟨b,hc,e⟩:=h;have f:i<b.size:=(Array.getElem?_eq_some_iff.1 (e i _ (List.getElem?_eq_getElem d))).1;refine⟨b.setIfInBounds i (J I x),?_,fun j y a=>?_⟩
 ·simp[World.setCell,Array.getElem?_modify,hc]
 ·rw[List.getElem?_set]at a
  by_cases c:i=j
  ·subst c;rw[if_pos rfl,if_pos d]at a
   simp at a
   subst a
   simp[f]
  ·rw[if_neg c]at a;have h1:=e j y a;simp only[Array.getElem?_setIfInBounds];rw[if_neg c];exact h1
theorem z5i.rep{w:World}{g C:Nat}{l:List Int}(h:z5i w g l)(c:l.length<=C)(d:l.length * 8<=140737488351232):Rep (fun b=>b=g) w (J1 (some ⟨g,0,none⟩) l.length C) 1 8 (inC l):=by
 refine⟨_,l.length,C,rfl,by simp[inC],d,⟨fun e=>(by cases e),c⟩,fun h0=>⟨g,0,rfl,rfl,h.lt,fun j u hu=>?_⟩⟩
 have a:j<l.length:=by have:=(List.getElem?_eq_some_iff.1 hu).1;rw[z0h]at this;omega
 rw[Nat.zero_add,h.cell a,<- hu,z3J l j a]
theorem q8O(x y:Int)(w:World):Calls prog 210 #[J I x,J I y] w fun e w'=>e=.returned (J3 (decide (x<y)))/\w=w':=by
 go_enter func210,ntmps210
 by_cases h:x<y
 ·go_wp2_with (go_at_call 185;refine (z7n _ _).mono ?_;rintro e w1⟨rfl,rfl⟩)
  all_goals (go_ret;exact⟨by simp[h],rfl⟩)
 ·go_wp2_with (go_at_call 185;refine (z7n _ _).mono ?_;rintro e w1⟨rfl,rfl⟩)
  all_goals (go_ret;exact⟨by simp,rfl⟩)
theorem j1h(g cap:Nat)(l:List Int)(w:World)(h:z5i w g l)(hn:l.length<=12) :
  Calls prog 204 #[J1 (some ⟨g,0,none⟩) l.length cap,J I 0,J I (l.length:Int)] w fun e w'=>e=.returned (.tuple #[])/\z5i w' g (z4X l)/\z2M g w w':=by
 have x:=J6 h;clear h
 go_enter func204,ntmps204
 go_wp2
 go_loopw [6] (fun i wl=>∃ m:Nat,i=J I ((m:Int)+1)/\(m+1<=l.length∨m=0)/\Hid (z5i wl g (q4Q l m)/\z2M g w wl)) (fun i _=>l.length - (intOf i).toNat)
 case atStart=>exact⟨0,rfl,.inr rfl,x.out,z2M.refl _ _⟩
 case round =>
  obtain⟨m,rfl,R,y⟩:=hrel
  by_cases S:m+1<l.length
  ·rename World=>wo
   have G:(m:Int)+1<(l.length:Int):=by omega
   go_wp2_with fail
   go_loopw [7] (fun j wl=>∃ (p:Nat) (a:List Int),j=J I (p:Int)/\p<=m+1/\a.length=l.length/\Hid (q9s (m+1) (q4Q l m)=q9s p a/\z5i wl g a/\z2M g w wl)) (fun j _=>(intOf j).toNat)
   case atStart=>exact⟨m+1,q4Q l m,by go_num,Nat.le_refl _,z5a _ _,rfl,y.out⟩
   case round =>
    obtain⟨p,a,rfl,hp,z,c⟩:=hrel;have T:w.heap.size<=wr.heap.size:=c.out.2.2.size;cases p with
    | zero =>
     have C:decide ((0:Int)<0)=false:=by decide
     go_upto_region 4 with fail
     go_quiet (fail);go_wp2;go_roundw
     case rel=>exact⟨m+1,by go_num,.inl (by omega),(by rw[q4Q,c.out.1];exact c.out.2.1),(show z2M g w (wr.drewN nq) from c.out.2.2.drewN nq)⟩
     case measure=>simp[intOf];omega
    | succ p =>
     have k:p+1<a.length:=by omega
     have c0:=c.out.2.1.cell (i:=p+1) k;have H:=c.out.2.1.cell (i:=p) (by omega)
     have K:=q8O (a.getD (p+1) 0) (a.getD p 0);have U:=c.out.2.1.lt;have n:Hid (q9s (m+1) (q4Q l m)=if a.getD (p+1) 0<a.getD p 0 then q9s p (swI a p) else a):=c.out.1;have b:=J6 c.out.2;clear c;generalize L:a.getD (p+1) 0=A at *;generalize M:a.getD p 0=B at *;have V:=J6 L;have W:=J6 M;clear L M;have X:IntKind.i64.wrap (((p+1:Nat):Int) - 1)=(p:Int):=by rw[show ((p+1:Nat):Int) - 1=(p:Int) by omega];exact z7l (by omega) (by omega)
     generalize N:p+1=q at *;have f:=J6 N;clear N;have Y:(0:Int)<=(q:Int):=by omega
     have Z:(q:Int)<(l.length:Int):=by omega
     have a0:(0:Int)<=(p:Int):=by omega
     have a1:(p:Int)<(l.length:Int):=by have:=f.out;omega
     have C:decide (0<q)=true:=by have:=f.out;simp;omega
     go_upto_region 4 with fail
     go_region_held3 (fun P=>P.cell? ⟨g,q,none⟩=some (J I A)/\P.cell? ⟨g,p,none⟩=some (J I B)) (first | go_keep | exact⟨c0,H⟩)
      (first | (go_at_call 210;refine (K _).mono ?_;rintro e w1⟨rfl,rfl⟩))
     rename_i hh;obtain⟨a2,a3⟩:=hh;have d:=b.out.1.later (w':=wr.drew) (show Bl wr wr.drew from (Below.refl _ wr).drew);have o:z2M g w wr.drew:=b.out.2.trans (z2M.of_below (show Bl wr wr.drew from (Below.refl _ wr).drew));generalize wr.drew=w1 at *;have r:=J6 d;have s:=J6 o;have f0:=d.free q;have f2:=d.free p;clear d o c0 H b K
     by_cases v:A<B
     ·have hd:decide (A<B)=true:=by simpa using v
      rw[hd];have D:=f.out;have n1:¬ p=q:=by omega
      have n2:¬ q=p:=by omega
      clear D
      go_upto_region 6 with fail
      go_region;have t:(a.set q B).set p A=swI a p:=by rw[swI,f.out,V.out,W.out]
      have E:Hid (z5i (((w1.setCell ⟨g,q,none⟩ (J I B)).setCell ⟨g,p,none⟩ (J I A)).drew) g (swI a p)):=by
       rw[<- t];exact (r.out.put k B).put (by simp;omega) A
      have F:Hid (z2M g w (((w1.setCell ⟨g,q,none⟩ (J I B)).setCell ⟨g,p,none⟩ (J I A)).drew)):=((s.out.set _ _).set _ _).drew;have u:Hid (q9s (m+1) (q4Q l m)=q9s p (swI a p)):=by rw[n.out];exact if_pos v
      clear t;generalize ((w1.setCell ⟨g,q,none⟩ (J I B)).setCell ⟨g,p,none⟩ (J I A)).drew=w2 at *;go_wp2;go_roundw
      case rel=>exact⟨p,swI a p,rfl,by have:=f.out;omega,(by rw[z8J];exact z),u.out,E.out,F.out⟩
      case measure=>have:=f.out;simp[intOf];omega
     ·have hd:decide (A<B)=false:=by simpa using v
      rw[hd];have u:Hid (q9s (m+1) (q4Q l m)=a):=by rw[n.out];exact if_neg v
      go_wp2;go_roundw
      case rel=>exact⟨m+1,by go_num,.inl (by omega),(by rw[q4Q,u.out];exact r.out),s.out⟩
      case measure=>simp[intOf];omega
  ·have Q:z4X l=q4Q l m:=by
    unfold z4X
    rcases R with h | rfl
    ·rw[show l.length - 1=m by omega]
    ·rcases (show l.length=0∨l.length=1 by omega) with h | h <;> rw[h]
   have u:=J6 Q;clear Q;go_wp2;go_end0;exact⟨rfl,by rw[u.out];exact y.out.1,y.out.2⟩
theorem j1Q(g cap:Nat)(c:Int)(l:List Int)(w:World)(h:z5i w g l)(f:l.length<=12) :
  Calls prog 202 #[J1 (some ⟨g,0,none⟩) l.length cap,J I 0,J I (l.length:Int),J I c] w fun e w'=>e=.returned (.tuple #[])/\z5i w' g (z4X l)/\z2M g w w':=by
 have i:=j1h g cap l w h f;have j:(l.length:Int)<=12:=by omega
 clear h
 go_enter func202,ntmps202
 go_wp2_with fail
 go_loopw [1,2] (fun a b wl=>a=J I 0/\b=J I (l.length:Int)/\Hid (wl=w)) (fun _ _ _=>0)
 case atStart=>exact⟨rfl,rfl,rfl⟩
 case round =>
  obtain⟨rfl,rfl,d⟩:=hrel;have e:=d.out;subst e;clear d
  go_wp2_with (go_at_call 204;refine i.mono ?_;rintro e w1⟨rfl,h1⟩;have k:=J6 h1;clear h1)
  exact bodyPost_ret (v:=.tuple #[]) (by simp[results,results202]) rfl ⟨rfl,k.out⟩
theorem q6n(n:Nat)(b:n<=12)(w:World):Calls prog 154 #[.int .u64 (n:Int)] w fun e w'=>(∃ k,e=.returned (J I k))/\w=w':=by
 have a:=Ra.j1Y n (by omega)
 go_enter func154,ntmps154
 go_wp2_with (go_at_call 184;refine (a _).mono ?_;rintro e w1⟨rfl,rfl⟩)
 go_ret;exact⟨⟨_,rfl⟩,rfl⟩
theorem q7f(g cap:Nat)(l:List Int)(w:World)(h:z5i w g l)(b:l.length<=12) :
  Calls prog 195 #[J1 (some ⟨g,0,none⟩) l.length cap] w fun e w'=>e=.returned (.tuple #[])/\z5i w' g (z4X l)/\z2M g w w':=by
 have c:=fun a=>j1Q g cap a l w h b;have d:=q6n l.length b w;clear h
 go_enter func195,ntmps195
 go_wp2_with (first
  | (go_at_call 154;refine d.mono ?_;rintro e w1⟨⟨k,rfl⟩,rfl⟩)
  | (go_at_call 202;refine (c _).mono ?_;rintro e i⟨rfl,h1⟩;have f:=J6 h1;clear h1))
 go_end0;exact⟨rfl,f.out⟩
end Pv
section
theorem swap_perm:∀ (l:List Pw) (p:Nat),p+1<l.length->(swapAt l p).Perm l
 | [],_,h=>by simp at h
 | [_],_,h=>by simp at h
 | a :: b :: t,0,_=>by
  have e:swapAt (a :: b :: t) 0=b :: a :: t:=by simp[swapAt]
  rw[e];exact List.Perm.swap a b t
 | a :: b :: t,p+1,h=>by
  have e:swapAt (a :: b :: t) (p+1)=a :: swapAt (b :: t) p:=by simp[swapAt]
  rw[e];exact (swap_perm (b :: t) p (by simp at h ⊢;omega)).cons a
theorem q8L(l:List Pw)(p:Nat)(h:p+1<l.length)(i:Nat):(swapAt l p).getD i pz=if i=p then l.getD (p+1) pz else if i=p+1 then l.getD p pz else l.getD i pz:=by
 unfold swapAt;simp only[List.getD_eq_getElem?_getD,List.getElem?_set,List.length_set]
 by_cases h1:i=p
 ·subst h1;simp[show i<l.length by omega]
 ·by_cases h2:i=p+1
  ·subst h2;simp[h]
  ·rw[if_neg (by omega),if_neg (by omega),if_neg h1,if_neg h2]
def Srt(lt:Pw->Pw->Bool)(l:List Pw)(m:Nat):Prop:=∀ i j,i<j->j<m->lt (l.getD j pz) (l.getD i pz)=false
structure Ord(lt:Pw->Pw->Bool):Prop where
 asym:∀ a b,lt a b=true->lt b a=false
 trans:∀ a b c,lt b a=false->lt c b=false->lt c a=false
theorem q6o{lt:Pw->Pw->Bool}(o:Ord lt):∀ (p:Nat) (l:List Pw) (m:Nat),p<m->m<=l.length->(∀ i j,i<j->j<m->j≠p->lt (l.getD j pz) (l.getD i pz)=false)->Srt lt (z7O lt p l) m
 | 0,l,m,_,_,h=>fun i j a c=>h i j a c (by omega)
 | p+1,l,m,hp,hm,h=>by
  rw[z7O]
  split
  ·rename_i hlt;refine q6o o p _ m (by omega) (by rw[z3c];exact hm) fun i j a c d=>?_
   have e:=q8L l p (by omega)
   rw[e j,e i]
   by_cases h1:j=p+1
   ·subst h1;rw[if_neg (by omega),if_pos rfl]
    by_cases h2:i=p
    ·subst h2;rw[if_pos rfl];exact o.asym _ _ hlt
    ·rw[if_neg h2,if_neg (by omega)];exact h i p (by omega) (by omega) (by omega)
   ·rw[if_neg d,if_neg h1]
    by_cases h2:i=p
    ·subst h2;rw[if_pos rfl];exact h _ j (by omega) c h1
    ·rw[if_neg h2]
     by_cases h3:i=p+1
     ·subst h3;rw[if_pos rfl];exact h p j (by omega) c h1
     ·rw[if_neg h3];exact h i j a c h1
  ·rename_i hlt;have b:lt (l.getD (p+1) pz) (l.getD p pz)=false:=by simpa using hlt
   intro i j a c
   by_cases h1:j=p+1
   ·subst h1
    by_cases h2:i=p
    ·subst h2;exact b
    ·exact o.trans _ _ _ (h i p (by omega) (by omega) (by omega)) b
   ·exact h i j a c h1
theorem q3u(lt:Pw->Pw->Bool):∀ (p:Nat) (l:List Pw),p<l.length->(z7O lt p l).Perm l
 | 0,_,_=>List.Perm.refl _
 | p+1,l,h=>by
  rw[z7O]
  split
  ·exact (q3u lt p _ (by rw[z3c];omega)).trans (swap_perm l p h)
  ·exact List.Perm.refl _
theorem z9i{lt:Pw->Pw->Bool}(o:Ord lt)(l:List Pw):∀ k,k<l.length->Srt lt (z1n lt l k) (k+1)
 | 0,_=>fun i j a b=>by omega
 | k+1,h=>by
  rw[z1n];exact q6o o (k+1) _ (k+2) (by omega) (by rw[z1O];omega) fun i j a b c=>z9i o l k (by omega) i j a (by omega)
theorem z7E(lt:Pw->Pw->Bool)(l:List Pw):∀ k,k<l.length->(z1n lt l k).Perm l
 | 0,_=>List.Perm.refl _
 | k+1,h=>by
  rw[z1n];exact (q3u lt (k+1) _ (by rw[z1O];exact h)).trans (z7E lt l k (by omega))
theorem z3I(lt:Pw->Pw->Bool)(l:List Pw):(z2s lt l).Perm l:=by
 unfold z2s
 rcases Nat.eq_zero_or_pos l.length with h | h
 ·rw[h];exact List.Perm.refl _
 ·exact z7E lt l _ (by omega)
theorem q8E{lt:Pw->Pw->Bool}(o:Ord lt)(l:List Pw):Srt lt (z2s lt l) l.length:=by
 unfold z2s
 rcases Nat.eq_zero_or_pos l.length with h | h
 ·intro i j a b;omega
 ·have:=z9i o l (l.length - 1) (by omega)
  rwa [show l.length - 1+1=l.length by omega]at this
theorem q7d(a b:Pw):ltV a b=true↔a.1<b.1:=by
 unfold ltV j1H j1F;rw[decide_eq_true_eq]
 split
 ·simp_all
 ·split <;> simp_all <;> omega
theorem q8K(a b:Pw):ltV a b=false↔¬ a.1<b.1:=by rw[<- q7d,Bool.not_eq_true]
theorem j8F:Ord ltV:=⟨fun a b h=>by rw[q8K];rw[q7d]at h;omega,fun a b c h1 h2=>by rw[q8K]at *;omega⟩
theorem z9B(V:Nat->Vd)(x:Pw):∀ k,x∈z4L V k↔∃ i:Nat,i<k/\x=((i:Int),pwr (V i))/\0<pwr (V i)/\(V i).jail=false
 | 0=>by simp[z4L]
 | k+1=>by
  rw[z4L];have b:=z9B V x k
  split
  ·rename_i h;simp only[Bool.and_eq_true,decide_eq_true_eq,Bool.not_eq_true']at h;rw[List.mem_append,b,List.mem_singleton]
   constructor
   ·rintro (⟨i,a,h1⟩ | rfl)
    ·exact⟨i,by omega,h1⟩
    ·exact⟨k,by omega,rfl,h.1,h.2⟩
   ·rintro⟨i,a,h1⟩
    rcases Nat.lt_or_ge i k with h2 | h2
    ·exact .inl ⟨i,h2,h1⟩
    ·obtain rfl:i=k:=by omega
     exact .inr h1.1
  ·rename_i h;simp only[Bool.and_eq_true,decide_eq_true_eq,Bool.not_eq_true']at h;rw[b]
   constructor
   ·rintro⟨i,a,h1⟩;exact⟨i,by omega,h1⟩
   ·rintro⟨i,a,h1⟩
    rcases Nat.lt_or_ge i k with h2 | h2
    ·exact⟨i,h2,h1⟩
    ·obtain rfl:i=k:=by omega
     exact absurd h1.2 h
theorem z5U(V:Nat->Vd):∀ k,(z4L V k).Pairwise (fun a b=>a.1≠b.1)
 | 0=>List.Pairwise.nil
 | k+1=>by
  rw[z4L]
  split
  ·rw[List.pairwise_append];refine⟨z5U V k,List.pairwise_singleton _ _,fun a c b hb=>?_⟩;rw[z9B]at c;obtain⟨i,d,rfl,_⟩:=c;rw[List.mem_singleton]at hb;subst hb
   show (i:Int)≠(k:Int)
   omega
  ·exact z5U V k
theorem j4E(V:Nat->Vd)(x:Pw):x∈z7M V↔x∈(z2s ltP (z4L V 6)).take 4:=(z3I _ _).mem_iff
theorem j5Q(V:Nat->Vd)(x:Pw)(h:x∈z7M V):∃ i:Nat,i<6/\x=((i:Int),pwr (V i))/\0<pwr (V i)/\(V i).jail=false:=by
 rw[j4E]at h;exact (z9B V x 6).1 ((z3I _ _).mem_iff.1 (List.mem_of_mem_take h))
end
end Go.Proofs.YtddlhnoedldidaaGreat
