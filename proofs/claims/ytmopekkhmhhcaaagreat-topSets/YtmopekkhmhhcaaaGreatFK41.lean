/- Parts of the proof. -/
import Derived.Test.YtmopekkhmhhcaaaGreatFL
import Derived.Test.YtmopekkhmhhcaaaGreatFK16
set_option maxRecDepth 100000
set_option maxHeartbeats 16000000
namespace Go.Proofs.YtmopekkhmhhcaaaGreat
open Go.Proofs.Tryz
namespace Pv
open Go.RowKit
theorem z5Q(p:Pr)(v:PrV)(k:Nat)(hk:k<2):∃ a c:List Value,a.length=66+k * 14/\prC p v=(a ++ (lkL (p.L k) (v.l k) ++ c)).toArray/\∀ x u,prC { p with L:=z0Q p.L k x } (v.upd k u)=(a ++ (lkL x u ++ c)).toArray:=by
 have h0:([.int .i64 p.h,.int .i64 p.t] ++ ((stC p.s v.ws).toList ++ [v.set]):List Value).length=66:=by simp[z0g]
 match k,hk with
 | 0,_ =>
  refine⟨[.int .i64 p.h,.int .i64 p.t] ++ ((stC p.s v.ws).toList ++ [v.set]),lkL (p.L 1) (v.l 1) ++ [.int .i64 p.ml,.int .i64 p.mn,v.q],h0,?_,fun x u=>?_⟩
  ·simp[prC]
  ·simp[prC,PrV.upd,z0Q]
 | 1,_ =>
  refine⟨[.int .i64 p.h,.int .i64 p.t] ++ ((stC p.s v.ws).toList ++ [v.set]) ++ lkL (p.L 0) (v.l 0),[.int .i64 p.ml,.int .i64 p.mn,v.q],?_,?_,fun x u=>?_⟩
  ·rw[List.length_append,h0];rfl
  ·simp[prC]
  ·simp[prC,PrV.upd,z0Q]
theorem upd_same(v:PrV)(k:Nat):v.upd k (v.l k)=v:=by
 unfold PrV.upd;have:(fun i=>if i=k then v.l k else v.l i)=v.l:=by funext i;by_cases h:i=k <;> simp[h]
 rw[this]
theorem q3V{p:Pr}{v:PrV}(k:Nat)(hk:k<2)(j:Nat)(y:Value)(x:Lk)(u:LkV)(hj:j<14)(h:lkL x u=(lkL (p.L k) (v.l k)).set j y):(prC p v).setIfInBounds (66+k * 14+j) y=prC { p with L:=z0Q p.L k x } (v.upd k u):=by
 obtain⟨a,c,ha,h1,h2⟩:=z5Q p v k hk;rw[h1,h2,set_mid _ _ _ _ _ _ ha (by exact hj),h]
def frL(L:Nat->Lk)(k:Nat):Nat->Lk:=fun c=>if c<k then z1q L c else L c
theorem j7o{L:Nat->Lk}{k:Nat}(h:(L k).on=false):frL L (k+1)=frL L k:=by
 funext c
 unfold frL z1q
 by_cases h1:c<k
 ·rw[if_pos h1,if_pos (by omega)]
 ·by_cases h2:c=k
  ·subst h2;rw[if_neg h1,if_pos (by omega),if_neg (by simp[h])]
  ·rw[if_neg h1,if_neg (by omega)]
theorem j9x{L:Nat->Lk}{k:Nat}(h:(L k).on=true):z0Q (frL L k) k { L k with fresh:=true }=frL L (k+1):=by
 funext c
 show (if c=k then _ else (if c<k then z1q L c else L c))=(if c<k+1 then z1q L c else L c)
 by_cases h2:c=k
 ·subst h2;rw[if_pos rfl,if_pos (by omega)]
  show _=(if (L c).on=true then _ else _)
  rw[if_pos h]
 ·rw[if_neg h2]
  by_cases h1:c<k
  ·rw[if_pos h1,if_pos (by omega)]
  ·rw[if_neg h1,if_neg (by omega)]
theorem j3X{L:Nat->Lk}{k:Nat}:frL L k k=L k:=if_neg (Nat.lt_irrefl k)
theorem j5Y(p:Pr)(s:St)(v:PrV):prC { p with s:=s,L:=frL p.L 2 } v=prC { p with s:=s,L:=z1q p.L } v:=rfl
def hk0(p:Pr)(k:Nat):Int:=if 0<k then z3e p 0 else 0
def hk1(p:Pr)(k:Nat):Int:=if 1<k then z3e p 1 else 0
def YC(w:World)(y:Nat)(h d a b:Int):Prop:=CAt 82 w y #[.int .i64 0,.int .i64 0,.int .i64 0,.int .i64 0,.int .i64 h,.int .i64 d,.int .i64 a,.int .i64 b]
theorem YC.hold{w:World}{y k:Nat}{a b:Int}{p:Pr}(h:YC w y a b (hk0 p k) (hk1 p k))(hk:k<2)(hon:(p.L k).on=true):YC (w.setCell ⟨y,6+k,none⟩ (.int .i64 (p.h+1))) y a b (hk0 p (k+1)) (hk1 p (k+1)):=by
 have:=CAt.set h (6+k) (.int .i64 (p.h+1))
 match k,hk with
 | 0,_=>simpa [YC,hk0,hk1,z3e,hon] using this
 | 1,_=>simpa [YC,hk0,hk1,z3e,hon] using this
theorem YC.skip{w:World}{y k:Nat}{a b:Int}{p:Pr}(h:YC w y a b (hk0 p k) (hk1 p k))(hk:k<2)(hoff:(p.L k).on=false):YC w y a b (hk0 p (k+1)) (hk1 p (k+1)):=by
 match k,hk with
 | 0,_=>simpa [YC,hk0,hk1,z3e,hoff] using h
 | 1,_=>simpa [YC,hk0,hk1,z3e,hoff] using h
theorem YC.at{w:World}{y k:Nat}{a b c d:Int}(h:YC w y a b c d)(hk:k<2):∃ e:Int,w.cell? ⟨y,6+k,none⟩=some (.int .i64 e):=by
 match k,hk with
 | 0,_=>exact⟨c,CAt.cell h 6⟩
 | 1,_=>exact⟨d,CAt.cell h 7⟩
attribute [local go_sem ↓] z1K z0K z0q z1y
theorem q5D(p:Pr)(v:PrV)(P:Nat->Prop)(w:World)(d x n now:Int)(hp:PIn P w p v) :
  Calls prog 63 #[.agg (prC p v),.int .i64 d,.int .i64 x,.int .i64 n,.int .i64 now] w (j4r P w (z1J p d x n now)):=by
 have hD:z1J p d x n now=if z0x p=true/\isT now=true then if (z0V p.s d x n (q1m p now)).2=0 then ({ p with s:=(z0V p.s d x n (q1m p now)).1,L:=z1q p.L },0) else (p,(z0V p.s d x n (q1m p now)).2) else (p,2):=rfl
 generalize z1J p d x n now=D at *;have HD:=hide hD;clear hD;have hone:=z1c hp;have HGD:=hide (fun (wx:World) (hb:Below w.heap.size w wx)=>z3m p v P wx (hp.over hb));have HN:=hide (fun (wx:World) (hb:Below w.heap.size w wx)=>hp.z2T hb 2);have HU:=hide (fun (wx:World) (hb:Below w.heap.size w wx)=>j3B ((hp.ws.mono (P':=fun b=>P b/\b<w.heap.size) fun _ hl hP=>⟨hP,hl⟩).over hb) d x n (q1m p now));have HP:=hide hp;clear hp
 have HGH:Hid (z0x p=true->0<=p.h/\p.h<=1099511627775):=fun h=>by
  unfold z0x at h;simp only[Bool.and_eq_true,decide_eq_true_eq]at h;exact⟨h.1.1.1.1.1.1.2,h.1.1.1.1.1.2⟩
 have HTI:Hid (isT now=true->0<=now/\now<=1099511627776):=fun h=>by
  unfold isT at h;simp only[Bool.and_eq_true,decide_eq_true_eq]at h;exact h
 generalize z0x p=G at *
 go_enter func63,ntmps63
 go_upto_region 1 with fail
 change Code.wp prog _ _ _ ((w.alloc (.cells (prC p v) 57)).alloc (.cells zeroCells57 57));have C0:CAt 57 ((w.alloc (.cells (prC p v) 57)).alloc (.cells zeroCells57 57)) w.heap.size (prC p v):=(CAt.new _ w _).alloc _;have R0:CAt 57 ((w.alloc (.cells (prC p v) 57)).alloc (.cells zeroCells57 57)) (w.heap.size+1) zeroCells57:=CAt.new2 _ w _ _;have B0:Below w.heap.size w ((w.alloc (.cells (prC p v) 57)).alloc (.cells zeroCells57 57)):=(znw w _).alloc (by simp) _
 generalize (w.alloc (.cells (prC p v) 57)).alloc (.cells zeroCells57 57)=w0 at *;have l0:=z0k C0 (z0a _ _);have H0:=hide (show _/\_/\_ from⟨C0,R0,B0⟩);clear C0 R0 B0
 by_cases hok:G=true/\isT now=true
 ·obtain⟨rfl,hti⟩:=hok;replace HD:=hide (HD.out.trans (if_pos ⟨rfl,hti⟩));obtain⟨hh0,hh1⟩:=HGH.out rfl;obtain⟨ht0,ht1⟩:=HTI.out hti;have hh2:p.h<=1099511627776:=by omega
  clear HGH HTI
  go_upto_region 3 with (first
   | (go_at_call 74;refine (HGD.out _ H0.out.2.2).mono ?_;rintro e w1⟨rfl,hb1⟩;clear l0)
   | (go_at_call 76;refine (z3V _ _).mono ?_;rintro e w'⟨rfl,rfl⟩))
  have C1:=H0.out.1.over hb1;have R1:=H0.out.2.1.over hb1;have B1:=zbt H0.out.2.2 hb1;have HOP:=hide (z7Q w.heap.size p v w1 C1 hh0 hh2);have H1:=hide (show _/\_/\_ from⟨C1,R1,B1⟩);have hz1:=R1.lt;clear C1 R1 B1 hb1 H0 HGD
  go_upto_region 4 with (go_at_call 77;refine HOP.out.mono ?_;rintro e w'⟨rfl,rfl⟩)
  have Y2:YC (w1.alloc (.cells #[.int .i64 0,.int .i64 0,.int .i64 0,.int .i64 0,.int .i64 (p.h+1),.int .i64 (now+20),.int .i64 0,.int .i64 0] 82)) w1.heap.size (p.h+1) (now+20) 0 0:=CAt.new _ w1 _;have b2:Below w1.heap.size w1 (w1.alloc (.cells #[.int .i64 0,.int .i64 0,.int .i64 0,.int .i64 0,.int .i64 (p.h+1),.int .i64 (now+20),.int .i64 0,.int .i64 0] 82)):=znw w1 _;have C2:=H1.out.1.over b2;have R2:=H1.out.2.1.over b2;have B2:=zbt H1.out.2.2 b2;clear b2 H1 HOP;generalize w1.alloc (.cells #[.int .i64 0,.int .i64 0,.int .i64 0,.int .i64 0,.int .i64 (p.h+1),.int .i64 (now+20),.int .i64 0,.int .i64 0] 82)=w2 at *;generalize w1.heap.size=yb at *;have hz2:=CAt.lt Y2;have H2:=hide (show _/\_/\_/\_ from⟨Y2,C2,R2,B2⟩);clear Y2 C2 R2 B2
  go_upto_region 5 with fail
  go_loopw [31] (fun i wl=>∃ (k:Nat),k<=2/\i=.int .i64 (k:Int)/\Hid (YC wl yb (p.h+1) (now+20) (hk0 p k) (hk1 p k)/\Alt yb w2 wl)) (fun i _=>(2 - intOf i).toNat)
  case atStart=>exact⟨0,by omega,rfl,H2.out.1,Alt.refl _ _⟩
  case round =>
   obtain⟨k,hk,rfl,HR⟩:=hrel
   by_cases hk2:k<2
   ·have hkk:(k:Int)<2:=by omega
    have hkz:(0:Int)<=(k:Int):=by omega
    have o1:wr.cell? ⟨w.heap.size,66+k * 14,none⟩=some (.bool (p.L k).on):=(CAt.lk (HR.out.2.cat (by omega) H2.out.2.1) hk2).facts.1
    obtain⟨e6,c6⟩:=HR.out.1.at hk2;have f6:=CAt.free HR.out.1 (6+k);have c4:wr.cell? ⟨yb,4,none⟩=some (.int .i64 (p.h+1)):=CAt.cell HR.out.1 4;have hzr:=CAt.lt HR.out.1;cases hon:(p.L k).on
    ·rw[hon]at o1;have HF:=hide (show _/\_ from⟨HR.out.1.skip hk2 hon,HR.out.2⟩);clear HR;go_wp2
     first | exact⟨⟨k+1,by omega,by go_num,HF⟩,by simp[intOf];omega⟩ | ((repeat apply Exists.intro);exact⟨⟨k+1,by omega,by go_num,HF⟩,rfl⟩)
    ·rw[hon]at o1;have HF:=hide (show _/\_ from⟨HR.out.1.hold hk2 hon,HR.out.2.set (6+k) (.int .i64 (p.h+1))⟩);clear HR
     go_upto_region 9 with fail
     generalize wr.setCell ⟨yb,6+k,none⟩ (.int .i64 (p.h+1))=w3 at *;clear o1 c6 f6 c4;go_wp2
     first | exact⟨⟨k+1,by omega,by go_num,HF⟩,by simp[intOf];omega⟩ | ((repeat apply Exists.intro);exact⟨⟨k+1,by omega,by go_num,HF⟩,rfl⟩)
   ·obtain rfl:k=2:=by omega
    have Y4:YC wr yb (p.h+1) (now+20) (z3e p 0) (z3e p 1):=HR.out.1;have A4:=HR.out.2;have C4:=A4.cat (b:=w.heap.size) (by omega) H2.out.2.1
    have R4:=A4.cat (b:=w.heap.size+1) (by omega) H2.out.2.2.1
    have B4:=H2.out.2.2.2.trans (A4.below (by omega) H2.out.2.2.2.size)
    have m4:=z2p C4;have y0:wr.cell? ⟨yb,0,none⟩=some (.int .i64 0):=CAt.cell Y4 0;have y1:wr.cell? ⟨yb,1,none⟩=some (.int .i64 0):=CAt.cell Y4 1;have y2:wr.cell? ⟨yb,2,none⟩=some (.int .i64 0):=CAt.cell Y4 2;have y3:wr.cell? ⟨yb,3,none⟩=some (.int .i64 0):=CAt.cell Y4 3;have y4:wr.cell? ⟨yb,4,none⟩=some (.int .i64 (p.h+1)):=CAt.cell Y4 4;have y5:wr.cell? ⟨yb,5,none⟩=some (.int .i64 (now+20)):=CAt.cell Y4 5;have y6:wr.cell? ⟨yb,6,none⟩=some (.int .i64 (z3e p 0)):=CAt.cell Y4 6;have y7:wr.cell? ⟨yb,7,none⟩=some (.int .i64 (z3e p 1)):=CAt.cell Y4 7;have hz4:=CAt.lt Y4;have hu:=HU.out wr B4;have HUN:=hide hu;have H4:=hide (show _/\_/\_ from⟨C4,R4,B4⟩);clear Y4 A4 C4 R4 B4 HR H2 hu HU;have HNW:Hid (q1m p now=⟨0,0,0,0,p.h+1,now+20,z3e p 0,z3e p 1⟩):=rfl;rw[HNW.out]at HUN HD;dsimp only at HUN;generalize z3e p 0=ho0 at *;generalize z3e p 1=ho1 at *;generalize z0V p.s d x n ⟨0,0,0,0,p.h+1,now+20,ho0,ho1⟩=r at *;obtain⟨s',er⟩:=r;dsimp only at HUN HD;clear HNW
    go_upto_region 11 with (go_at_call 78;refine HUN.out.mono ?_;rintro e w5⟨A5,m5,D5,rfl,U5,hb5⟩;clear m4;have sS5:=z7Y (CAt.new 43 w5 Z63) rfl (z0g s' (.slice A5 m5 D5)) (z0C _ _ _ _);unfold Z63 at sS5)
    change Code.wp prog _ _ _ ((w5.alloc (.cells Z63 43)).setCells w5.heap.size 0 (stC s' (.slice A5 m5 D5)).toList);have bS:Below w5.heap.size w5 ((w5.alloc (.cells Z63 43)).setCells w5.heap.size 0 (stC s' (.slice A5 m5 D5)).toList):=z0b (Nat.le_refl _) _ _ _ (znw w5 _);have T6:CAt 43 ((w5.alloc (.cells Z63 43)).setCells w5.heap.size 0 (stC s' (.slice A5 m5 D5)).toList) w5.heap.size (stC s' (.slice A5 m5 D5)):=(CAt.new 43 w5 Z63).z0H rfl;have b6:=zbt hb5 bS;have C6:=H4.out.1.over b6;have R6:=H4.out.2.1.over b6;have B6:=zbt H4.out.2.2 b6;have U6:er=0->Rep (fun b=>New (fun b=>P b/\b<w.heap.size) wr 0 b/\b<w5.heap.size) _ (.slice A5 m5 D5) 8 64 (wsL s'.W):=fun h=>((U5 h).mono (P':=fun b=>New (fun b=>P b/\b<w.heap.size) wr 0 b/\b<w5.heap.size) fun b hl hb=>⟨hb,hl⟩).over bS;have hs5:=hb5.size;clear sS5 hb5 bS b6 U5 HUN H4 y0 y1 y2 y3 y4 y5 y6 y7;generalize (w5.alloc (.cells Z63 43)).setCells w5.heap.size 0 (stC s' (.slice A5 m5 D5)).toList=w6 at *;generalize w5.heap.size=tb at *;have hzt:=T6.lt
    by_cases he:er=0
    ·subst he;have HR:=hide (HD.out.trans (if_pos rfl));have mS:=z7v T6 (z0g _ _);have sS:=z2Z C6 (z0a _ _) (z0g s' (.slice A5 m5 D5)) (z0C _ _ _ _);have C7:=C6.z1l s' (.slice A5 m5 D5);have R7:=R6.others (c:=w.heap.size) (o:=2) (by omega) (stC s' (.slice A5 m5 D5)).toList
     have B7:=z0b (b:=w.heap.size) (Nat.le_refl _) (stC s' (.slice A5 m5 D5)).toList 2 _ B6
     have N7:PIn (New P w 2) (w6.setCells w.heap.size 2 (stC s' (.slice A5 m5 D5)).toList) { p with s:=s',L:=frL p.L 0 } { v with ws:=.slice A5 m5 D5 }:=by
      have h1:=(HN.out _ B6).sets (g:=w.heap.size) (z3P (j:=0) (by omega)) 2 (stC s' (.slice A5 m5 D5)).toList
      have h2:=(U6 rfl).sets (g:=w.heap.size) (fun h=>by
       rcases h.1 with⟨h,_⟩ | h
       ·have:=h.2;omega
       ·omega) 2 (stC s' (.slice A5 m5 D5)).toList
      exact⟨h2.mono fun b _ hb=>by
       rcases hb.1 with⟨h,_⟩ | h
       ·exact .inl h
       ·exact .inr (by omega),h1.set,h1.lk,h1.q⟩
     have C7':CAt 57 (w6.setCells w.heap.size 2 (stC s' (.slice A5 m5 D5)).toList) w.heap.size (prC { p with s:=s',L:=frL p.L 0 } { v with ws:=.slice A5 m5 D5 }):=C7
     have H7:=hide (show _/\_/\_/\_ from⟨C7',R7,B7,N7⟩);have hz7:=R7.lt;clear C6 R6 B6 C7 C7' R7 B7 N7 T6 hone U6
     go_upto_region 15 with fail
     clear mS sS;generalize w6.setCells w.heap.size 2 (stC s' (.slice A5 m5 D5)).toList=w7 at *;generalize ({ v with ws:=.slice A5 m5 D5 }:PrV)=v7 at *
     go_loopw [61] (fun i wl=>∃ (k:Nat),k<=2/\i=.int .i64 (k:Int)/\Hid (CAt 57 wl w.heap.size (prC { p with s:=s',L:=frL p.L k } v7)/\Alt w.heap.size w7 wl)) (fun i _=>(2 - intOf i).toNat)
     case atStart=>exact⟨0,by omega,rfl,H7.out.1,Alt.refl _ _⟩
     case round =>
      obtain⟨k,hk,rfl,HK⟩:=hrel
      by_cases hk3:k<2
      ·have hkk:(k:Int)<2:=by omega
       have hkz:(0:Int)<=(k:Int):=by omega
       have hlk:=CAt.lk HK.out.1 hk3
       have o1:wr.cell? ⟨w.heap.size,66+k * 14,none⟩=some (.bool (p.L k).on):=by
        have:=hlk.facts.1
        rwa [show ({ p with s:=s',L:=frL p.L k }:Pr).L k=p.L k from j3X]at this
       obtain⟨-,-,-,-,o5,-⟩:=hlk.facts;have f5:=HK.out.1.free (66+k * 14+4);have hzr:=HK.out.1.lt;clear hlk;cases hon:(p.L k).on
       ·rw[hon]at o1;have HF:Hid (CAt 57 wr w.heap.size (prC { p with s:=s',L:=frL p.L (k+1) } v7)/\Alt w.heap.size w7 wr):=by rw[j7o hon];exact HK.out
        clear HK;go_wp2
        first | exact⟨⟨k+1,by omega,by go_num,HF⟩,by simp[intOf];omega⟩ | ((repeat apply Exists.intro);exact⟨⟨k+1,by omega,by go_num,HF⟩,rfl⟩)
       ·rw[hon]at o1;have C8:=HK.out.1.set (66+k * 14+4) (.bool true);rw[q3V k hk3 4 (.bool true) { p.L k with fresh:=true } (v7.l k) (by omega) (by rw[show ({ p with s:=s',L:=frL p.L k }:Pr).L k=p.L k from j3X];rfl),upd_same,show z0Q ({ p with s:=s',L:=frL p.L k }:Pr).L k { p.L k with fresh:=true }=frL p.L (k+1) from j9x hon]at C8
        have HF:=hide (show _/\_ from⟨C8,HK.out.2.set (66+k * 14+4) (.bool true)⟩);clear HK C8
        go_upto_region 20 with fail
        generalize wr.setCell ⟨w.heap.size,66+k * 14+4,none⟩ (.bool true)=w8 at *;clear o1 o5 f5;go_wp2
        first | exact⟨⟨k+1,by omega,by go_num,HF⟩,by simp[intOf];omega⟩ | ((repeat apply Exists.intro);exact⟨⟨k+1,by omega,by go_num,HF⟩,rfl⟩)
      ·obtain rfl:k=2:=by omega
       have C9:CAt 57 wr w.heap.size (prC { p with s:=s',L:=z1q p.L } v7):=by rw[← j5Y];exact HK.out.1
       have A9:=HK.out.2;have R9:=A9.cat (b:=w.heap.size+1) (by omega) H7.out.2.1
       have B9:=H7.out.2.2.1.trans (A9.below (Nat.le_refl _) H7.out.2.2.1.size);have N8:=A9.pin (z3P (P:=P) (w:=w) (k:=2) (j:=0) (by omega)) H7.out.2.2.2
       have N9:PIn (New P w 2) wr { p with s:=s',L:=z1q p.L } v7:=⟨N8.ws,N8.set,fun c hc=>by
        have h:=N8.lk c hc
        have e0:({ p with s:=s',L:=frL p.L 0 }:Pr).L c=p.L c:=by
         show (if c<0 then z1q p.L c else p.L c)=p.L c
         exact if_neg (by omega)
        rw[e0]at h
        show z6c _ _ (z1q p.L c) _
        unfold z1q
        split
        ·exact⟨h.told,h.done,h.said,h.due⟩
        ·exact h,N8.q⟩
       have l9:=z0k C9 (z0a _ _);have s9:=z0l R9 z0e (z0a { p with s:=s',L:=z1q p.L } v7) (z1c N9)
       have HZ:=hide (show _/\_/\_ from⟨R9,B9,N9⟩);clear C9 A9 R9 B9 N8 N9 HK H7;go_wp2;exact z0P results63 HZ.out.1 z0e HZ.out.2.1 { p with s:=s',L:=z1q p.L } v7 0 D HR.out HZ.out.2.2 _ rfl rfl rfl
    ·have HR:=hide (HD.out.trans (if_neg he));have l6:=z0k C6 (z0a _ _);have s6:=z0l R6 z0e (z0a p v) hone;have heb:(er != 0)=true:=by simpa using he
     have HZ:=hide (show _/\_ from⟨R6,B6⟩);clear C6 R6 B6 T6 hone U6;go_wp2;exact z0P results63 HZ.out.1 z0e HZ.out.2 p v er D HR.out (HN.out _ HZ.out.2) _ rfl rfl rfl
 ·replace HD:=hide (HD.out.trans (if_neg hok))
  have hcs:G=false∨(G=true/\isT now=false):=by
   cases G
   ·exact .inl rfl
   ·cases h:isT now
    ·exact .inr ⟨rfl,rfl⟩
    ·exact absurd ⟨rfl,h⟩ hok
  clear hok HGH HTI HU
  rcases hcs with rfl | ⟨rfl,h1⟩
  all_goals
   go_upto_region 2 with (first
    | (go_at_call 74;refine (HGD.out _ H0.out.2.2).mono ?_;rintro e w1⟨rfl,hb1⟩;clear l0)
    | (go_at_call 76;refine (z3V _ _).mono ?_;rintro e w'⟨rfl,rfl⟩))
   have R1:=H0.out.2.1.over hb1;have l1:=z0k (H0.out.1.over hb1) (z0a _ _);have s1:=z0l R1 z0e (z0a p v) hone;have B1:=zbt H0.out.2.2 hb1;have HZ:=hide (show _/\_ from⟨R1,B1⟩);clear R1 B1 hb1 hone H0 HGD;go_wp2;exact z0P results63 HZ.out.1 z0e HZ.out.2 p v 2 D HD.out (HN.out _ HZ.out.2) _ rfl rfl rfl
end Pv
namespace Wd
open Go.RowKit Pv Kc
structure WoV where
 p:PrV
 c:Nat->CsV
def WoV.upd(v:WoV)(i:Nat)(u:CsV):WoV:={ v with c:=fun k=>if k=i then u else v.c k }
def hdL(h:Hd):List Value:=[.int .i64 h.h,.int .i64 h.t,.int .i64 h.s,.int .i64 h.g]
def wdC(x:Wo)(v:WoV):Array Value:=(([.int .i64 x.ck,.int .i64 x.dn]:List Value) ++ ((prC x.p v.p).toList ++ ((csC (x.c 0) (v.c 0)).toList ++ ((csC (x.c 1) (v.c 1)).toList ++ ((hdL (x.hp 0) ++ hdL (x.hc 0)) ++ (hdL (x.hp 1) ++ hdL (x.hc 1))))))).toArray
structure WIn(P:Nat->Prop)(w:World)(x:Wo)(v:WoV):Prop where
 p:PIn P w x.p v.p
 c:∀ i,i<2->CIn P w (x.c i) (v.c i)
section
variable {P P':Nat->Prop} {w w':World} {x:Wo} {v:WoV}
theorem WIn.mono(h:WIn P w x v)(hp:∀ b,b<w.heap.size->P b->P' b):WIn P' w x v:=⟨h.p.mono hp,fun i hi=>(h.c i hi).mono hp⟩
theorem WIn.lo(h:WIn P w x v):WIn (fun b=>P b/\b<w.heap.size) w x v:=h.mono fun _ hl hp=>⟨hp,hl⟩
theorem WIn.keep(h:WIn P w x v)(hk:∀ b,P b->b<w.heap.size->w'.heap[b]?=w.heap[b]?):WIn P w' x v:=⟨h.p.keep hk,fun i hi=>(h.c i hi).keep hk⟩
theorem WIn.over(h:WIn P w x v)(hb:Below w.heap.size w w'):WIn P w' x v:=h.keep fun b _ hlt=>hb.block b hlt
theorem WIn.alt{g:Nat}(h:WIn P w x v)(hg:¬ P g)(ha:Alt g w w'):WIn P w' x v:=h.keep fun b hb hlt=>ha.block b hlt (fun e=>hg (e ▸ hb))
theorem WIn.new{g:Nat}(h:WIn P w x v)(hg:¬ P g)(ha:Alt g w w')(k:Nat):WIn (New P w k) w' x v:=((h.mono (P':=fun b=>New P w k b/\P b/\b<w.heap.size) fun _ hl hp=>⟨.inl ⟨hp,hl⟩,hp,hl⟩).alt (g:=g) (fun h=>hg h.2.1) ha).mono fun _ _ h=>h.1
theorem _root_.Go.Proofs.YtmopekkhmhhcaaaGreat.Pv.PIn.j1a{g:Nat}{p:Pr}{u:PrV}(h:PIn P w p u)(hg:¬ P g)(ha:Alt g w w')(k:Nat):PIn (New P w k) w' p u:=(ha.pin (P:=fun b=>New P w k b/\P b/\b<w.heap.size) (fun h=>hg h.2.1) (h.mono fun _ hl hp=>⟨.inl ⟨hp,hl⟩,hp,hl⟩)).mono fun _ _ h=>h.1
theorem _root_.Go.Proofs.YtmopekkhmhhcaaaGreat.Kc.CIn.j1a{g:Nat}{p:Cs}{u:CsV}(h:CIn P w p u)(hg:¬ P g)(ha:Alt g w w')(k:Nat):CIn (New P w k) w' p u:=(ha.cin (P:=fun b=>New P w k b/\P b/\b<w.heap.size) (fun h=>hg h.2.1) (h.mono fun _ hl hp=>⟨.inl ⟨hp,hl⟩,hp,hl⟩)).mono fun _ _ h=>h.1
end
structure At(cs:Array Value)(o:Nat)(ds es:List Value)(cs':Array Value):Prop where
 len:ds.length=es.length
 ex:∃ a c:List Value,a.length=o/\cs=(a ++ (ds ++ c)).toArray/\cs'=(a ++ (es ++ c)).toArray
theorem At.sets{cs cs':Array Value}{o:Nat}{ds es:List Value}(h:At cs o ds es cs'){ty:TypeId}{w:World}{g:Nat}(hc:CAt ty w g cs):CAt ty (w.setCells g o es) g cs':=by
 obtain⟨a,c,rfl,h1,h2⟩:=h.ex;have:=CAt.sets es a.length w cs hc
 rwa [h1,j0V _ _ _ _ h.len,← h2]at this
theorem At.part{cs cs':Array Value}{o:Nat}{ds es:List Value}(h:At cs o ds es cs'){ty:TypeId}{w:World}{g:Nat}(hc:CAt ty w g cs):w.rangeAt g o ds:=by
 obtain⟨a,c,rfl,h1,-⟩:=h.ex;refine hc.part fun j v hv=>?_;have hj:j<ds.length:=(List.getElem?_eq_some_iff.1 hv).1;rw[h1,List.getElem?_toArray,List.getElem?_append_right (by omega),Nat.add_sub_cancel_left,List.getElem?_append_left hj]
 exact hv
theorem At.there{cs cs':Array Value}{o:Nat}{ds es:List Value}(h:At cs o ds es cs'){ty:TypeId}{w:World}{g:Nat}(hc:CAt ty w g cs):w.there g o es.length:=by
 obtain⟨a,c,rfl,h1,-⟩:=h.ex;refine hc.there _ _ ?_;rw[h1,← h.len]
 simp
theorem At.nest{cs cs':Array Value}{o o':Nat}{ds es dd ee:List Value}(h:At cs o ds es cs')(k:At ds.toArray o' dd ee es.toArray):At cs (o+o') dd ee cs':=by
 obtain⟨a,c,ha,h1,h2⟩:=h.ex;obtain⟨a',c',ha',k1,k2⟩:=k.ex;have k1':ds=a' ++ (dd ++ c'):=by simpa using congrArg Array.toList k1
 have k2':es=a' ++ (ee ++ c'):=by simpa using congrArg Array.toList k2
 refine⟨k.len,a ++ a',c' ++ c,by simp[ha,ha'],?_,?_⟩
 ·rw[h1,k1'];simp
 ·rw[h2,k2'];simp
section
variable (x:Wo) (v:WoV)
theorem z8y(p':Pr)(u:PrV):At (wdC x v) 2 (prC x.p v.p).toList (prC p' u).toList (wdC { x with p:=p' } { v with p:=u }):=⟨rfl,[.int .i64 x.ck,.int .i64 x.dn],_,rfl,rfl,rfl⟩
theorem q1L{i:Nat}(hi:i<2)(y:Cs)(u:CsV):At (wdC x v) (99+i * 22) (csC (x.c i) (v.c i)).toList (csC y u).toList (wdC { x with c:=z2L x.c i y } (v.upd i u)):=by
 refine⟨rfl,?_⟩
 match i,hi with
 | 0,_=>exact⟨[.int .i64 x.ck,.int .i64 x.dn] ++ (prC x.p v.p).toList,_,rfl,rfl,rfl⟩
 | 1,_=>exact⟨[.int .i64 x.ck,.int .i64 x.dn] ++ ((prC x.p v.p).toList ++ (csC (x.c 0) (v.c 0)).toList),_,rfl,rfl,rfl⟩
theorem y0W{i:Nat}(hi:i<2)(y z:Hd):At (wdC x v) (143+i * 8) (hdL (x.hp i) ++ hdL (x.hc i)) (hdL y ++ hdL z) (wdC { x with hp:=q6V x.hp i y,hc:=q6V x.hc i z } v):=by
 refine⟨rfl,?_⟩
 match i,hi with
 | 0,_=>exact⟨[.int .i64 x.ck,.int .i64 x.dn] ++ ((prC x.p v.p).toList ++ ((csC (x.c 0) (v.c 0)).toList ++ (csC (x.c 1) (v.c 1)).toList)),hdL (x.hp 1) ++ hdL (x.hc 1),rfl,rfl,rfl⟩
 | 1,_=>exact⟨[.int .i64 x.ck,.int .i64 x.dn] ++ ((prC x.p v.p).toList ++ ((csC (x.c 0) (v.c 0)).toList ++ ((csC (x.c 1) (v.c 1)).toList ++ (hdL (x.hp 0) ++ hdL (x.hc 0))))),[],rfl,rfl,rfl⟩
theorem j7N{i:Nat}(hi:i<2)(y:Hd):At (wdC x v) (143+i * 8) (hdL (x.hp i)) (hdL y) (wdC { x with hp:=q6V x.hp i y } v):=by
 refine⟨rfl,?_⟩
 match i,hi with
 | 0,_=>exact⟨[.int .i64 x.ck,.int .i64 x.dn] ++ ((prC x.p v.p).toList ++ ((csC (x.c 0) (v.c 0)).toList ++ (csC (x.c 1) (v.c 1)).toList)),hdL (x.hc 0) ++ (hdL (x.hp 1) ++ hdL (x.hc 1)),rfl,rfl,rfl⟩
 | 1,_=>exact⟨[.int .i64 x.ck,.int .i64 x.dn] ++ ((prC x.p v.p).toList ++ ((csC (x.c 0) (v.c 0)).toList ++ ((csC (x.c 1) (v.c 1)).toList ++ (hdL (x.hp 0) ++ hdL (x.hc 0))))),hdL (x.hc 1),rfl,rfl,rfl⟩
theorem j7Z{i:Nat}(hi:i<2)(y:Hd):At (wdC x v) (147+i * 8) (hdL (x.hc i)) (hdL y) (wdC { x with hc:=q6V x.hc i y } v):=by
 refine⟨rfl,?_⟩
 match i,hi with
 | 0,_=>exact⟨[.int .i64 x.ck,.int .i64 x.dn] ++ ((prC x.p v.p).toList ++ ((csC (x.c 0) (v.c 0)).toList ++ ((csC (x.c 1) (v.c 1)).toList ++ hdL (x.hp 0)))),hdL (x.hp 1) ++ hdL (x.hc 1),rfl,rfl,rfl⟩
 | 1,_=>exact⟨[.int .i64 x.ck,.int .i64 x.dn] ++ ((prC x.p v.p).toList ++ ((csC (x.c 0) (v.c 0)).toList ++ ((csC (x.c 1) (v.c 1)).toList ++ ((hdL (x.hp 0) ++ hdL (x.hc 0)) ++ hdL (x.hp 1))))),[],rfl,rfl,rfl⟩
end
theorem y1g(p:Pr)(v:PrV)(s:St)(u:Value):At (prC p v) 2 (stC p.s v.ws).toList (stC s u).toList (prC { p with s:=s } { v with ws:=u }):=⟨rfl,[.int .i64 p.h,.int .i64 p.t],_,rfl,rfl,rfl⟩
theorem q7s(p:Pr)(v:PrV){k:Nat}(hk:k<2)(y:Lk)(u:LkV):At (prC p v) (66+k * 14) (lkL (p.L k) (v.l k)) (lkL y u) (prC { p with L:=z0Q p.L k y } (v.upd k u)):=by
 obtain⟨a,c,ha,h1,h2⟩:=z5Q p v k hk;exact⟨rfl,a,c,ha,h1,h2 y u⟩
def lnL(x:Ln.Line)(u1 u2:Value):List Value:=[u1,u2,.int .i64 x.g,.bool x.cl]
theorem q8Y(x:Lk)(v:LkV)(y:Ln.Line)(u1 u2:Value):At (lkL x v).toArray 6 (lnL x.out v.said v.due) (lnL y u1 u2) (lkL { x with out:=y } { v with said:=u1,due:=u2 }).toArray:=⟨rfl,[.bool x.on,.bool x.gone,.int .i64 x.base,v.told,.bool x.fresh,v.done],[.int .i64 x.h0,.int .i64 x.h1,.int .i64 x.h2,.int .i64 x.h3],rfl,rfl,rfl⟩
theorem j6e(x:Lk)(v:LkV)(h:Hd):At (lkL x v).toArray 10 [.int .i64 x.h0,.int .i64 x.h1,.int .i64 x.h2,.int .i64 x.h3] (hdL h) (lkL (j7K x h) v).toArray:=⟨rfl,[.bool x.on,.bool x.gone,.int .i64 x.base,v.told,.bool x.fresh,v.done,v.said,v.due,.int .i64 x.out.g,.bool x.out.cl],[],rfl,rfl,rfl⟩
theorem q0b(x:Cs)(v:CsV)(y:Ln.Line)(u1 u2:Value):At (csC x v) 14 (lnL x.out v.said v.due) (lnL y u1 u2) (csC { x with out:=y } { v with said:=u1,due:=u2 }):=⟨rfl,[.bool x.on,.bool x.gone,.int .i64 x.h,.int .i64 x.t,.int .i64 x.id,v.set,v.pd,v.rp,.bool (x.fl 0),.bool (x.fl 1),.bool (x.fl 2),.bool (x.fl 3),.bool (x.fl 4),.bool (x.fl 5)],[.int .i64 x.h0,.int .i64 x.h1,.int .i64 x.h2,.int .i64 x.h3],rfl,rfl,rfl⟩
theorem j6E(x:Cs)(v:CsV)(h:Hd):At (csC x v) 18 [.int .i64 x.h0,.int .i64 x.h1,.int .i64 x.h2,.int .i64 x.h3] (hdL h) (csC (y0w x h) v):=⟨rfl,[.bool x.on,.bool x.gone,.int .i64 x.h,.int .i64 x.t,.int .i64 x.id,v.set,v.pd,v.rp,.bool (x.fl 0),.bool (x.fl 1),.bool (x.fl 2),.bool (x.fl 3),.bool (x.fl 4),.bool (x.fl 5),v.said,v.due,.int .i64 x.out.g,.bool x.out.cl],[],rfl,rfl,rfl⟩
theorem z4r:(prog.info? 47).map (·.size)=some 4:=by kernel_rfl
theorem q4b:(prog.info? 49).map (·.size)=some 4:=by kernel_rfl
theorem j9r:(prog.info? 95).map (·.size)=some 8:=by kernel_rfl
def z2I(v:Value):Sem Value:=Instr.loadAt 47 v
theorem z2E(v:Value):Instr.loadAt 47 v=z2I v:=rfl
def z3k(a v:Value):Sem Unit:=Instr.storeAt 47 a v
theorem z1Y(a v:Value):Instr.storeAt 47 a v=z3k a v:=rfl
def j4a(v:Value):Sem Value:=Instr.loadAt 49 v
theorem q9x(v:Value):Instr.loadAt 49 v=j4a v:=rfl
def j0G(a v:Value):Sem Unit:=Instr.storeAt 49 a v
theorem z6B(a v:Value):Instr.storeAt 49 a v=j0G a v:=rfl
def q2j(a v:Value):Sem Unit:=Instr.storeAt 95 a v
theorem q6O(a v:Value):Instr.storeAt 95 a v=q2j a v:=rfl
section
variable {w:World} {g o:Nat}
theorem j1T{cs:Array Value}(h:w.rangeAt g o cs.toList)(hs:cs.size=97):(q0k (.pointer (some ⟨g,o,none⟩))).run prog w=.ok (.agg cs) w:=by
 have:=run_loadAt_mid (P:=prog) w g o 57 cs.toList _ h underlying57 rfl (by rw[z3l];simp[hs])
 change (Instr.loadAt 57 _).run prog w=_
 simpa using this
theorem j4Y{cs:Array Value}(h:w.rangeAt g o cs.toList)(hs:cs.size=22):(z7k (.pointer (some ⟨g,o,none⟩))).run prog w=.ok (.agg cs) w:=by
 have:=run_loadAt_mid (P:=prog) w g o 63 cs.toList _ h underlying63 rfl (by rw[z3C];simp[hs])
 change (Instr.loadAt 63 _).run prog w=_
 simpa using this
theorem y1k{cs:Array Value}(h:w.rangeAt g o cs.toList)(hs:cs.size=63):(z8M (.pointer (some ⟨g,o,none⟩))).run prog w=.ok (.agg cs) w:=by
 have:=run_loadAt_mid (P:=prog) w g o 43 cs.toList _ h underlying43 rfl (by rw[z0y];simp[hs])
 change (Instr.loadAt 43 _).run prog w=_
 simpa using this
theorem z6u{cs:List Value}(h:w.rangeAt g o cs)(hs:cs.length=4):(z2I (.pointer (some ⟨g,o,none⟩))).run prog w=.ok (.agg cs.toArray) w:=
 run_loadAt_mid (P:=prog) w g o 47 cs _ h underlying47 rfl (by rw[z4r,hs])
theorem j2Y{cs:List Value}(h:w.rangeAt g o cs)(hs:cs.length=4):(j4a (.pointer (some ⟨g,o,none⟩))).run prog w=.ok (.agg cs.toArray) w:=
 run_loadAt_mid (P:=prog) w g o 49 cs _ h underlying49 rfl (by rw[q4b,hs])
theorem j9w{cs:Array Value}(h:w.there g o cs.toList.length)(hs:cs.size=97)(h1:cs.all (·.oneCell')=true):(z5P (.pointer (some ⟨g,o,none⟩)) (.agg cs)).run prog w=.ok () (w.setCells g o cs.toList):=
 run_storeAt_mid (P:=prog) w g o 57 cs (by simpa using h) (by rw[z3l,hs]) h1
theorem q2s{cs:List Value}(h:w.there g o cs.length)(hs:cs.length=4)(h1:cs.all (·.oneCell')=true):(z3k (.pointer (some ⟨g,o,none⟩)) (.agg cs.toArray)).run prog w=.ok () (w.setCells g o cs):=
 run_storeAt_mid (P:=prog) w g o 47 cs.toArray (by simpa using h) (by rw[z4r];simp[hs]) (by simpa using h1)
theorem j9s{cs:List Value}(h:w.there g o cs.length)(hs:cs.length=4)(h1:cs.all (·.oneCell')=true):(j0G (.pointer (some ⟨g,o,none⟩)) (.agg cs.toArray)).run prog w=.ok () (w.setCells g o cs):=
 run_storeAt_mid (P:=prog) w g o 49 cs.toArray (by simpa using h) (by rw[q4b];simp[hs]) (by simpa using h1)
theorem y0N{cs:List Value}(h:w.there g o cs.length)(hs:cs.length=8)(h1:cs.all (·.oneCell')=true):(q2j (.pointer (some ⟨g,o,none⟩)) (.agg cs.toArray)).run prog w=.ok () (w.setCells g o cs):=
 run_storeAt_mid (P:=prog) w g o 95 cs.toArray (by simpa using h) (by rw[j9r];simp[hs]) (by simpa using h1)
end
def z1a(P:Nat->Prop)(w:World)(g:Nat)(x':Wo)(w':World):Prop:=∃ v',CAt 98 w' g (wdC x' v')/\WIn (New P w 0) w' x' v'/\Alt g w w'
theorem z8l{P:Nat->Prop}{w w1:World}{b:Nat}(hs:w.heap.size<=w1.heap.size)(h:New (New P w 0) w1 0 b):New P w 0 b:=by
 rcases h with⟨h,_⟩ | h
 ·exact h
 ·exact .inr (by omega)
theorem z1a.trans{P:Nat->Prop}{w w1 w2:World}{g:Nat}{x2:Wo}(h:Alt g w w1)(k:z1a (New P w 0) w1 g x2 w2):z1a P w g x2 w2:=by
 obtain⟨v,c,i,a⟩:=k;exact⟨v,c,i.mono fun b _ hb=>z8l h.size hb,h.trans a⟩
theorem z1a.same{P:Nat->Prop}{w w1:World}{g:Nat}{x:Wo}{v:WoV}(hc:CAt 98 w1 g (wdC x v))(hi:WIn P w x v)(hg:¬ P g)(h:Alt g w w1):z1a P w g x w1:=⟨v,hc,hi.new hg h 0,h⟩
theorem q3T{P:Nat->Prop}{w:World}{g:Nat}{x:Wo}{v:WoV}(hC:CAt 98 w g (wdC x v))(hI:WIn P w x v)(hg:¬ P g):Hid (∀ (w':World),Below w.heap.size w w'->z1a P w g x w'):=fun _ hb=>z1a.same (hC.over hb) hI hg (Alt.of (g:=g) hb)
end Wd
namespace Wd
open Go.RowKit Pv
theorem y0D(s:St)(v:Int):(z1S s v).1.W=s.W:=by
 unfold z1S
 repeat' split
 all_goals rfl
theorem q9h{P:Nat->Prop}{w:World}{s:St}{u:Value}(hu:Rep P w u 8 64 (wsL s.W))(v:Int):Calls prog 64 #[.agg (stC s u),.int .i64 v] w fun e w'=>e=.returned (.tuple #[.agg (stC (z1S s v).1 u),.int .i64 (z1S s v).2])/\Below w.heap.size w w':=by
 obtain⟨A,C,b,o,rfl,W,-,-⟩:=hu.q4n;exact q2J s A b o C v w W
theorem q7b(x:Ln.Line)(k:Int)(s:ByteArray)(said now:Int)(v1 v2:Value)(P:Nat->Prop)(w:World)(h1:z0I P w v1 1 16 (txC x.S))(h2:z0I P w v2 1 8 (inC x.D)):Calls prog 93 #[.agg #[v1,v2,.int .i64 x.g,.bool x.cl],.int .i64 k,.string s,.int .i64 said,.int .i64 now] w (j9X P w (Ln.z4Z x k s said now) (Ln.z4v x k s said now)):=by
 obtain⟨A1,C1,A2,C2,sb,so,db,dO,rfl,rfl,L,p1,p2⟩:=z0I.line h1 h2;exact (Ln.j7i x A1 A2 C1 C2 sb so db dO k s said now w L).mono fun e w' h=>j5g L p1 p2 h
theorem q8S(x:Ln.Line)(k time got:Int)(v1 v2:Value)(P:Nat->Prop)(w:World)(h1:z0I P w v1 1 16 (txC x.S))(h2:z0I P w v2 1 8 (inC x.D)):Calls prog 95 #[.agg #[v1,v2,.int .i64 x.g,.bool x.cl],.int .i64 k,.int .i64 time,.int .i64 got] w (j9X P w (Ln.z7d x k time got) (Ln.z6b x k time got)):=by
 obtain⟨A1,C1,A2,C2,sb,so,db,dO,rfl,rfl,L,p1,p2⟩:=z0I.line h1 h2;exact (Ln.j7D x A1 A2 C1 C2 sb so db dO k time got w L).mono fun e w' h=>j5g L p1 p2 h
end Wd
namespace Wd
open Go.RowKit Pv Kc
def q0h(P:Nat->Prop)(w:World)(g:Nat)(r:Wo×Int×Int)(e:Ending)(w':World):Prop:=e=.returned (.tuple #[.int .i64 r.2.1,.int .i64 r.2.2])/\z1a P w g r.1 w'
def q2W(P:Nat->Prop)(w:World)(g:Nat)(r:Wo×Int)(e:Ending)(w':World):Prop:=e=.returned (.int .i64 r.2)/\z1a P w g r.1 w'
theorem z3r(c:Int)(w:World):Calls prog 30 #[.int .i64 c] w fun e w'=>e=.returned (.bool (isC c))/\w=w':=by
 have hD:isC c=(decide (0<=c) && decide (c<2)):=rfl;generalize isC c=B at *;have HD:=hide hD;clear hD
 go_enter func30,ntmps30
 by_cases h1:c≥0
 ·by_cases h2:c<2
  ·go_wp2;go_ret;exact⟨by rw[HD.out];simp[h1,h2],rfl⟩
  ·go_wp2;go_ret;exact⟨by rw[HD.out];simp[h1,h2],rfl⟩
 ·go_wp2;go_ret;exact⟨by rw[HD.out];simp;omega,rfl⟩
theorem q8L(g:Nat)(x:Wo)(v:WoV)(P:Nat->Prop)(w:World)(n:Int)(hC:CAt 98 w g (wdC x v))(hI:WIn P w x v)(hg:¬ P g)(hk0:0<=x.ck)(hk1:x.ck<=1099511627736) :
  Calls prog 57 #[.pointer (some ⟨g,0,none⟩),.int .i64 n] w (q0h P w g (z6s x n)):=by
 have hD:z6s x n=if n<1∨1099511627736 - x.ck<n then (x,0,2) else ({ x with ck:=x.ck+n },x.ck+n,0):=by unfold z6s;rfl
 generalize z6s x n=D at *;have HD:=hide hD;clear hD;have c0:w.cell? ⟨g,0,none⟩=some (.int .i64 x.ck):=hC.cell 0;have f0:=hC.free 0;have hlt:=hC.lt;have hw1:IntKind.i64.wrap (1099511627736 - x.ck)=1099511627736 - x.ck:=z6D (by omega) (by omega)
 have H:=hide (show _/\_ from⟨hC,hI⟩);clear hC hI
 go_enter func57,ntmps57
 by_cases h1:n<1
 ·have hd:=HD.out.trans (if_pos (.inl h1));have HDD:=hide hd;clear hd HD;go_wp2;go_ret2;rw[HDD.out];exact⟨rfl,.same H.out.1 H.out.2 hg (Alt.refl _ _)⟩
 ·by_cases h2:1099511627736 - x.ck<n
  ·have hd:=HD.out.trans (if_pos (.inr h2));have HDD:=hide hd;clear hd HD;have h2':n > 1099511627736 - x.ck:=h2;go_wp2;go_ret2;rw[HDD.out];exact⟨rfl,.same H.out.1 H.out.2 hg (Alt.refl _ _)⟩
  ·have hd:=HD.out.trans (if_neg (fun h=>by rcases h with h | h <;> omega))
   have HDD:=hide hd;have hw2:IntKind.i64.wrap (x.ck+n)=x.ck+n:=z6D (by omega) (by omega)
   clear hd HD;go_wp2;go_ret2;rw[HDD.out];exact⟨rfl,v,H.out.1.set 0 (.int .i64 (x.ck+n)),(by have h:=H.out.2.new hg ((Alt.refl g w).set 0 (.int .i64 (x.ck+n))) 0;exact⟨h.p,h.c⟩),(Alt.refl g w).set 0 _⟩
theorem j3P(h:Hd):(hdL h).all (·.oneCell')=true:=rfl
attribute [local go_sem ↓] q9x z6B
theorem q7q(g:Nat)(x:Wo)(v:WoV)(P:Nat->Prop)(w:World)(i:Nat)(hi:i<2)(b:Bool)(hC:CAt 98 w g (wdC x v))(hI:WIn P w x v)(hg:¬ P g) :
  Calls prog 70 #[.pointer (some ⟨g,0,none⟩),.int .i64 (i:Int),.bool b] w fun e w'=>e=.returned (.tuple #[])/\z1a P w g (z5d x i b) w':=by
 have hlt:=hC.lt;have hi2:(i:Int)<2:=by omega
 have hi0:(0:Int)<=(i:Int):=by omega
 have hd:=(Below.refl w.heap.size w).drew;cases b
 ·have A1:=j7N x v hi (x.hp i);have A2:=(q1L x v hi (y0w (x.c i) (x.hp i)) (v.c i)).nest (by simpa using j6E (x.c i) (v.c i) (x.hp i))
  have l1:=j2Y (A1.part hC) rfl;have l1d:=j2Y (A1.part (hC.over hd)) rfl;have s1d:=j9s (A2.there (hC.over hd)) rfl (j3P _);have C2:=A2.sets (hC.over hd);have a2:Alt g w (w.drew.setCells g (99+i * 22+18) (hdL (x.hp i))):=(Alt.of (g:=g) hd).sets _ _
  have HZ:Hid (z1a P w g (z5d x i false) (w.drew.setCells g (99+i * 22+18) (hdL (x.hp i)))):=by
   refine⟨v.upd i (v.c i),C2,⟨hI.p.j1a hg a2 0,fun k hk=>?_⟩,a2⟩;have h:=(hI.c k hk).j1a hg a2 0
   show CIn _ _ (z2L x.c i _ k) (if k=i then v.c i else v.c k)
   unfold z2L
   by_cases e:k=i
   ·subst e;rw[if_pos rfl,if_pos rfl];exact⟨h.set,h.pd,h.rp,h.said,h.due⟩
   ·rw[if_neg e,if_neg e];exact h
  generalize w.drew.setCells g (99+i * 22+18) (hdL (x.hp i))=wS at *;generalize z5d x i false=D at *;clear C2 hI A1 A2 hC a2 hd
  go_enter func70,ntmps70
  go_upto_region 3 with fail
  apply z4l (fun w'=>w'=wS)
  ·refine wp_region_noPanic ?_
   go_region_with (fail)
   all_goals exact NoPanic.normal ⟨rfl,rfl,rfl⟩
  rintro w' rfl;clear l1 l1d s1d;go_wp2;go_end0;exact⟨rfl,HZ.out⟩
 ·have A1:=j7Z x v hi (x.hc i);have A2:=(z8y x v { x.p with L:=z0Q x.p.L i (j7K (x.p.L i) (x.hc i)) } (v.p.upd i (v.p.l i))).nest ((q7s x.p v.p hi (j7K (x.p.L i) (x.hc i)) (v.p.l i)).nest (j6e (x.p.L i) (v.p.l i) (x.hc i)))
  rw[show 147+i * 8=143+i * 8+4 by omega]at A1
  rw[show 2+(66+i * 14+10)=68+i * 14+10 by omega]at A2
  have l1:=j2Y (A1.part hC) rfl;have l1d:=j2Y (A1.part (hC.over hd)) rfl;have s1d:=j9s (A2.there (hC.over hd)) rfl (j3P _);have C2:=A2.sets (hC.over hd);have a2:Alt g w (w.drew.setCells g (68+i * 14+10) (hdL (x.hc i))):=(Alt.of (g:=g) hd).sets _ _
  have HZ:Hid (z1a P w g (z5d x i true) (w.drew.setCells g (68+i * 14+10) (hdL (x.hc i)))):=by
   have hp:=hI.p.j1a hg a2 0;refine⟨{ v with p:=v.p.upd i (v.p.l i) },C2,⟨⟨hp.ws,hp.set,fun k hk=>?_,hp.q⟩,fun k hk=>(hI.c k hk).j1a hg a2 0⟩,a2⟩
   have h:=hp.lk k hk
   show z6c _ _ (z0Q x.p.L i _ k) (if k=i then v.p.l i else v.p.l k)
   unfold z0Q
   by_cases e:k=i
   ·subst e;rw[if_pos rfl,if_pos rfl];exact⟨h.told,h.done,h.said,h.due⟩
   ·rw[if_neg e,if_neg e];exact h
  generalize w.drew.setCells g (68+i * 14+10) (hdL (x.hc i))=wS at *;generalize z5d x i true=D at *;clear C2 hI A1 A2 hC a2 hd
  go_enter func70,ntmps70
  go_upto_region 2 with fail
  apply z4l (fun w'=>w'=wS)
  ·refine wp_region_noPanic ?_
   go_region_with (fail)
   all_goals exact NoPanic.normal ⟨rfl,rfl,rfl⟩
  rintro w' rfl;clear l1 l1d s1d;go_wp2;go_end0;exact⟨rfl,HZ.out⟩
end Wd
namespace Kc
open Go.RowKit Pv
theorem j4z{P:Nat->Prop}{w:World}{v:Value}{l:List (Int×Int)}(h:Rep P w v 2 16 (pwC l)):∃ A C b off,v=.slice A l.length C/\Df.PIn w l A b off:=by
 obtain⟨A,C,rfl,hs,-,hc,-⟩:=h.open (z0c _) (by decide)
 rcases Nat.eq_zero_or_pos l.length with h0 | h0
 ·exact⟨A,C,0,0,rfl,by omega,fun h=>by omega,fun i hi=>by omega⟩
 ·obtain⟨b,off,e,-,-,hcell⟩:=hc h0;exact⟨A,C,b,off,rfl,by omega,fun _=>e,fun i hi=>⟨hcell _ _ (z2h l i hi).1,hcell _ _ (z2h l i hi).2⟩⟩
theorem q0S:∀ l:List (Int×Int),pwL l=pwC l
 | []=>rfl
 | x :: l=>by
  show Value.int .i64 x.1 :: Value.int .i64 x.2 :: pwL l=[Value.int .i64 x.1,Value.int .i64 x.2] ++ pwC l
  rw[q0S l];rfl
theorem j1K{w:World}{B:Nat}{v:Value}{l:List (Int×Int)}(h:z6h w B v l)(hl:l.length<=6):Rep (fun b=>B<=b) w v 2 16 (pwC l):=by
 have h':w.ownsRow B 68 2 v l.length (pwC l):=by rw[← q0S];exact h
 exact Rep.own (bts:=16) h' (by omega)
theorem j0p(a d:List (Int×Int)):(Df.z1L a d).length<=6:=Df.z3Z _ _ 6
theorem z8k(a d:List (Int×Int))(v u:Value)(P P':Nat->Prop)(w:World)(ha:Rep P w v 2 16 (pwC a))(hd:Rep P' w u 2 16 (pwC d)) :
  Calls prog 15 #[v,u] w fun e w'=>∃ A n C,e=.returned (.slice A n C)/\Rep (fun b=>w.heap.size<=b) w' (.slice A n C) 2 16 (pwC (Df.z1L a d))/\Below w.heap.size w w':=by
 obtain⟨A,C,b,off,rfl,p1⟩:=j4z ha;obtain⟨A',C',b',off',rfl,p2⟩:=j4z hd;refine (Df.q7Q a d A A' C C' b off b' off' w p1 p2).mono ?_;rintro e w'⟨x,rfl,hp,hb⟩;have hr:=j1K hp (j0p a d);obtain⟨A0,n0,C0,rfl,_⟩:=id hr;exact⟨A0,n0,C0,rfl,hr,hb⟩
def Joins(F:Option Addr->Nat->Nat->Act)(R:Option Addr->Nat->Nat->World->Prop)(ex:Exit)(a:Act)(w:World):Prop:=∃ A n C,ex=Exit.normal/\a=F A n C/\R A n C w
theorem j2H{P:Program}{c:Code}{Q:Exit->Act->World->Prop}{a:Act}{w:World}(R:Option Addr->Nat->Nat->World->Prop)(F:Option Addr->Nat->Nat->Act)(h1:Code.wp P c (Joins F R) a w)(h2:∀ A n C w',R A n C w'->Q Exit.normal (F A n C) w'):Code.wp P c Q a w:=
 Code.wp_mono (fun e a' w' h=>by obtain⟨A,n,C,rfl,rfl,h⟩:=h;exact h2 A n C w' h) h1
theorem q9s{n:Nat}(h:n * 16<=168884986026393):Builtin.nextslicecap (n+1) n * 16<=281474976710656:=by
 have:Builtin.nextslicecap (n+1) n<=n+(n+1024) / 4+256:=by
  unfold Builtin.nextslicecap
  split
  ·omega
  ·split
   ·omega
   ·rw[growBy_four]
    repeat' split
    all_goals omega
 omega
def RR(P:Nat->Prop)(B:Nat)(o:Option Nat)(w:World)(v:Value)(l:List (Int×Int)):Prop:=
 (o=none/\(∃ A,v=.slice A l.length l.length)/\Rep P w v 2 8 (pwC l))∨(∃ g cap,o=some g/\v=.slice (some ⟨g,0,none⟩) l.length cap/\w.ownsRow B 88 2 v l.length (pwC l))
theorem j9B:(prog.info? 88).map (fun i=>(i.zero,i.size,i.bytes))=some (some (.agg #[.int .i64 0,.int .i64 0]),2,16):=by kernel_rfl
theorem j5q(l m:List (Int×Int)):pwC (l ++ m)=pwC l ++ pwC m:=by simp[pwC]
theorem RR.slice{P:Nat->Prop}{B:Nat}{o:Option Nat}{w:World}{v:Value}{l:List (Int×Int)}(h:RR P B o w v l):∃ A C,v=.slice A l.length C:=by
 rcases h with⟨-,⟨A,rfl⟩,-⟩ | ⟨g,cap,-,rfl,-⟩
 ·exact⟨_,_,rfl⟩
 ·exact⟨_,_,rfl⟩
theorem RR.keep{P:Nat->Prop}{B:Nat}{o:Option Nat}{w w':World}{v:Value}{l:List (Int×Int)}(h:RR P B o w v l)(h1:∀ b,P b->b<w.heap.size->w'.heap[b]?=w.heap[b]?)(h2:∀ b,o=some b->w'.heap[b]?=w.heap[b]?):RR P B o w' v l:=by
 rcases h with⟨e,hA,hr⟩ | ⟨g,cap,e,hv,ho⟩
 ·exact .inl ⟨e,hA,hr.keep h1⟩
 ·exact .inr ⟨g,cap,e,hv,Ln.z1n ho fun k hk=>h2 k (by rw[e,← hk,hv];rfl)⟩
theorem RR.lt{P:Nat->Prop}{B:Nat}{o:Option Nat}{w:World}{v:Value}{l:List (Int×Int)}(h:RR P B o w v l){r:Nat}(hr:o=some r):B<=r/\r<w.heap.size:=by
 rcases h with⟨e,-,-⟩ | ⟨g,cap,e,hv,ho⟩
 ·rw[e]at hr;cases hr
 ·rw[hr]at e;cases e;exact World.ownsRow.lt ho r (by rw[hv];rfl)
theorem RR.rep{P Q:Nat->Prop}{B:Nat}{o:Option Nat}{w:World}{v:Value}{l:List (Int×Int)}(h:RR P B o w v l)(hl:l.length * 16<=168884986026393)(h1:∀ b,b<w.heap.size->P b->Q b)(h2:∀ b,o=some b->Q b):Rep Q w v 2 8 (pwC l):=by
 rcases h with⟨e,hA,hr⟩ | ⟨g,cap,e,hv,ho⟩
 ·exact hr.mono h1
 ·obtain⟨A,n,C,a1,a2,a3,a4,a5⟩:=Rep.own (bts:=8) ho (by omega)
  refine⟨A,n,C,a1,a2,a3,a4,fun h0=>?_⟩;obtain⟨b,off,b1,b2,b3,b4⟩:=a5 h0;rw[hv]at a1;cases a1;cases b1;exact⟨g,0,rfl,h2 g e,b3,b4⟩
theorem j5o{P:Nat->Prop}{B:Nat}{o:Option Nat}{w:World}{v:Value}{l:List (Int×Int)}(h:RR P B o w v l)(hB:B<=w.heap.size)(hl:l.length * 16<=168884986026393)(x:Int×Int)(y:Nat)(hy:∀ j u,([.int .i64 x.1,.int .i64 x.2]:List Value)[j]?=some u->w.cell? ⟨y,j,none⟩=some u) :
  ∃ g cap w',(Builtin.append_ #[60,60] 60 #[v,.slice (some ⟨y,0,none⟩) 1 1]).run prog w=.ok (.slice (some ⟨g,0,none⟩) (l.length+1) cap) w'/\RR P B (some g) w' (.slice (some ⟨g,0,none⟩) (l.length+1) cap) (l ++ [x])/\w.grownBy w' o/\(o=some g∨g=w.heap.size):=by
 obtain⟨i0,hi,hz0,hz1,hz2⟩:=info_parts j9B;have hnews:∀ j u,([.int .i64 x.1,.int .i64 x.2]:List Value)[j]?=some u->w.cell? ((⟨y,0,none⟩:Addr).add j)=some u:=fun j v hv=>by rw[Addr.add_lit,Nat.zero_add];exact hy j v hv
 have hlen:(pwC l ++ [Value.int .i64 x.1,Value.int .i64 x.2]).length=(l.length+1) * 2:=by rw[List.length_append,z0c];simp;omega
 have hxs:pwC (l ++ [x])=pwC l ++ [.int .i64 x.1,.int .i64 x.2]:=by rw[j5q];rfl
 have hll:(l ++ [x]).length=l.length+1:=by simp
 have h63:l.length+1<=maxLen:=by unfold maxLen;omega
 have hfit:=q9s hl
 have grown:∀ (old:Nat),
   (w.drew.alloc (.cells ((pwC l).toArray ++ ([.int .i64 x.1,.int .i64 x.2]:List Value).toArray ++ Builtin.zeroCells (Value.agg #[.int .i64 0,.int .i64 0]).cells (grownCap w (l.length+1) old 88 - (l.length+1))) 88)).ownsRow B 88 2
    (.slice (some ⟨w.heap.size,0,none⟩) (l.length+1) (grownCap w (l.length+1) old 88)) (l.length+1) (pwC l ++ [.int .i64 x.1,.int .i64 x.2]) /\
   w.grownBy (w.drew.alloc (.cells ((pwC l).toArray ++ ([.int .i64 x.1,.int .i64 x.2]:List Value).toArray ++ Builtin.zeroCells (Value.agg #[.int .i64 0,.int .i64 0]).cells (grownCap w (l.length+1) old 88 - (l.length+1))) 88)) o:=by
  intro old;have hge:=grownCap_ge w (l.length+1) old 88;have hcm:grownCap w (l.length+1) old 88<=maxLen:=grownCap_le_maxLen w (l.length+1) old 88 h63;refine⟨⟨hlen,.inr ⟨w.heap.size,_,_,rfl,hB,heap_alloc_new w.drew _,hge,hcm,?_,?_⟩⟩,⟨rfl,rfl,rfl,by simp,fun k hk _=>Below.heap_alloc w.drew _ k hk⟩⟩
  ·simp only[Array.size_append,List.size_toArray,size_zeroCells,z0c];simp only[Value.cells,List.size_toArray,List.length_cons,List.length_nil];omega
  ·simp only[Array.toList_append,List.append_assoc];rw[← List.append_assoc,← hlen];exact List.take_left
 have fin:∀ (cap:Nat) (w':World),w'.ownsRow B 88 2 (.slice (some ⟨w.heap.size,0,none⟩) (l.length+1) cap) (l.length+1) (pwC l ++ [.int .i64 x.1,.int .i64 x.2])->RR P B (some w.heap.size) w' (.slice (some ⟨w.heap.size,0,none⟩) (l.length+1) cap) (l ++ [x]):=fun cap w' ho=>.inr ⟨_,cap,rfl,by rw[hll],by rw[hxs,hll];exact ho⟩
 rcases h with⟨e,⟨A,rfl⟩,hr⟩ | ⟨g,cap,e,rfl,ho⟩
 ·obtain⟨A',C',e1,-,hn0,hc,hcl⟩:=hr.open (z0c _) (by decide)
  cases e1;cases A with
  | none =>
   obtain⟨h0,-⟩:=hn0 rfl;obtain rfl:l=[]:=List.length_eq_zero_iff.1 h0;have hr2:=run_append_nil (P:=prog) w 60 60 88 i0 _ underlying60 hi hz0 ⟨y,0,none⟩ 1 1 [.int .i64 x.1,.int .i64 x.2] (by rw[hz1];rfl) hnews (by omega) (by omega) (by rw[hz2];omega)
   have hg:=grown 0;refine⟨_,_,_,hr2,fin _ _ ?_,?_,.inr rfl⟩
   ·simpa [pwC] using hg.1
   ·simpa [pwC] using hg.2
  | some a =>
   have hr2:=run_append_grow (P:=prog) w 60 60 88 i0 _ underlying60 hi hz0 a l.length l.length (pwC l) (by rw[hz1,z0c]) (hcl a rfl) ⟨y,0,none⟩ 1 1 [.int .i64 x.1,.int .i64 x.2] (by rw[hz1];rfl) hnews (by omega) (by unfold maxLen at h63;omega) (by rw[hz2];exact hfit)
   exact⟨_,_,_,hr2,fin _ _ (grown l.length).1,(grown l.length).2,.inr rfl⟩
 ·rcases ho.2 with⟨hv,-⟩ | ⟨g',cap',cur,hv,hbg,hg,hnc,hcm,hcs,htake⟩
  ·cases hv
  cases hv
  by_cases hroom:l.length+1<=cap
  ·have hf:l.length * i0.size+([.int .i64 x.1,.int .i64 x.2]:List Value).length<=cur.size:=by rw[hz1,hcs];simp;omega
   have hr2:=run_append_room (P:=prog) w 60 60 88 i0 underlying60 hi g l.length cap cur hg ⟨y,0,none⟩ 1 1 [.int .i64 x.1,.int .i64 x.2] (by rw[hz1];rfl) hnews (fun u hu=>by simp at hu;rcases hu with rfl | rfl <;> rfl) hroom hf
   refine⟨_,_,_,hr2,.inr ⟨g,cap,rfl,by rw[hll],?_⟩,⟨rfl,rfl,rfl,by simp,fun k _ hk=>setRow_other w g k _ (fun e'=>hk (by rw[e,e']))⟩,.inl e⟩
   rw[hxs,hll];refine⟨hlen,.inr ⟨g,cap,_,rfl,hbg,setRow_heap w g cur _ 88 _ hg,hroom,hcm,?_,?_⟩⟩
   ·simp only[List.size_toArray,List.length_append,List.length_take,List.length_drop,Array.length_toList];rw[hz1]
    simp
    omega
   ·rw[hz1,htake,← hlen];exact List.take_left
  ·have hceq:cap=l.length:=by omega
   subst hceq;have holds:∀ j u,(pwC l)[j]?=some u->w.cell? ((⟨g,0,none⟩:Addr).add j)=some u:=ho.cells (g:=g) rfl;have hr2:=run_append_grow (P:=prog) w 60 60 88 i0 _ underlying60 hi hz0 ⟨g,0,none⟩ l.length l.length (pwC l) (by rw[hz1,z0c]) holds ⟨y,0,none⟩ 1 1 [.int .i64 x.1,.int .i64 x.2] (by rw[hz1];rfl) hnews (by omega) (by unfold maxLen at h63;omega) (by rw[hz2];exact hfit)
   exact⟨_,_,_,hr2,fin _ _ (grown l.length).1,(grown l.length).2,.inr rfl⟩
theorem j1E{P:Nat->Prop}{ops:Array Oper}{oo:Oper}{a:Act}{w:World}{K:Act->World->Prop}{Q:Exit->Act->World->Prop}{E:Prop}(hg:oo.guard=none)(hty:oo.type=60)(p q:Operand)
  (hop:oo.op=Op.call { callee:=Callee.builtin Builtin.append,args:=#[p,q],argTypes:=#[60,60] }) {B:Nat} {o:Option Nat} {v:Value} {l:List (Int×Int)} (hs:a.eval p=v) (x:Int×Int) (y:Nat) (hx:a.eval q=.slice (some ⟨y,0,none⟩) 1 1)
  (h:RR P B o w v l) (hB:B<=w.heap.size) (hl:l.length * 16<=168884986026393) (hy:∀ j u,([.int .i64 x.1,.int .i64 x.2]:List Value)[j]?=some u->w.cell? ⟨y,j,none⟩=some u)
  (hK:∀ g C w',RR P B (some g) w' (.slice (some ⟨g,0,none⟩) (l.length+1) C) (l ++ [x])->w.grownBy w' o->(o=some g∨g=w.heap.size)->K (a.put oo.dst (.slice (some ⟨g,0,none⟩) (l.length+1) C)) w') :
  if Region.wanted oo (yielded ops a.tmps)=true then Oper.wp prog oo a w K Q else E:=by
 have hw:Region.wanted oo (yielded ops a.tmps)=true:=by simp[Region.wanted,hg]
 rw[if_pos hw];unfold Oper.wp;obtain⟨g,C,w',hr,h1,h2,h3⟩:=j5o h hB hl x y hy
 simp[execOp,hop,resolve,invoke,builtin,hs,hx,hty,hr,Result.andThen]
 exact hK _ _ _ h1 h2 h3
end Kc
namespace Pv
def swI(l:List Int)(p:Nat):List Int:=(l.set (p+1) (l.getD p 0)).set p (l.getD (p+1) 0)
def j0f:Nat->List Int->List Int
 | 0,l=>l
 | p+1,l=>if l.getD (p+1) 0<l.getD p 0 then j0f p (swI l p) else l
def q6m(l:List Int):Nat->List Int
 | 0=>l
 | m+1=>j0f (m+1) (q6m l m)
def z5m(l:List Int):List Int:=q6m l (l.length - 1)
theorem z8X(l:List Int)(p:Nat):(swI l p).length=l.length:=by simp[swI]
theorem z7V:∀ (j:Nat) (l:List Int),(j0f j l).length=l.length
 | 0,_=>rfl
 | p+1,l=>by rw[j0f];split;rw[z7V p,z8X];rfl
theorem z5y(l:List Int):∀ m,(q6m l m).length=l.length
 | 0=>rfl
 | m+1=>by rw[q6m,z7V,z5y l m]
theorem q1D(l:List Int):(z5m l).length=l.length:=z5y _ _
theorem z4T:∀ (l:List Int) (a:Int),z2g a l=true->∀ x∈l,a<x/\x<=5
 | [],_,_,x,hx=>by cases hx
 | y :: l,a,h,x,hx=>by
  simp only[z2g,Bool.and_eq_true,decide_eq_true_eq]at h
  rcases List.mem_cons.1 hx with rfl | hx
  ·exact⟨h.1.1,h.1.2⟩
  ·have:=z4T l y h.2 x hx;exact⟨by omega,this.2⟩
theorem q4v:∀ (l m:List Int) (a b:Int),z2g a l=true->z2g b m=true->(∀ x,x∈l↔x∈m)->l=m
 | [],[],_,_,_,_,_=>rfl
 | [],y :: m,_,_,_,_,h=>by have:=(h y).2 (List.mem_cons_self);cases this
 | x :: l,[],_,_,_,_,h=>by have:=(h x).1 (List.mem_cons_self);cases this
 | x :: l,y :: m,a,b,hl,hm,h=>by
  simp only[z2g,Bool.and_eq_true,decide_eq_true_eq]at hl hm
  have e:x=y:=by
   rcases List.mem_cons.1 ((h x).1 List.mem_cons_self) with h1 | h1
   ·exact h1
   ·rcases List.mem_cons.1 ((h y).2 List.mem_cons_self) with h2 | h2
    ·exact h2.symm
    ·have:=(z4T m y hm.2 x h1).1;have:=(z4T l x hl.2 y h2).1;omega
  subst e;rw[q4v l m x x hl.2 hm.2 fun z=>⟨fun hz=>?_,fun hz=>?_⟩]
  ·rcases List.mem_cons.1 ((h z).1 (List.mem_cons_of_mem _ hz)) with h1 | h1
   ·have:=(z4T l x hl.2 z hz).1;omega
   ·exact h1
  ·rcases List.mem_cons.1 ((h z).2 (List.mem_cons_of_mem _ hz)) with h1 | h1
   ·have:=(z4T m x hm.2 z hz).1;omega
   ·exact h1
def six:List Int:=[0,1,2,3,4,5]
theorem j9m:(List.range 6).map Int.ofNat=six:=by decide
theorem j6U{v:Int}(h0:0<=v)(h1:v<=5):v∈six:=by
 rcases (show v=0∨v=1∨v=2∨v=3∨v=4∨v=5 by omega) with rfl | rfl | rfl | rfl | rfl | rfl <;> decide
def mkB(b0 b1 b2 b3 b4 b5:Bool):List Int:=(if b0 then [0] else []) ++ (if b1 then [1] else []) ++ (if b2 then [2] else []) ++ (if b3 then [3] else []) ++ (if b4 then [4] else []) ++ (if b5 then [5] else [])
theorem z5N(f:Int->Bool):six.filter f=mkB (f 0) (f 1) (f 2) (f 3) (f 4) (f 5):=by
 unfold six mkB;simp only[List.filter_cons,List.filter_nil];cases f 0 <;> cases f 1 <;> cases f 2 <;> cases f 3 <;> cases f 4 <;> cases f 5 <;> rfl
theorem q6X:∀ b0 b1 b2 b3 b4 b5:Bool,z2g (-1) (mkB b0 b1 b2 b3 b4 b5)=true:=by decide +kernel
theorem q2M{D:List Int}(h:z2g (-1) D=true):D=six.filter fun u=>decide (u∈D):=by
 refine q4v D _ (-1) (-1) h (by rw[z5N];exact q6X _ _ _ _ _ _) fun x=>⟨fun hx=>?_,fun hx=>?_⟩
 ·have:=z4T D (-1) h x hx;exact List.mem_filter.2 ⟨j6U (by omega) this.2,by simpa using hx⟩
 ·simpa using (List.mem_filter.1 hx).2
theorem q0y(D:List Int)(v:Int):z3h D v=six.filter fun u=>decide (u=v) || decide (u∈D):=by unfold z3h;rw[j9m]
theorem q7V(D:List Int)(v:Int):z2g (-1) (z3h D v)=true:=by rw[q0y,z5N];exact q6X _ _ _ _ _ _
theorem j5s{D:List Int}{v:Int}(h:z2g (-1) D=true)(hv:v∈D):z3h D v=D:=by
 rw[q0y]
 conv=>rhs;rw[q2M h]
 congr 1
 funext u
 by_cases e:u=v
 ·subst e;simp[hv]
 ·simp[e]
theorem q4I{D:List Int}(h:z2g (-1) D=true):D.length<=6:=by
 rw[q2M h];exact List.length_filter_le _ _
theorem j5l:∀ b0 b1 b2 b3 b4 b5:Bool,(b0=false->z5m (mkB b0 b1 b2 b3 b4 b5 ++ [0])=mkB true b1 b2 b3 b4 b5)/\(b1=false->z5m (mkB b0 b1 b2 b3 b4 b5 ++ [1])=mkB b0 true b2 b3 b4 b5)/\(b2=false->z5m (mkB b0 b1 b2 b3 b4 b5 ++ [2])=mkB b0 b1 true b3 b4 b5)/\(b3=false->z5m (mkB b0 b1 b2 b3 b4 b5 ++ [3])=mkB b0 b1 b2 true b4 b5)/\(b4=false->z5m (mkB b0 b1 b2 b3 b4 b5 ++ [4])=mkB b0 b1 b2 b3 true b5)/\(b5=false->z5m (mkB b0 b1 b2 b3 b4 b5 ++ [5])=mkB b0 b1 b2 b3 b4 true):=by decide +kernel
theorem q9C{D:List Int}{v:Int}(h:z2g (-1) D=true)(h0:0<=v)(h1:v<=5)(hv:v ∉ D):z5m (D ++ [v])=z3h D v:=by
 have hm:=q2M h;rw[z5N]at hm;have hv':decide (v∈D)=false:=by simpa using hv
 have k:=j5l (decide ((0:Int)∈D)) (decide ((1:Int)∈D)) (decide ((2:Int)∈D)) (decide ((3:Int)∈D)) (decide ((4:Int)∈D)) (decide ((5:Int)∈D));rw[← hm]at k;rw[q0y,z5N]
 rcases (show v=0∨v=1∨v=2∨v=3∨v=4∨v=5 by omega) with rfl | rfl | rfl | rfl | rfl | rfl
 ·rw[k.1 hv'];simp
 ·rw[k.2.1 hv'];simp
 ·rw[k.2.2.1 hv'];simp
 ·rw[k.2.2.2.1 hv'];simp
 ·rw[k.2.2.2.2.1 hv'];simp
 ·rw[k.2.2.2.2.2 hv'];simp
end Pv
namespace Pv
open Go.RowKit
theorem q5k(l:List Int)(u:Value)(P:Nat->Prop)(w:World)(v:Int)(hu:Rep P w u 1 8 (inC l)) :
  Calls prog 204 #[u,.int .i64 v] w fun e w'=>(∃ r:Int,e=.returned (.int .i64 r)/\decide (0<=r)=decide (v∈l))/\w=w':=by
 obtain⟨A,C,rfl,hs,-,hc,-⟩:=hu.open (z0r _) (by decide)
 have HC:=hide hc;have hla:l.length<=17592186044405:=by omega
 obtain⟨G,hG⟩:∃ G,decide (v∈l)=G:=⟨_,rfl⟩;have HG:=hide hG;rw[hG];clear hc hu hs hG
 go_enter func204,ntmps204
 go_wp2
 go_loop [8] (fun i=>∃ (k:Nat),k<=l.length/\i=.int .i64 (k:Int)/\Hid (G=decide (v∈l.drop k))) (fun i=>l.length - (intOf i).toNat)
 case atStart=>exact⟨0,Nat.zero_le _,rfl,by rw[List.drop_zero];exact HG.out.symm⟩
 case round =>
  obtain⟨k,hk,rfl,HR⟩:=hrel
  by_cases hlt:k<l.length
  ·have hkI:(k:Int)<(l.length:Int):=by omega
   obtain⟨x,hx,hd⟩:=z9U hlt;obtain⟨ba,oa,rfl,-,hbl,hcell⟩:=HC.out (by omega)
   have gx:l.getD k 0=x:=by simp[List.getD,hx]
   have p0:=z4J l k hlt;rw[gx]at p0;have c0:w.cell? ⟨ba,oa+k,none⟩=some (.int .i64 x):=hcell _ _ p0;have HE:Hid (G=decide (v∈x :: l.drop (k+1))):=by have:=HR.out;rw[hd]at this;exact this
   clear HR hd hx gx p0 hcell
   by_cases h1:v=x
   ·subst h1;have e:G=true:=by rw[HE.out];simp
    subst e;clear HE HG;go_wp2;go_ret;exact⟨⟨_,rfl,by simp⟩,rfl⟩
   ·have HE2:Hid (G=decide (v∈l.drop (k+1))):=by rw[Hid,HE.out];simp[h1]
    clear HE;go_wp2
    go_round
    case rel=>exact⟨k+1,by omega,by go_num,HE2⟩
    case measure=>simp[intOf];omega
  ·obtain rfl:k=l.length:=by omega
   have e:G=false:=by have:=HR.out;rw[List.drop_length]at this;simpa using this
   subst e;go_wp2;go_ret;exact⟨⟨_,rfl,by decide⟩,rfl⟩
theorem z9S(l:List Int)(u:Value)(P:Nat->Prop)(w:World)(v:Int)(hu:Rep P w u 1 8 (inC l)) :
  Calls prog 196 #[u,.int .i64 v] w fun e w'=>e=.returned (.bool (decide (v∈l)))/\w=w':=by
 have HI:=hide (q5k l u P w v hu);generalize decide (v∈l)=G at *;clear hu
 go_enter func196,ntmps196
 go_wp2_with (go_at_call 204;refine HI.out.mono ?_;rintro e w1⟨⟨r,rfl,hr⟩,rfl⟩)
 go_ret;subst hr;exact⟨rfl,rfl⟩
theorem q7O(ao:Option Addr)(n c:Nat)(hn:n<=c)(h0:ao=none->n=0)(hc:(n:Int)<4611686018427387904)(w:World):Calls prog 197 #[.slice ao n c] w fun e w'=>e=.returned (.slice ao n n)/\w=w':=by
 have h1:(n:Int)<=(c:Int):=by omega
 have h2:(0:Int)<=(n:Int):=by omega
 go_enter func197,ntmps197
 cases ao
 ·obtain rfl:=h0 rfl;go_wp2;go_ret;exact⟨rfl,rfl⟩
 ·clear h0;go_wp2;go_ret;exact⟨rfl,rfl⟩
def z6i(w:World)(g:Nat)(l:List Int):Prop:=∃ cur:Array Value,w.heap[g]?=some (.cells cur 3 (0,0))/\∀ (i:Nat) (x:Int),l[i]?=some x->cur[i]?=some (Value.int .i64 x)
theorem z6i.later{w w':World}{g:Nat}{l:List Int}(h:z6i w g l)(hb:Below w.heap.size w w'):z6i w' g l:=by
 obtain⟨cur,hc,hx⟩:=h;exact⟨cur,(hb.block g (Array.getElem?_eq_some_iff.1 hc).1).trans hc,hx⟩
theorem z6i.cell{w:World}{g:Nat}{l:List Int}(h:z6i w g l){i:Nat}(hi:i<l.length):w.cell? ⟨g,i,none⟩=some (.int .i64 (l.getD i 0)):=by
 obtain⟨cur,hc,hx⟩:=h;have e:l[i]?=some (l.getD i 0):=by simp[List.getD,hi]
 have h1:=hx i _ e;simp only[World.cell?,hc]
 simp[h1]
theorem z6i.free{w:World}{g:Nat}{l:List Int}(h:z6i w g l)(o:Nat):w.frozen? ⟨g,o,none⟩=false:=by
 obtain⟨cur,hc,_⟩:=h
 simp[World.frozen?,hc]
theorem z6i.lt{w:World}{g:Nat}{l:List Int}(h:z6i w g l):g<w.heap.size:=by
 obtain⟨cur,hc,_⟩:=h;exact (Array.getElem?_eq_some_iff.1 hc).1
theorem z6i.put{w:World}{g:Nat}{l:List Int}(h:z6i w g l){i:Nat}(hi:i<l.length)(x:Int):z6i (w.setCell ⟨g,i,none⟩ (.int .i64 x)) g (l.set i x):=by
 obtain⟨cur,hc,hx⟩:=h;have s1:i<cur.size:=(Array.getElem?_eq_some_iff.1 (hx i _ (List.getElem?_eq_getElem hi))).1;refine⟨cur.setIfInBounds i (.int .i64 x),?_,fun j y hy=>?_⟩
 ·simp[World.setCell,Array.getElem?_modify,hc]
 ·rw[List.getElem?_set]at hy
  by_cases hj:i=j
  ·subst hj;rw[if_pos rfl,if_pos hi]at hy
   simp at hy
   subst hy
   simp[s1]
  ·rw[if_neg hj]at hy;have h1:=hx j y hy;simp only[Array.getElem?_setIfInBounds];rw[if_neg hj];exact h1
theorem z6i.rep{w:World}{g C:Nat}{l:List Int}(h:z6i w g l)(hC:l.length<=C)(hl:l.length * 8<=140737488351232):Rep (fun b=>b=g) w (.slice (some ⟨g,0,none⟩) l.length C) 1 8 (inC l):=by
 refine⟨_,l.length,C,rfl,by simp[inC],hl,⟨fun e=>(by cases e),hC⟩,fun h0=>⟨g,0,rfl,rfl,h.lt,fun j u hu=>?_⟩⟩
 have hj:j<l.length:=by have:=(List.getElem?_eq_some_iff.1 hu).1;rw[z0r]at this;omega
 rw[Nat.zero_add,h.cell hj,← hu,z4J l j hj]
theorem q8I(x y:Int)(w:World):Calls prog 213 #[.int .i64 x,.int .i64 y] w fun e w'=>e=.returned (.bool (decide (x<y)))/\w=w':=by
 go_enter func213,ntmps213
 by_cases h:x<y
 ·go_wp2_with (go_at_call 189;refine (z7y _ _).mono ?_;rintro e w1⟨rfl,rfl⟩)
  all_goals (go_ret;exact⟨by simp[h],rfl⟩)
 ·go_wp2_with (go_at_call 189;refine (z7y _ _).mono ?_;rintro e w1⟨rfl,rfl⟩)
  all_goals (go_ret;exact⟨by simp,rfl⟩)
theorem j2s(g cap:Nat)(l:List Int)(w:World)(h:z6i w g l)(hn:l.length<=12) :
  Calls prog 207 #[.slice (some ⟨g,0,none⟩) l.length cap,.int .i64 0,.int .i64 (l.length:Int)] w fun e w'=>e=.returned (.tuple #[])/\z6i w' g (z5m l)/\z3f g w w':=by
 have HR0:=hide h;clear h
 go_enter func207,ntmps207
 go_wp2
 go_loopw [6] (fun i wl=>∃ m:Nat,i=.int .i64 ((m:Int)+1)/\(m+1<=l.length∨m=0)/\Hid (z6i wl g (q6m l m)/\z3f g w wl)) (fun i _=>l.length - (intOf i).toNat)
 case atStart=>exact⟨0,rfl,.inr rfl,HR0.out,z3f.refl _ _⟩
 case round =>
  obtain⟨m,rfl,hm,HR⟩:=hrel
  by_cases hlt:m+1<l.length
  ·rename World=>wo
   have hlt':(m:Int)+1<(l.length:Int):=by omega
   go_wp2_with fail
   go_loopw [7] (fun j wl=>∃ (p:Nat) (l':List Int),j=.int .i64 (p:Int)/\p<=m+1/\l'.length=l.length/\Hid (j0f (m+1) (q6m l m)=j0f p l'/\z6i wl g l'/\z3f g w wl)) (fun j _=>(intOf j).toNat)
   case atStart=>exact⟨m+1,q6m l m,by go_num,Nat.le_refl _,z5y _ _,rfl,HR.out⟩
   case round =>
    obtain⟨p,l',rfl,hp,hl',HI⟩:=hrel;have hsz:w.heap.size<=wr.heap.size:=HI.out.2.2.size;cases p with
    | zero =>
     have hg0:decide ((0:Int)<0)=false:=by decide
     go_upto_region 4 with fail
     go_quiet (fail);go_wp2;go_roundw
     case rel=>exact⟨m+1,by go_num,.inl (by omega),(by rw[q6m,HI.out.1];exact HI.out.2.1),(show z3f g w (wr.drewN nq) from HI.out.2.2.drewN nq)⟩
     case measure=>simp[intOf];omega
    | succ p =>
     have hp1:p+1<l'.length:=by omega
     have c0:=HI.out.2.1.cell (i:=p+1) hp1;have d0:=HI.out.2.1.cell (i:=p) (by omega)
     have hC:=q8I (l'.getD (p+1) 0) (l'.getD p 0);have hgl:=HI.out.2.1.lt;have HI1:Hid (j0f (m+1) (q6m l m)=if l'.getD (p+1) 0<l'.getD p 0 then j0f p (swI l' p) else l'):=HI.out.1;have HRow:=hide HI.out.2;clear HI;generalize hA:l'.getD (p+1) 0=A at *;generalize hB:l'.getD p 0=B at *;have HA:=hide hA;have HB:=hide hB;clear hA hB;have hw1:IntKind.i64.wrap (((p+1:Nat):Int) - 1)=(p:Int):=by rw[show ((p+1:Nat):Int) - 1=(p:Int) by omega];exact z6D (by omega) (by omega)
     generalize hq:p+1=q at *;have HQ:=hide hq;clear hq;have hq0:(0:Int)<=(q:Int):=by omega
     have hq1:(q:Int)<(l.length:Int):=by omega
     have hp0:(0:Int)<=(p:Int):=by omega
     have hp2:(p:Int)<(l.length:Int):=by have:=HQ.out;omega
     have hg0:decide (0<q)=true:=by have:=HQ.out;simp;omega
     go_upto_region 4 with fail
     go_region_held3 (fun wx=>wx.cell? ⟨g,q,none⟩=some (.int .i64 A)/\wx.cell? ⟨g,p,none⟩=some (.int .i64 B)) (first | go_keep | exact⟨c0,d0⟩)
      (first | (go_at_call 213;refine (hC _).mono ?_;rintro e w1⟨rfl,rfl⟩))
     rename_i hh;obtain⟨c0',d0'⟩:=hh;have hR1:=HRow.out.1.later (w':=wr.drew) (show Below wr.heap.size wr wr.drew from (Below.refl _ wr).drew);have hB1:z3f g w wr.drew:=HRow.out.2.trans (z3f.of_below (show Below wr.heap.size wr wr.drew from (Below.refl _ wr).drew));generalize wr.drew=w1 at *;have HR1:=hide hR1;have HB1:=hide hB1;have f0:=hR1.free q;have f2:=hR1.free p;clear hR1 hB1 c0 d0 HRow hC
     by_cases hr:A<B
     ·have hd:decide (A<B)=true:=by simpa using hr
      rw[hd];have hqp:=HQ.out;have n1:¬ p=q:=by omega
      have n2:¬ q=p:=by omega
      clear hqp
      go_upto_region 6 with fail
      go_region;have hsw:(l'.set q B).set p A=swI l' p:=by rw[swI,HQ.out,HA.out,HB.out]
      have HR2:Hid (z6i (((w1.setCell ⟨g,q,none⟩ (.int .i64 B)).setCell ⟨g,p,none⟩ (.int .i64 A)).drew) g (swI l' p)):=by
       rw[← hsw];exact (HR1.out.put hp1 B).put (by simp;omega) A
      have HB2:Hid (z3f g w (((w1.setCell ⟨g,q,none⟩ (.int .i64 B)).setCell ⟨g,p,none⟩ (.int .i64 A)).drew)):=((HB1.out.set _ _).set _ _).drew;have HE:Hid (j0f (m+1) (q6m l m)=j0f p (swI l' p)):=by rw[HI1.out];exact if_pos hr
      clear hsw;generalize ((w1.setCell ⟨g,q,none⟩ (.int .i64 B)).setCell ⟨g,p,none⟩ (.int .i64 A)).drew=w2 at *;go_wp2;go_roundw
      case rel=>exact⟨p,swI l' p,rfl,by have:=HQ.out;omega,(by rw[z8X];exact hl'),HE.out,HR2.out,HB2.out⟩
      case measure=>have:=HQ.out;simp[intOf];omega
     ·have hd:decide (A<B)=false:=by simpa using hr
      rw[hd];have HE:Hid (j0f (m+1) (q6m l m)=l'):=by rw[HI1.out];exact if_neg hr
      go_wp2;go_roundw
      case rel=>exact⟨m+1,by go_num,.inl (by omega),(by rw[q6m,HE.out];exact HR1.out),HB1.out⟩
      case measure=>simp[intOf];omega
  ·have hE:z5m l=q6m l m:=by
    unfold z5m
    rcases hm with h | rfl
    ·rw[show l.length - 1=m by omega]
    ·rcases (show l.length=0∨l.length=1 by omega) with h | h <;> rw[h]
   have HE:=hide hE;clear hE;go_wp2;go_end0;exact⟨rfl,by rw[HE.out];exact HR.out.1,HR.out.2⟩
theorem j1M(g cap:Nat)(lim:Int)(l:List Int)(w:World)(h:z6i w g l)(hn:l.length<=12) :
  Calls prog 205 #[.slice (some ⟨g,0,none⟩) l.length cap,.int .i64 0,.int .i64 (l.length:Int),.int .i64 lim] w fun e w'=>e=.returned (.tuple #[])/\z6i w' g (z5m l)/\z3f g w w':=by
 have hI:=j2s g cap l w h hn;have hn':(l.length:Int)<=12:=by omega
 clear h
 go_enter func205,ntmps205
 go_wp2_with fail
 go_loopw [1,2] (fun a b wl=>a=.int .i64 0/\b=.int .i64 (l.length:Int)/\Hid (wl=w)) (fun _ _ _=>0)
 case atStart=>exact⟨rfl,rfl,rfl⟩
 case round =>
  obtain⟨rfl,rfl,HW⟩:=hrel;have e:=HW.out;subst e;clear HW
  go_wp2_with (go_at_call 207;refine hI.mono ?_;rintro e w1⟨rfl,h1⟩;have H1:=hide h1;clear h1)
  exact bodyPost_ret (v:=.tuple #[]) (by simp[results,results205]) rfl ⟨rfl,H1.out⟩
theorem q9A(n:Nat)(hn:n<=12)(w:World):Calls prog 159 #[.int .u64 (n:Int)] w fun e w'=>(∃ k,e=.returned (.int .i64 k))/\w=w':=by
 have hL:=Ra.j2B n (by omega)
 go_enter func159,ntmps159
 go_wp2_with (go_at_call 188;refine (hL _).mono ?_;rintro e w1⟨rfl,rfl⟩)
 go_ret;exact⟨⟨_,rfl⟩,rfl⟩
theorem q7C(g cap:Nat)(l:List Int)(w:World)(h:z6i w g l)(hn:l.length<=12) :
  Calls prog 198 #[.slice (some ⟨g,0,none⟩) l.length cap] w fun e w'=>e=.returned (.tuple #[])/\z6i w' g (z5m l)/\z3f g w w':=by
 have hP:=fun lim=>j1M g cap lim l w h hn;have hL:=q9A l.length hn w;clear h
 go_enter func198,ntmps198
 go_wp2_with (first
  | (go_at_call 159;refine hL.mono ?_;rintro e w1⟨⟨k,rfl⟩,rfl⟩)
  | (go_at_call 205;refine (hP _).mono ?_;rintro e w2⟨rfl,h1⟩;have H1:=hide h1;clear h1))
 go_end0;exact⟨rfl,H1.out⟩
end Pv
section
theorem swap_perm:∀ (l:List Pw) (p:Nat),p+1<l.length->(swapAt l p).Perm l
 | [],_,h=>by simp at h
 | [_],_,h=>by simp at h
 | a :: b :: t,0,_=>by
  have e:swapAt (a :: b :: t) 0=b :: a :: t:=by simp[swapAt]
  rw[e];exact List.Perm.swap a b t
 | a :: b :: t,p+1,h=>by
  have e:swapAt (a :: b :: t) (p+1)=a :: swapAt (b :: t) p:=by simp[swapAt]
  rw[e];exact (swap_perm (b :: t) p (by simp at h ⊢;omega)).cons a
theorem j0t(l:List Pw)(p:Nat)(h:p+1<l.length)(i:Nat):(swapAt l p).getD i pz=if i=p then l.getD (p+1) pz else if i=p+1 then l.getD p pz else l.getD i pz:=by
 unfold swapAt;simp only[List.getD_eq_getElem?_getD,List.getElem?_set,List.length_set]
 by_cases h1:i=p
 ·subst h1;simp[show i<l.length by omega]
 ·by_cases h2:i=p+1
  ·subst h2;simp[h]
  ·rw[if_neg (by omega),if_neg (by omega),if_neg h1,if_neg h2]
def Srt(lt:Pw->Pw->Bool)(l:List Pw)(m:Nat):Prop:=∀ i j,i<j->j<m->lt (l.getD j pz) (l.getD i pz)=false
structure Ord(lt:Pw->Pw->Bool):Prop where
 asym:∀ a b,lt a b=true->lt b a=false
 trans:∀ a b c,lt b a=false->lt c b=false->lt c a=false
theorem j0o{lt:Pw->Pw->Bool}(o:Ord lt):∀ (p:Nat) (l:List Pw) (m:Nat),p<m->m<=l.length->(∀ i j,i<j->j<m->j≠p->lt (l.getD j pz) (l.getD i pz)=false)->Srt lt (z8w lt p l) m
 | 0,l,m,_,_,h=>fun i j hij hj=>h i j hij hj (by omega)
 | p+1,l,m,hp,hm,h=>by
  rw[z8w]
  split
  ·rename_i hlt;refine j0o o p _ m (by omega) (by rw[z3o];exact hm) fun i j hij hj hjp=>?_
   have hs:=j0t l p (by omega)
   rw[hs j,hs i]
   by_cases h1:j=p+1
   ·subst h1;rw[if_neg (by omega),if_pos rfl]
    by_cases h2:i=p
    ·subst h2;rw[if_pos rfl];exact o.asym _ _ hlt
    ·rw[if_neg h2,if_neg (by omega)];exact h i p (by omega) (by omega) (by omega)
   ·rw[if_neg hjp,if_neg h1]
    by_cases h2:i=p
    ·subst h2;rw[if_pos rfl];exact h _ j (by omega) hj h1
    ·rw[if_neg h2]
     by_cases h3:i=p+1
     ·subst h3;rw[if_pos rfl];exact h p j (by omega) hj h1
     ·rw[if_neg h3];exact h i j hij hj h1
  ·rename_i hlt;have hlt':lt (l.getD (p+1) pz) (l.getD p pz)=false:=by simpa using hlt
   intro i j hij hj
   by_cases h1:j=p+1
   ·subst h1
    by_cases h2:i=p
    ·subst h2;exact hlt'
    ·exact o.trans _ _ _ (h i p (by omega) (by omega) (by omega)) hlt'
   ·exact h i j hij hj h1
theorem q3B(lt:Pw->Pw->Bool):∀ (p:Nat) (l:List Pw),p<l.length->(z8w lt p l).Perm l
 | 0,_,_=>List.Perm.refl _
 | p+1,l,h=>by
  rw[z8w]
  split
  ·exact (q3B lt p _ (by rw[z3o];omega)).trans (swap_perm l p h)
  ·exact List.Perm.refl _
theorem z8V{lt:Pw->Pw->Bool}(o:Ord lt)(l:List Pw):∀ k,k<l.length->Srt lt (z1r lt l k) (k+1)
 | 0,_=>fun i j hij hj=>by omega
 | k+1,h=>by
  rw[z1r];exact j0o o (k+1) _ (k+2) (by omega) (by rw[z2a];omega) fun i j hij hj hk=>z8V o l k (by omega) i j hij (by omega)
theorem z8b(lt:Pw->Pw->Bool)(l:List Pw):∀ k,k<l.length->(z1r lt l k).Perm l
 | 0,_=>List.Perm.refl _
 | k+1,h=>by
  rw[z1r];exact (q3B lt (k+1) _ (by rw[z2a];exact h)).trans (z8b lt l k (by omega))
theorem z3N(lt:Pw->Pw->Bool)(l:List Pw):(z2G lt l).Perm l:=by
 unfold z2G
 rcases Nat.eq_zero_or_pos l.length with h | h
 ·rw[h];exact List.Perm.refl _
 ·exact z8b lt l _ (by omega)
theorem j0g{lt:Pw->Pw->Bool}(o:Ord lt)(l:List Pw):Srt lt (z2G lt l) l.length:=by
 unfold z2G
 rcases Nat.eq_zero_or_pos l.length with h | h
 ·intro i j hij hj;omega
 ·have:=z8V o l (l.length - 1) (by omega)
  rwa [show l.length - 1+1=l.length by omega]at this
theorem q8Q(a b:Pw):ltV a b=true↔a.1<b.1:=by
 unfold ltV j3y j2P;rw[decide_eq_true_eq]
 split
 ·simp_all
 ·split <;> simp_all <;> omega
theorem j0y(a b:Pw):ltV a b=false↔¬ a.1<b.1:=by rw[← q8Q,Bool.not_eq_true]
theorem y1l:Ord ltV:=⟨fun a b h=>by rw[j0y];rw[q8Q]at h;omega,fun a b c h1 h2=>by rw[j0y]at *;omega⟩
theorem q0v(V:Nat->Vd)(x:Pw):∀ k,x∈z5f V k↔∃ i:Nat,i<k/\x=((i:Int),pwr (V i))/\0<pwr (V i)/\(V i).jail=false
 | 0=>by simp[z5f]
 | k+1=>by
  rw[z5f];have ih:=q0v V x k
  split
  ·rename_i h;simp only[Bool.and_eq_true,decide_eq_true_eq,Bool.not_eq_true']at h;rw[List.mem_append,ih,List.mem_singleton]
   constructor
   ·rintro (⟨i,hi,h1⟩ | rfl)
    ·exact⟨i,by omega,h1⟩
    ·exact⟨k,by omega,rfl,h.1,h.2⟩
   ·rintro⟨i,hi,h1⟩
    rcases Nat.lt_or_ge i k with h2 | h2
    ·exact .inl ⟨i,h2,h1⟩
    ·obtain rfl:i=k:=by omega
     exact .inr h1.1
  ·rename_i h;simp only[Bool.and_eq_true,decide_eq_true_eq,Bool.not_eq_true']at h;rw[ih]
   constructor
   ·rintro⟨i,hi,h1⟩;exact⟨i,by omega,h1⟩
   ·rintro⟨i,hi,h1⟩
    rcases Nat.lt_or_ge i k with h2 | h2
    ·exact⟨i,h2,h1⟩
    ·obtain rfl:i=k:=by omega
     exact absurd h1.2 h
theorem z6N(V:Nat->Vd):∀ k,(z5f V k).Pairwise (fun a b=>a.1≠b.1)
 | 0=>List.Pairwise.nil
 | k+1=>by
  rw[z5f]
  split
  ·rw[List.pairwise_append];refine⟨z6N V k,List.pairwise_singleton _ _,fun a ha b hb=>?_⟩;rw[q0v]at ha;obtain⟨i,hi,rfl,_⟩:=ha;rw[List.mem_singleton]at hb;subst hb
   show (i:Int)≠(k:Int)
   omega
  ·exact z6N V k
theorem j5J(V:Nat->Vd)(x:Pw):x∈z8v V↔x∈(z2G ltP (z5f V 6)).take 4:=(z3N _ _).mem_iff
theorem j9t(V:Nat->Vd)(x:Pw)(h:x∈z8v V):∃ i:Nat,i<6/\x=((i:Int),pwr (V i))/\0<pwr (V i)/\(V i).jail=false:=by
 rw[j5J]at h;exact (q0v V x 6).1 ((z3N _ _).mem_iff.1 (List.mem_of_mem_take h))
end
end Go.Proofs.YtmopekkhmhhcaaaGreat
