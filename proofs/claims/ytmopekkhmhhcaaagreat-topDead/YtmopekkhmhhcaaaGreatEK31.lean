/- Parts of the proof. -/
import Derived.Test.YtmopekkhmhhcaaaGreatEL
import Derived.Test.YtmopekkhmhhcaaaGreatEK24
set_option maxRecDepth 100000
set_option maxHeartbeats 16000000
namespace Go.Proofs.YtmopekkhmhhcaaaGreat
open Go.Proofs.Tryz
namespace Pv
open Go.RowKit
theorem z5F(p:Pr)(v:PrV)(k:Nat)(hk:k<2):∃ a c:List Value,a.length=66+k * 14/\prC p v=(a ++ (lkL (p.L k) (v.l k) ++ c)).toArray/\∀ x u,prC { p with L:=z0X p.L k x } (v.upd k u)=(a ++ (lkL x u ++ c)).toArray:=by
 have h0:([.int .i64 p.h,.int .i64 p.t] ++ ((stC p.s v.ws).toList ++ [v.set]):List Value).length=66:=by simp[z0e]
 match k,hk with
 | 0,_ =>
  refine ⟨[.int .i64 p.h,.int .i64 p.t] ++ ((stC p.s v.ws).toList ++ [v.set]),lkL (p.L 1) (v.l 1) ++ [.int .i64 p.ml,.int .i64 p.mn,v.q],h0,?_,fun x u=>?_⟩
  ·simp[prC]
  ·simp[prC,PrV.upd,z0X]
 | 1,_ =>
  refine ⟨[.int .i64 p.h,.int .i64 p.t] ++ ((stC p.s v.ws).toList ++ [v.set]) ++ lkL (p.L 0) (v.l 0),[.int .i64 p.ml,.int .i64 p.mn,v.q],?_,?_,fun x u=>?_⟩
  ·rw[List.length_append,h0];rfl
  ·simp[prC]
  ·simp[prC,PrV.upd,z0X]
theorem upd_same(v:PrV)(k:Nat):v.upd k (v.l k)=v:=by
 unfold PrV.upd;have:(fun i=>if i=k then v.l k else v.l i)=v.l:=by funext i;by_cases h:i=k <;> simp[h]
 rw[this]
theorem q2C{p:Pr}{v:PrV}(k:Nat)(hk:k<2)(j:Nat)(y:Value)(x:Lk)(u:LkV)(hj:j<14)(h:lkL x u=(lkL (p.L k) (v.l k)).set j y):(prC p v).setIfInBounds (66+k * 14+j) y=prC { p with L:=z0X p.L k x } (v.upd k u):=by
 obtain ⟨a,c,ha,h1,h2⟩:=z5F p v k hk;rw[h1,h2,set_mid _ _ _ _ _ _ ha (by exact hj),h]
def frL(L:Nat->Lk)(k:Nat):Nat->Lk:=fun c=>if c<k then z1v L c else L c
theorem j3k{L:Nat->Lk}{k:Nat}(h:(L k).on=false):frL L (k+1)=frL L k:=by
 funext c
 unfold frL z1v
 by_cases h1:c<k
 ·rw[if_pos h1,if_pos (by omega)]
 ·by_cases h2:c=k
  ·subst h2;rw[if_neg h1,if_pos (by omega),if_neg (by simp[h])]
  ·rw[if_neg h1,if_neg (by omega)]
theorem j7a{L:Nat->Lk}{k:Nat}(h:(L k).on=true):z0X (frL L k) k { L k with fresh:=true }=frL L (k+1):=by
 funext c
 show (if c=k then _ else (if c<k then z1v L c else L c))=(if c<k+1 then z1v L c else L c)
 by_cases h2:c=k
 ·subst h2;rw[if_pos rfl,if_pos (by omega)]
  show _=(if (L c).on=true then _ else _)
  rw[if_pos h]
 ·rw[if_neg h2]
  by_cases h1:c<k
  ·rw[if_pos h1,if_pos (by omega)]
  ·rw[if_neg h1,if_neg (by omega)]
theorem j2S{L:Nat->Lk}{k:Nat}:frL L k k=L k:=if_neg (Nat.lt_irrefl k)
theorem j5H(p:Pr)(s:St)(v:PrV):prC { p with s:=s,L:=frL p.L 2 } v=prC { p with s:=s,L:=z1v p.L } v:=rfl
def hk0(p:Pr)(k:Nat):Int:=if 0<k then z2I p 0 else 0
def hk1(p:Pr)(k:Nat):Int:=if 1<k then z2I p 1 else 0
def YC(w:World)(y:Nat)(h d a b:Int):Prop:=CAt 82 w y #[.int .i64 0,.int .i64 0,.int .i64 0,.int .i64 0,.int .i64 h,.int .i64 d,.int .i64 a,.int .i64 b]
theorem YC.hold{w:World}{y k:Nat}{a b:Int}{p:Pr}(h:YC w y a b (hk0 p k) (hk1 p k))(hk:k<2)(hon:(p.L k).on=true):YC (w.setCell ⟨y,6+k,none⟩ (.int .i64 (p.h+1))) y a b (hk0 p (k+1)) (hk1 p (k+1)):=by
 have:=CAt.set h (6+k) (.int .i64 (p.h+1))
 match k,hk with
 | 0,_=>simpa [YC,hk0,hk1,z2I,hon] using this
 | 1,_=>simpa [YC,hk0,hk1,z2I,hon] using this
theorem YC.skip{w:World}{y k:Nat}{a b:Int}{p:Pr}(h:YC w y a b (hk0 p k) (hk1 p k))(hk:k<2)(hoff:(p.L k).on=false):YC w y a b (hk0 p (k+1)) (hk1 p (k+1)):=by
 match k,hk with
 | 0,_=>simpa [YC,hk0,hk1,z2I,hoff] using h
 | 1,_=>simpa [YC,hk0,hk1,z2I,hoff] using h
theorem YC.at{w:World}{y k:Nat}{a b c d:Int}(h:YC w y a b c d)(hk:k<2):∃ e:Int,w.cell? ⟨y,6+k,none⟩=some (.int .i64 e):=by
 match k,hk with
 | 0,_=>exact ⟨c,CAt.cell h 6⟩
 | 1,_=>exact ⟨d,CAt.cell h 7⟩
attribute [local go_sem ↓] z1s z0F z0v z1k
theorem q3U(p:Pr)(v:PrV)(P:Nat->Prop)(w:World)(d x n now:Int)(hp:PIn P w p v) :
  Calls prog 63 #[.agg (prC p v),.int .i64 d,.int .i64 x,.int .i64 n,.int .i64 now] w (j2O P w (z1S p d x n now)):=by
 have hD:z1S p d x n now=if z0J p=true/\isT now=true then if (z0R p.s d x n (q0t p now)).2=0 then ({ p with s:=(z0R p.s d x n (q0t p now)).1,L:=z1v p.L },0) else (p,(z0R p.s d x n (q0t p now)).2) else (p,2):=rfl
 generalize z1S p d x n now=D at *;have HD:=hide hD;clear hD;have hone:=z0V hp;have HGD:=hide (fun (wx:World) (hb:Below w.heap.size w wx)=>z2x p v P wx (hp.over hb));have HN:=hide (fun (wx:World) (hb:Below w.heap.size w wx)=>hp.z2s hb 2);have HU:=hide (fun (wx:World) (hb:Below w.heap.size w wx)=>j0j ((hp.ws.mono (P':=fun b=>P b/\b<w.heap.size) fun _ hl hP=>⟨hP,hl⟩).over hb) d x n (q0t p now));have HP:=hide hp;clear hp
 have HGH:Hid (z0J p=true->0<=p.h/\p.h<=1099511627775):=fun h=>by
  unfold z0J at h;simp only[Bool.and_eq_true,decide_eq_true_eq]at h;exact ⟨h.1.1.1.1.1.1.2,h.1.1.1.1.1.2⟩
 have HTI:Hid (isT now=true->0<=now/\now<=1099511627776):=fun h=>by
  unfold isT at h;simp only[Bool.and_eq_true,decide_eq_true_eq]at h;exact h
 generalize z0J p=G at *
 go_enter func63,ntmps63
 go_upto_region 1 with fail
 change Code.wp prog _ _ _ ((w.alloc (.cells (prC p v) 57)).alloc (.cells zeroCells57 57));have C0:CAt 57 ((w.alloc (.cells (prC p v) 57)).alloc (.cells zeroCells57 57)) w.heap.size (prC p v):=(CAt.new _ w _).alloc _;have R0:CAt 57 ((w.alloc (.cells (prC p v) 57)).alloc (.cells zeroCells57 57)) (w.heap.size+1) zeroCells57:=CAt.new2 _ w _ _;have B0:Below w.heap.size w ((w.alloc (.cells (prC p v) 57)).alloc (.cells zeroCells57 57)):=(znw w _).alloc (by simp) _
 generalize (w.alloc (.cells (prC p v) 57)).alloc (.cells zeroCells57 57)=w0 at *;have l0:=z0i C0 (z0b _ _);have H0:=hide (show _/\_/\_ from ⟨C0,R0,B0⟩);clear C0 R0 B0
 by_cases hok:G=true/\isT now=true
 ·obtain ⟨rfl,hti⟩:=hok;replace HD:=hide (HD.out.trans (if_pos ⟨rfl,hti⟩));obtain ⟨hh0,hh1⟩:=HGH.out rfl;obtain ⟨ht0,ht1⟩:=HTI.out hti;have hh2:p.h<=1099511627776:=by omega
  clear HGH HTI
  go_upto_region 3 with (first
   | (go_at_call 74;refine (HGD.out _ H0.out.2.2).mono ?_;rintro e w1 ⟨rfl,hb1⟩;clear l0)
   | (go_at_call 76;refine (z3A _ _).mono ?_;rintro e w' ⟨rfl,rfl⟩))
  have C1:=H0.out.1.over hb1;have R1:=H0.out.2.1.over hb1;have B1:=zbt H0.out.2.2 hb1;have HOP:=hide (z7q w.heap.size p v w1 C1 hh0 hh2);have H1:=hide (show _/\_/\_ from ⟨C1,R1,B1⟩);have hz1:=R1.lt;clear C1 R1 B1 hb1 H0 HGD
  go_upto_region 4 with (go_at_call 77;refine HOP.out.mono ?_;rintro e w' ⟨rfl,rfl⟩)
  have Y2:YC (w1.alloc (.cells #[.int .i64 0,.int .i64 0,.int .i64 0,.int .i64 0,.int .i64 (p.h+1),.int .i64 (now+20),.int .i64 0,.int .i64 0] 82)) w1.heap.size (p.h+1) (now+20) 0 0:=CAt.new _ w1 _;have b2:Below w1.heap.size w1 (w1.alloc (.cells #[.int .i64 0,.int .i64 0,.int .i64 0,.int .i64 0,.int .i64 (p.h+1),.int .i64 (now+20),.int .i64 0,.int .i64 0] 82)):=znw w1 _;have C2:=H1.out.1.over b2;have R2:=H1.out.2.1.over b2;have B2:=zbt H1.out.2.2 b2;clear b2 H1 HOP;generalize w1.alloc (.cells #[.int .i64 0,.int .i64 0,.int .i64 0,.int .i64 0,.int .i64 (p.h+1),.int .i64 (now+20),.int .i64 0,.int .i64 0] 82)=w2 at *;generalize w1.heap.size=yb at *;have hz2:=CAt.lt Y2;have H2:=hide (show _/\_/\_/\_ from ⟨Y2,C2,R2,B2⟩);clear Y2 C2 R2 B2
  go_upto_region 5 with fail
  go_loopw [31] (fun i wl=>∃ (k:Nat),k<=2/\i=.int .i64 (k:Int)/\Hid (YC wl yb (p.h+1) (now+20) (hk0 p k) (hk1 p k)/\Alt yb w2 wl)) (fun i _=>(2 - intOf i).toNat)
  case atStart=>exact ⟨0,by omega,rfl,H2.out.1,Alt.refl _ _⟩
  case round =>
   obtain ⟨k,hk,rfl,HR⟩:=hrel
   by_cases hk2:k<2
   ·have hkk:(k:Int)<2:=by omega
    have hkz:(0:Int)<=(k:Int):=by omega
    have o1:wr.cell? ⟨w.heap.size,66+k * 14,none⟩=some (.bool (p.L k).on):=(CAt.lk (HR.out.2.cat (by omega) H2.out.2.1) hk2).facts.1
    obtain ⟨e6,c6⟩:=HR.out.1.at hk2;have f6:=CAt.free HR.out.1 (6+k);have c4:wr.cell? ⟨yb,4,none⟩=some (.int .i64 (p.h+1)):=CAt.cell HR.out.1 4;have hzr:=CAt.lt HR.out.1;cases hon:(p.L k).on
    ·rw[hon]at o1;have HF:=hide (show _/\_ from ⟨HR.out.1.skip hk2 hon,HR.out.2⟩);clear HR;go_wp2
     first | exact ⟨⟨k+1,by omega,by go_num,HF⟩,by simp[intOf];omega⟩ | ((repeat apply Exists.intro);exact ⟨⟨k+1,by omega,by go_num,HF⟩,rfl⟩)
    ·rw[hon]at o1;have HF:=hide (show _/\_ from ⟨HR.out.1.hold hk2 hon,HR.out.2.set (6+k) (.int .i64 (p.h+1))⟩);clear HR
     go_upto_region 9 with fail
     generalize wr.setCell ⟨yb,6+k,none⟩ (.int .i64 (p.h+1))=w3 at *;clear o1 c6 f6 c4;go_wp2
     first | exact ⟨⟨k+1,by omega,by go_num,HF⟩,by simp[intOf];omega⟩ | ((repeat apply Exists.intro);exact ⟨⟨k+1,by omega,by go_num,HF⟩,rfl⟩)
   ·obtain rfl:k=2:=by omega
    have Y4:YC wr yb (p.h+1) (now+20) (z2I p 0) (z2I p 1):=HR.out.1;have A4:=HR.out.2;have C4:=A4.cat (b:=w.heap.size) (by omega) H2.out.2.1
    have R4:=A4.cat (b:=w.heap.size+1) (by omega) H2.out.2.2.1
    have B4:=H2.out.2.2.2.trans (A4.below (by omega) H2.out.2.2.2.size)
    have m4:=z1Z C4;have y0:wr.cell? ⟨yb,0,none⟩=some (.int .i64 0):=CAt.cell Y4 0;have y1:wr.cell? ⟨yb,1,none⟩=some (.int .i64 0):=CAt.cell Y4 1;have y2:wr.cell? ⟨yb,2,none⟩=some (.int .i64 0):=CAt.cell Y4 2;have y3:wr.cell? ⟨yb,3,none⟩=some (.int .i64 0):=CAt.cell Y4 3;have y4:wr.cell? ⟨yb,4,none⟩=some (.int .i64 (p.h+1)):=CAt.cell Y4 4;have y5:wr.cell? ⟨yb,5,none⟩=some (.int .i64 (now+20)):=CAt.cell Y4 5;have y6:wr.cell? ⟨yb,6,none⟩=some (.int .i64 (z2I p 0)):=CAt.cell Y4 6;have y7:wr.cell? ⟨yb,7,none⟩=some (.int .i64 (z2I p 1)):=CAt.cell Y4 7;have hz4:=CAt.lt Y4;have hu:=HU.out wr B4;have HUN:=hide hu;have H4:=hide (show _/\_/\_ from ⟨C4,R4,B4⟩);clear Y4 A4 C4 R4 B4 HR H2 hu HU;have HNW:Hid (q0t p now=⟨0,0,0,0,p.h+1,now+20,z2I p 0,z2I p 1⟩):=rfl;rw[HNW.out]at HUN HD;dsimp only at HUN;generalize z2I p 0=ho0 at *;generalize z2I p 1=ho1 at *;generalize z0R p.s d x n ⟨0,0,0,0,p.h+1,now+20,ho0,ho1⟩=r at *;obtain ⟨s',er⟩:=r;dsimp only at HUN HD;clear HNW
    go_upto_region 11 with (go_at_call 78;refine HUN.out.mono ?_;rintro e w5 ⟨A5,m5,D5,rfl,U5,hb5⟩;clear m4;have sS5:=z5m (CAt.new 43 w5 Z63) rfl (z0e s' (.slice A5 m5 D5)) (z0z _ _ _ _);unfold Z63 at sS5)
    change Code.wp prog _ _ _ ((w5.alloc (.cells Z63 43)).setCells w5.heap.size 0 (stC s' (.slice A5 m5 D5)).toList);have bS:Below w5.heap.size w5 ((w5.alloc (.cells Z63 43)).setCells w5.heap.size 0 (stC s' (.slice A5 m5 D5)).toList):=z0a (Nat.le_refl _) _ _ _ (znw w5 _);have T6:CAt 43 ((w5.alloc (.cells Z63 43)).setCells w5.heap.size 0 (stC s' (.slice A5 m5 D5)).toList) w5.heap.size (stC s' (.slice A5 m5 D5)):=(CAt.new 43 w5 Z63).z0s rfl;have b6:=zbt hb5 bS;have C6:=H4.out.1.over b6;have R6:=H4.out.2.1.over b6;have B6:=zbt H4.out.2.2 b6;have U6:er=0->Rep (fun b=>New (fun b=>P b/\b<w.heap.size) wr 0 b/\b<w5.heap.size) _ (.slice A5 m5 D5) 8 64 (wsL s'.W):=fun h=>((U5 h).mono (P':=fun b=>New (fun b=>P b/\b<w.heap.size) wr 0 b/\b<w5.heap.size) fun b hl hb=>⟨hb,hl⟩).over bS;have hs5:=hb5.size;clear sS5 hb5 bS b6 U5 HUN H4 y0 y1 y2 y3 y4 y5 y6 y7;generalize (w5.alloc (.cells Z63 43)).setCells w5.heap.size 0 (stC s' (.slice A5 m5 D5)).toList=w6 at *;generalize w5.heap.size=tb at *;have hzt:=T6.lt
    by_cases he:er=0
    ·subst he;have HR:=hide (HD.out.trans (if_pos rfl));have mS:=z5n T6 (z0e _ _);have sS:=z2B C6 (z0b _ _) (z0e s' (.slice A5 m5 D5)) (z0z _ _ _ _);have C7:=C6.z0Z s' (.slice A5 m5 D5);have R7:=R6.others (c:=w.heap.size) (o:=2) (by omega) (stC s' (.slice A5 m5 D5)).toList
     have B7:=z0a (b:=w.heap.size) (Nat.le_refl _) (stC s' (.slice A5 m5 D5)).toList 2 _ B6
     have N7:PIn (New P w 2) (w6.setCells w.heap.size 2 (stC s' (.slice A5 m5 D5)).toList) { p with s:=s',L:=frL p.L 0 } { v with ws:=.slice A5 m5 D5 }:=by
      have h1:=(HN.out _ B6).sets (g:=w.heap.size) (z3F (j:=0) (by omega)) 2 (stC s' (.slice A5 m5 D5)).toList
      have h2:=(U6 rfl).sets (g:=w.heap.size) (fun h=>by
       rcases h.1 with ⟨h,_⟩ | h
       ·have:=h.2;omega
       ·omega) 2 (stC s' (.slice A5 m5 D5)).toList
      exact ⟨h2.mono fun b _ hb=>by
       rcases hb.1 with ⟨h,_⟩ | h
       ·exact .inl h
       ·exact .inr (by omega),h1.set,h1.lk,h1.q⟩
     have C7':CAt 57 (w6.setCells w.heap.size 2 (stC s' (.slice A5 m5 D5)).toList) w.heap.size (prC { p with s:=s',L:=frL p.L 0 } { v with ws:=.slice A5 m5 D5 }):=C7
     have H7:=hide (show _/\_/\_/\_ from ⟨C7',R7,B7,N7⟩);have hz7:=R7.lt;clear C6 R6 B6 C7 C7' R7 B7 N7 T6 hone U6
     go_upto_region 15 with fail
     clear mS sS;generalize w6.setCells w.heap.size 2 (stC s' (.slice A5 m5 D5)).toList=w7 at *;generalize ({ v with ws:=.slice A5 m5 D5 }:PrV)=v7 at *
     go_loopw [61] (fun i wl=>∃ (k:Nat),k<=2/\i=.int .i64 (k:Int)/\Hid (CAt 57 wl w.heap.size (prC { p with s:=s',L:=frL p.L k } v7)/\Alt w.heap.size w7 wl)) (fun i _=>(2 - intOf i).toNat)
     case atStart=>exact ⟨0,by omega,rfl,H7.out.1,Alt.refl _ _⟩
     case round =>
      obtain ⟨k,hk,rfl,HK⟩:=hrel
      by_cases hk3:k<2
      ·have hkk:(k:Int)<2:=by omega
       have hkz:(0:Int)<=(k:Int):=by omega
       have hlk:=CAt.lk HK.out.1 hk3
       have o1:wr.cell? ⟨w.heap.size,66+k * 14,none⟩=some (.bool (p.L k).on):=by
        have:=hlk.facts.1
        rwa [show ({ p with s:=s',L:=frL p.L k }:Pr).L k=p.L k from j2S]at this
       obtain ⟨-,-,-,-,o5,-⟩:=hlk.facts;have f5:=HK.out.1.free (66+k * 14+4);have hzr:=HK.out.1.lt;clear hlk;cases hon:(p.L k).on
       ·rw[hon]at o1;have HF:Hid (CAt 57 wr w.heap.size (prC { p with s:=s',L:=frL p.L (k+1) } v7)/\Alt w.heap.size w7 wr):=by rw[j3k hon];exact HK.out
        clear HK;go_wp2
        first | exact ⟨⟨k+1,by omega,by go_num,HF⟩,by simp[intOf];omega⟩ | ((repeat apply Exists.intro);exact ⟨⟨k+1,by omega,by go_num,HF⟩,rfl⟩)
       ·rw[hon]at o1;have C8:=HK.out.1.set (66+k * 14+4) (.bool true);rw[q2C k hk3 4 (.bool true) { p.L k with fresh:=true } (v7.l k) (by omega) (by rw[show ({ p with s:=s',L:=frL p.L k }:Pr).L k=p.L k from j2S];rfl),upd_same,show z0X ({ p with s:=s',L:=frL p.L k }:Pr).L k { p.L k with fresh:=true }=frL p.L (k+1) from j7a hon]at C8
        have HF:=hide (show _/\_ from ⟨C8,HK.out.2.set (66+k * 14+4) (.bool true)⟩);clear HK C8
        go_upto_region 20 with fail
        generalize wr.setCell ⟨w.heap.size,66+k * 14+4,none⟩ (.bool true)=w8 at *;clear o1 o5 f5;go_wp2
        first | exact ⟨⟨k+1,by omega,by go_num,HF⟩,by simp[intOf];omega⟩ | ((repeat apply Exists.intro);exact ⟨⟨k+1,by omega,by go_num,HF⟩,rfl⟩)
      ·obtain rfl:k=2:=by omega
       have C9:CAt 57 wr w.heap.size (prC { p with s:=s',L:=z1v p.L } v7):=by rw[← j5H];exact HK.out.1
       have A9:=HK.out.2;have R9:=A9.cat (b:=w.heap.size+1) (by omega) H7.out.2.1
       have B9:=H7.out.2.2.1.trans (A9.below (Nat.le_refl _) H7.out.2.2.1.size);have N8:=A9.pin (z3F (P:=P) (w:=w) (k:=2) (j:=0) (by omega)) H7.out.2.2.2
       have N9:PIn (New P w 2) wr { p with s:=s',L:=z1v p.L } v7:=⟨N8.ws,N8.set,fun c hc=>by
        have h:=N8.lk c hc
        have e0:({ p with s:=s',L:=frL p.L 0 }:Pr).L c=p.L c:=by
         show (if c<0 then z1v p.L c else p.L c)=p.L c
         exact if_neg (by omega)
        rw[e0]at h
        show z5r _ _ (z1v p.L c) _
        unfold z1v
        split
        ·exact ⟨h.told,h.done,h.said,h.due⟩
        ·exact h,N8.q⟩
       have l9:=z0i C9 (z0b _ _);have s9:=z0j R9 z0d (z0b { p with s:=s',L:=z1v p.L } v7) (z0V N9)
       have HZ:=hide (show _/\_/\_ from ⟨R9,B9,N9⟩);clear C9 A9 R9 B9 N8 N9 HK H7;go_wp2;exact z0L results63 HZ.out.1 z0d HZ.out.2.1 { p with s:=s',L:=z1v p.L } v7 0 D HR.out HZ.out.2.2 _ rfl rfl rfl
    ·have HR:=hide (HD.out.trans (if_neg he));have l6:=z0i C6 (z0b _ _);have s6:=z0j R6 z0d (z0b p v) hone;have heb:(er != 0)=true:=by simpa using he
     have HZ:=hide (show _/\_ from ⟨R6,B6⟩);clear C6 R6 B6 T6 hone U6;go_wp2;exact z0L results63 HZ.out.1 z0d HZ.out.2 p v er D HR.out (HN.out _ HZ.out.2) _ rfl rfl rfl
 ·replace HD:=hide (HD.out.trans (if_neg hok))
  have hcs:G=false∨(G=true/\isT now=false):=by
   cases G
   ·exact .inl rfl
   ·cases h:isT now
    ·exact .inr ⟨rfl,rfl⟩
    ·exact absurd ⟨rfl,h⟩ hok
  clear hok HGH HTI HU
  rcases hcs with rfl | ⟨rfl,h1⟩
  all_goals
   go_upto_region 2 with (first
    | (go_at_call 74;refine (HGD.out _ H0.out.2.2).mono ?_;rintro e w1 ⟨rfl,hb1⟩;clear l0)
    | (go_at_call 76;refine (z3A _ _).mono ?_;rintro e w' ⟨rfl,rfl⟩))
   have R1:=H0.out.2.1.over hb1;have l1:=z0i (H0.out.1.over hb1) (z0b _ _);have s1:=z0j R1 z0d (z0b p v) hone;have B1:=zbt H0.out.2.2 hb1;have HZ:=hide (show _/\_ from ⟨R1,B1⟩);clear R1 B1 hb1 hone H0 HGD;go_wp2;exact z0L results63 HZ.out.1 z0d HZ.out.2 p v 2 D HD.out (HN.out _ HZ.out.2) _ rfl rfl rfl
end Pv
namespace Wd
open Go.RowKit Pv Kc
structure WoV where
 p:PrV
 c:Nat->CsV
def WoV.upd(v:WoV)(i:Nat)(u:CsV):WoV:={ v with c:=fun k=>if k=i then u else v.c k }
def hdL(h:Hd):List Value:=[.int .i64 h.h,.int .i64 h.t,.int .i64 h.s,.int .i64 h.g]
def wdC(x:Wo)(v:WoV):Array Value:=(([.int .i64 x.ck,.int .i64 x.dn]:List Value) ++ ((prC x.p v.p).toList ++ ((csC (x.c 0) (v.c 0)).toList ++ ((csC (x.c 1) (v.c 1)).toList ++ ((hdL (x.hp 0) ++ hdL (x.hc 0)) ++ (hdL (x.hp 1) ++ hdL (x.hc 1))))))).toArray
structure WIn(P:Nat->Prop)(w:World)(x:Wo)(v:WoV):Prop where
 p:PIn P w x.p v.p
 c:∀ i,i<2->CIn P w (x.c i) (v.c i)
section
variable {P P':Nat->Prop} {w w':World} {x:Wo} {v:WoV}
theorem WIn.mono(h:WIn P w x v)(hp:∀ b,b<w.heap.size->P b->P' b):WIn P' w x v:=⟨h.p.mono hp,fun i hi=>(h.c i hi).mono hp⟩
theorem WIn.lo(h:WIn P w x v):WIn (fun b=>P b/\b<w.heap.size) w x v:=h.mono fun _ hl hp=>⟨hp,hl⟩
theorem WIn.keep(h:WIn P w x v)(hk:∀ b,P b->b<w.heap.size->w'.heap[b]?=w.heap[b]?):WIn P w' x v:=⟨h.p.keep hk,fun i hi=>(h.c i hi).keep hk⟩
theorem WIn.over(h:WIn P w x v)(hb:Below w.heap.size w w'):WIn P w' x v:=h.keep fun b _ hlt=>hb.block b hlt
theorem WIn.alt{g:Nat}(h:WIn P w x v)(hg:¬ P g)(ha:Alt g w w'):WIn P w' x v:=h.keep fun b hb hlt=>ha.block b hlt (fun e=>hg (e ▸ hb))
theorem WIn.new{g:Nat}(h:WIn P w x v)(hg:¬ P g)(ha:Alt g w w')(k:Nat):WIn (New P w k) w' x v:=((h.mono (P':=fun b=>New P w k b/\P b/\b<w.heap.size) fun _ hl hp=>⟨.inl ⟨hp,hl⟩,hp,hl⟩).alt (g:=g) (fun h=>hg h.2.1) ha).mono fun _ _ h=>h.1
theorem _root_.Go.Proofs.YtmopekkhmhhcaaaGreat.Pv.PIn.newA{g:Nat}{p:Pr}{u:PrV}(h:PIn P w p u)(hg:¬ P g)(ha:Alt g w w')(k:Nat):PIn (New P w k) w' p u:=(ha.pin (P:=fun b=>New P w k b/\P b/\b<w.heap.size) (fun h=>hg h.2.1) (h.mono fun _ hl hp=>⟨.inl ⟨hp,hl⟩,hp,hl⟩)).mono fun _ _ h=>h.1
theorem _root_.Go.Proofs.YtmopekkhmhhcaaaGreat.Kc.CIn.newA{g:Nat}{p:Cs}{u:CsV}(h:CIn P w p u)(hg:¬ P g)(ha:Alt g w w')(k:Nat):CIn (New P w k) w' p u:=(ha.cin (P:=fun b=>New P w k b/\P b/\b<w.heap.size) (fun h=>hg h.2.1) (h.mono fun _ hl hp=>⟨.inl ⟨hp,hl⟩,hp,hl⟩)).mono fun _ _ h=>h.1
end
structure At(cs:Array Value)(o:Nat)(ds es:List Value)(cs':Array Value):Prop where
 len:ds.length=es.length
 ex:∃ a c:List Value,a.length=o/\cs=(a ++ (ds ++ c)).toArray/\cs'=(a ++ (es ++ c)).toArray
theorem At.sets{cs cs':Array Value}{o:Nat}{ds es:List Value}(h:At cs o ds es cs'){ty:TypeId}{w:World}{g:Nat}(hc:CAt ty w g cs):CAt ty (w.setCells g o es) g cs':=by
 obtain ⟨a,c,rfl,h1,h2⟩:=h.ex;have:=CAt.sets es a.length w cs hc
 rwa [h1,q7X _ _ _ _ h.len,← h2]at this
theorem At.part{cs cs':Array Value}{o:Nat}{ds es:List Value}(h:At cs o ds es cs'){ty:TypeId}{w:World}{g:Nat}(hc:CAt ty w g cs):w.rangeAt g o ds:=by
 obtain ⟨a,c,rfl,h1,-⟩:=h.ex;refine hc.part fun j v hv=>?_;have hj:j<ds.length:=(List.getElem?_eq_some_iff.1 hv).1;rw[h1,List.getElem?_toArray,List.getElem?_append_right (by omega),Nat.add_sub_cancel_left,List.getElem?_append_left hj]
 exact hv
theorem At.there{cs cs':Array Value}{o:Nat}{ds es:List Value}(h:At cs o ds es cs'){ty:TypeId}{w:World}{g:Nat}(hc:CAt ty w g cs):w.there g o es.length:=by
 obtain ⟨a,c,rfl,h1,-⟩:=h.ex;refine hc.there _ _ ?_;rw[h1,← h.len]
 simp
theorem At.nest{cs cs':Array Value}{o o':Nat}{ds es dd ee:List Value}(h:At cs o ds es cs')(k:At ds.toArray o' dd ee es.toArray):At cs (o+o') dd ee cs':=by
 obtain ⟨a,c,ha,h1,h2⟩:=h.ex;obtain ⟨a',c',ha',k1,k2⟩:=k.ex;have k1':ds=a' ++ (dd ++ c'):=by simpa using congrArg Array.toList k1
 have k2':es=a' ++ (ee ++ c'):=by simpa using congrArg Array.toList k2
 refine ⟨k.len,a ++ a',c' ++ c,by simp[ha,ha'],?_,?_⟩
 ·rw[h1,k1'];simp
 ·rw[h2,k2'];simp
section
variable (x:Wo) (v:WoV)
theorem z7Z(p':Pr)(u:PrV):At (wdC x v) 2 (prC x.p v.p).toList (prC p' u).toList (wdC { x with p:=p' } { v with p:=u }):=⟨rfl,[.int .i64 x.ck,.int .i64 x.dn],_,rfl,rfl,rfl⟩
theorem q0F{i:Nat}(hi:i<2)(y:Cs)(u:CsV):At (wdC x v) (99+i * 22) (csC (x.c i) (v.c i)).toList (csC y u).toList (wdC { x with c:=z2Y x.c i y } (v.upd i u)):=by
 refine ⟨rfl,?_⟩
 match i,hi with
 | 0,_=>exact ⟨[.int .i64 x.ck,.int .i64 x.dn] ++ (prC x.p v.p).toList,_,rfl,rfl,rfl⟩
 | 1,_=>exact ⟨[.int .i64 x.ck,.int .i64 x.dn] ++ ((prC x.p v.p).toList ++ (csC (x.c 0) (v.c 0)).toList),_,rfl,rfl,rfl⟩
theorem j8L{i:Nat}(hi:i<2)(y z:Hd):At (wdC x v) (143+i * 8) (hdL (x.hp i) ++ hdL (x.hc i)) (hdL y ++ hdL z) (wdC { x with hp:=q5Z x.hp i y,hc:=q5Z x.hc i z } v):=by
 refine ⟨rfl,?_⟩
 match i,hi with
 | 0,_=>exact ⟨[.int .i64 x.ck,.int .i64 x.dn] ++ ((prC x.p v.p).toList ++ ((csC (x.c 0) (v.c 0)).toList ++ (csC (x.c 1) (v.c 1)).toList)),hdL (x.hp 1) ++ hdL (x.hc 1),rfl,rfl,rfl⟩
 | 1,_=>exact ⟨[.int .i64 x.ck,.int .i64 x.dn] ++ ((prC x.p v.p).toList ++ ((csC (x.c 0) (v.c 0)).toList ++ ((csC (x.c 1) (v.c 1)).toList ++ (hdL (x.hp 0) ++ hdL (x.hc 0))))),[],rfl,rfl,rfl⟩
theorem j6f{i:Nat}(hi:i<2)(y:Hd):At (wdC x v) (143+i * 8) (hdL (x.hp i)) (hdL y) (wdC { x with hp:=q5Z x.hp i y } v):=by
 refine ⟨rfl,?_⟩
 match i,hi with
 | 0,_=>exact ⟨[.int .i64 x.ck,.int .i64 x.dn] ++ ((prC x.p v.p).toList ++ ((csC (x.c 0) (v.c 0)).toList ++ (csC (x.c 1) (v.c 1)).toList)),hdL (x.hc 0) ++ (hdL (x.hp 1) ++ hdL (x.hc 1)),rfl,rfl,rfl⟩
 | 1,_=>exact ⟨[.int .i64 x.ck,.int .i64 x.dn] ++ ((prC x.p v.p).toList ++ ((csC (x.c 0) (v.c 0)).toList ++ ((csC (x.c 1) (v.c 1)).toList ++ (hdL (x.hp 0) ++ hdL (x.hc 0))))),hdL (x.hc 1),rfl,rfl,rfl⟩
theorem j6K{i:Nat}(hi:i<2)(y:Hd):At (wdC x v) (147+i * 8) (hdL (x.hc i)) (hdL y) (wdC { x with hc:=q5Z x.hc i y } v):=by
 refine ⟨rfl,?_⟩
 match i,hi with
 | 0,_=>exact ⟨[.int .i64 x.ck,.int .i64 x.dn] ++ ((prC x.p v.p).toList ++ ((csC (x.c 0) (v.c 0)).toList ++ ((csC (x.c 1) (v.c 1)).toList ++ hdL (x.hp 0)))),hdL (x.hp 1) ++ hdL (x.hc 1),rfl,rfl,rfl⟩
 | 1,_=>exact ⟨[.int .i64 x.ck,.int .i64 x.dn] ++ ((prC x.p v.p).toList ++ ((csC (x.c 0) (v.c 0)).toList ++ ((csC (x.c 1) (v.c 1)).toList ++ ((hdL (x.hp 0) ++ hdL (x.hc 0)) ++ hdL (x.hp 1))))),[],rfl,rfl,rfl⟩
end
theorem j9q(p:Pr)(v:PrV)(s:St)(u:Value):At (prC p v) 2 (stC p.s v.ws).toList (stC s u).toList (prC { p with s:=s } { v with ws:=u }):=⟨rfl,[.int .i64 p.h,.int .i64 p.t],_,rfl,rfl,rfl⟩
theorem q8W(p:Pr)(v:PrV){k:Nat}(hk:k<2)(y:Lk)(u:LkV):At (prC p v) (66+k * 14) (lkL (p.L k) (v.l k)) (lkL y u) (prC { p with L:=z0X p.L k y } (v.upd k u)):=by
 obtain ⟨a,c,ha,h1,h2⟩:=z5F p v k hk;exact ⟨rfl,a,c,ha,h1,h2 y u⟩
def lnL(x:Ln.Line)(u1 u2:Value):List Value:=[u1,u2,.int .i64 x.g,.bool x.cl]
theorem q6L(x:Lk)(v:LkV)(y:Ln.Line)(u1 u2:Value):At (lkL x v).toArray 6 (lnL x.out v.said v.due) (lnL y u1 u2) (lkL { x with out:=y } { v with said:=u1,due:=u2 }).toArray:=⟨rfl,[.bool x.on,.bool x.gone,.int .i64 x.base,v.told,.bool x.fresh,v.done],[.int .i64 x.h0,.int .i64 x.h1,.int .i64 x.h2,.int .i64 x.h3],rfl,rfl,rfl⟩
theorem j3D(x:Lk)(v:LkV)(h:Hd):At (lkL x v).toArray 10 [.int .i64 x.h0,.int .i64 x.h1,.int .i64 x.h2,.int .i64 x.h3] (hdL h) (lkL (j7M x h) v).toArray:=⟨rfl,[.bool x.on,.bool x.gone,.int .i64 x.base,v.told,.bool x.fresh,v.done,v.said,v.due,.int .i64 x.out.g,.bool x.out.cl],[],rfl,rfl,rfl⟩
theorem z9l(x:Cs)(v:CsV)(y:Ln.Line)(u1 u2:Value):At (csC x v) 14 (lnL x.out v.said v.due) (lnL y u1 u2) (csC { x with out:=y } { v with said:=u1,due:=u2 }):=⟨rfl,[.bool x.on,.bool x.gone,.int .i64 x.h,.int .i64 x.t,.int .i64 x.id,v.set,v.pd,v.rp,.bool (x.fl 0),.bool (x.fl 1),.bool (x.fl 2),.bool (x.fl 3),.bool (x.fl 4),.bool (x.fl 5)],[.int .i64 x.h0,.int .i64 x.h1,.int .i64 x.h2,.int .i64 x.h3],rfl,rfl,rfl⟩
theorem j4E(x:Cs)(v:CsV)(h:Hd):At (csC x v) 18 [.int .i64 x.h0,.int .i64 x.h1,.int .i64 x.h2,.int .i64 x.h3] (hdL h) (csC (j7T x h) v):=⟨rfl,[.bool x.on,.bool x.gone,.int .i64 x.h,.int .i64 x.t,.int .i64 x.id,v.set,v.pd,v.rp,.bool (x.fl 0),.bool (x.fl 1),.bool (x.fl 2),.bool (x.fl 3),.bool (x.fl 4),.bool (x.fl 5),v.said,v.due,.int .i64 x.out.g,.bool x.out.cl],[],rfl,rfl,rfl⟩
theorem z4L:(prog.info? 47).map (·.size)=some 4:=by kernel_rfl
theorem q3k:(prog.info? 49).map (·.size)=some 4:=by kernel_rfl
theorem j6m:(prog.info? 95).map (·.size)=some 8:=by kernel_rfl
def z2C(v:Value):Sem Value:=Instr.loadAt 47 v
theorem z2T(v:Value):Instr.loadAt 47 v=z2C v:=rfl
def z3R(a v:Value):Sem Unit:=Instr.storeAt 47 a v
theorem z2t(a v:Value):Instr.storeAt 47 a v=z3R a v:=rfl
def j2N(v:Value):Sem Value:=Instr.loadAt 49 v
theorem q6R(v:Value):Instr.loadAt 49 v=j2N v:=rfl
def q7u(a v:Value):Sem Unit:=Instr.storeAt 49 a v
theorem z5S(a v:Value):Instr.storeAt 49 a v=q7u a v:=rfl
def q2g(a v:Value):Sem Unit:=Instr.storeAt 95 a v
theorem q4F(a v:Value):Instr.storeAt 95 a v=q2g a v:=rfl
section
variable {w:World} {g o:Nat}
theorem j0t{cs:Array Value}(h:w.rangeAt g o cs.toList)(hs:cs.size=97):(z6I (.pointer (some ⟨g,o,none⟩))).run prog w=.ok (.agg cs) w:=by
 have:=run_loadAt_mid (P:=prog) w g o 57 cs.toList _ h underlying57 rfl (by rw[z2W];simp[hs])
 change (Instr.loadAt 57 _).run prog w=_
 simpa using this
theorem j4v{cs:Array Value}(h:w.rangeAt g o cs.toList)(hs:cs.size=22):(z3t (.pointer (some ⟨g,o,none⟩))).run prog w=.ok (.agg cs) w:=by
 have:=run_loadAt_mid (P:=prog) w g o 63 cs.toList _ h underlying63 rfl (by rw[z3j];simp[hs])
 change (Instr.loadAt 63 _).run prog w=_
 simpa using this
theorem j9b{cs:Array Value}(h:w.rangeAt g o cs.toList)(hs:cs.size=63):(z8d (.pointer (some ⟨g,o,none⟩))).run prog w=.ok (.agg cs) w:=by
 have:=run_loadAt_mid (P:=prog) w g o 43 cs.toList _ h underlying43 rfl (by rw[z0x];simp[hs])
 change (Instr.loadAt 43 _).run prog w=_
 simpa using this
theorem z7Q{cs:List Value}(h:w.rangeAt g o cs)(hs:cs.length=4):(z2C (.pointer (some ⟨g,o,none⟩))).run prog w=.ok (.agg cs.toArray) w:=
 run_loadAt_mid (P:=prog) w g o 47 cs _ h underlying47 rfl (by rw[z4L,hs])
theorem j0c{cs:List Value}(h:w.rangeAt g o cs)(hs:cs.length=4):(j2N (.pointer (some ⟨g,o,none⟩))).run prog w=.ok (.agg cs.toArray) w:=
 run_loadAt_mid (P:=prog) w g o 49 cs _ h underlying49 rfl (by rw[q3k,hs])
theorem j6k{cs:Array Value}(h:w.there g o cs.toList.length)(hs:cs.size=97)(h1:cs.all (·.oneCell')=true):(z4I (.pointer (some ⟨g,o,none⟩)) (.agg cs)).run prog w=.ok () (w.setCells g o cs.toList):=
 run_storeAt_mid (P:=prog) w g o 57 cs (by simpa using h) (by rw[z2W,hs]) h1
theorem q2m{cs:List Value}(h:w.there g o cs.length)(hs:cs.length=4)(h1:cs.all (·.oneCell')=true):(z3R (.pointer (some ⟨g,o,none⟩)) (.agg cs.toArray)).run prog w=.ok () (w.setCells g o cs):=
 run_storeAt_mid (P:=prog) w g o 47 cs.toArray (by simpa using h) (by rw[z4L];simp[hs]) (by simpa using h1)
theorem j6S{cs:List Value}(h:w.there g o cs.length)(hs:cs.length=4)(h1:cs.all (·.oneCell')=true):(q7u (.pointer (some ⟨g,o,none⟩)) (.agg cs.toArray)).run prog w=.ok () (w.setCells g o cs):=
 run_storeAt_mid (P:=prog) w g o 49 cs.toArray (by simpa using h) (by rw[q3k];simp[hs]) (by simpa using h1)
theorem j8u{cs:List Value}(h:w.there g o cs.length)(hs:cs.length=8)(h1:cs.all (·.oneCell')=true):(q2g (.pointer (some ⟨g,o,none⟩)) (.agg cs.toArray)).run prog w=.ok () (w.setCells g o cs):=
 run_storeAt_mid (P:=prog) w g o 95 cs.toArray (by simpa using h) (by rw[j6m];simp[hs]) (by simpa using h1)
end
def z0W(P:Nat->Prop)(w:World)(g:Nat)(x':Wo)(w':World):Prop:=∃ v',CAt 98 w' g (wdC x' v')/\WIn (New P w 0) w' x' v'/\Alt g w w'
theorem z7f{P:Nat->Prop}{w w1:World}{b:Nat}(hs:w.heap.size<=w1.heap.size)(h:New (New P w 0) w1 0 b):New P w 0 b:=by
 rcases h with ⟨h,_⟩ | h
 ·exact h
 ·exact .inr (by omega)
theorem z0W.trans{P:Nat->Prop}{w w1 w2:World}{g:Nat}{x2:Wo}(h:Alt g w w1)(k:z0W (New P w 0) w1 g x2 w2):z0W P w g x2 w2:=by
 obtain ⟨v,c,i,a⟩:=k;exact ⟨v,c,i.mono fun b _ hb=>z7f h.size hb,h.trans a⟩
theorem z0W.same{P:Nat->Prop}{w w1:World}{g:Nat}{x:Wo}{v:WoV}(hc:CAt 98 w1 g (wdC x v))(hi:WIn P w x v)(hg:¬ P g)(h:Alt g w w1):z0W P w g x w1:=⟨v,hc,hi.new hg h 0,h⟩
theorem q3D{P:Nat->Prop}{w:World}{g:Nat}{x:Wo}{v:WoV}(hC:CAt 98 w g (wdC x v))(hI:WIn P w x v)(hg:¬ P g):Hid (∀ (w':World),Below w.heap.size w w'->z0W P w g x w'):=fun _ hb=>z0W.same (hC.over hb) hI hg (Alt.of (g:=g) hb)
end Wd
namespace Wd
open Go.RowKit Pv Kc
def z9z(P:Nat->Prop)(w:World)(g:Nat)(r:Wo×Int×Int)(e:Ending)(w':World):Prop:=e=.returned (.tuple #[.int .i64 r.2.1,.int .i64 r.2.2])/\z0W P w g r.1 w'
def q1I(P:Nat->Prop)(w:World)(g:Nat)(r:Wo×Int)(e:Ending)(w':World):Prop:=e=.returned (.int .i64 r.2)/\z0W P w g r.1 w'
theorem z2V(c:Int)(w:World):Calls prog 30 #[.int .i64 c] w fun e w'=>e=.returned (.bool (isC c))/\w=w':=by
 have hD:isC c=(decide (0<=c) && decide (c<2)):=rfl;generalize isC c=B at *;have HD:=hide hD;clear hD
 go_enter func30,ntmps30
 by_cases h1:c≥0
 ·by_cases h2:c<2
  ·go_wp2;go_ret;exact ⟨by rw[HD.out];simp[h1,h2],rfl⟩
  ·go_wp2;go_ret;exact ⟨by rw[HD.out];simp[h1,h2],rfl⟩
 ·go_wp2;go_ret;exact ⟨by rw[HD.out];simp;omega,rfl⟩
theorem q7E(g:Nat)(x:Wo)(v:WoV)(P:Nat->Prop)(w:World)(n:Int)(hC:CAt 98 w g (wdC x v))(hI:WIn P w x v)(hg:¬ P g)(hk0:0<=x.ck)(hk1:x.ck<=1099511627736) :
  Calls prog 57 #[.pointer (some ⟨g,0,none⟩),.int .i64 n] w (z9z P w g (z6H x n)):=by
 have hD:z6H x n=if n<1∨1099511627736 - x.ck<n then (x,0,2) else ({ x with ck:=x.ck+n },x.ck+n,0):=by unfold z6H;rfl
 generalize z6H x n=D at *;have HD:=hide hD;clear hD;have c0:w.cell? ⟨g,0,none⟩=some (.int .i64 x.ck):=hC.cell 0;have f0:=hC.free 0;have hlt:=hC.lt;have hw1:IntKind.i64.wrap (1099511627736 - x.ck)=1099511627736 - x.ck:=z7V (by omega) (by omega)
 have H:=hide (show _/\_ from ⟨hC,hI⟩);clear hC hI
 go_enter func57,ntmps57
 by_cases h1:n<1
 ·have hd:=HD.out.trans (if_pos (.inl h1));have HDD:=hide hd;clear hd HD;go_wp2;go_ret2;rw[HDD.out];exact ⟨rfl,.same H.out.1 H.out.2 hg (Alt.refl _ _)⟩
 ·by_cases h2:1099511627736 - x.ck<n
  ·have hd:=HD.out.trans (if_pos (.inr h2));have HDD:=hide hd;clear hd HD;have h2':n > 1099511627736 - x.ck:=h2;go_wp2;go_ret2;rw[HDD.out];exact ⟨rfl,.same H.out.1 H.out.2 hg (Alt.refl _ _)⟩
  ·have hd:=HD.out.trans (if_neg (fun h=>by rcases h with h | h <;> omega))
   have HDD:=hide hd;have hw2:IntKind.i64.wrap (x.ck+n)=x.ck+n:=z7V (by omega) (by omega)
   clear hd HD;go_wp2;go_ret2;rw[HDD.out];exact ⟨rfl,v,H.out.1.set 0 (.int .i64 (x.ck+n)),(by have h:=H.out.2.new hg ((Alt.refl g w).set 0 (.int .i64 (x.ck+n))) 0;exact ⟨h.p,h.c⟩),(Alt.refl g w).set 0 _⟩
theorem j2q(h:Hd):(hdL h).all (·.oneCell')=true:=rfl
attribute [local go_sem ↓] q6R z5S
theorem q6V(g:Nat)(x:Wo)(v:WoV)(P:Nat->Prop)(w:World)(i:Nat)(hi:i<2)(b:Bool)(hC:CAt 98 w g (wdC x v))(hI:WIn P w x v)(hg:¬ P g) :
  Calls prog 70 #[.pointer (some ⟨g,0,none⟩),.int .i64 (i:Int),.bool b] w fun e w'=>e=.returned (.tuple #[])/\z0W P w g (z7O x i b) w':=by
 have hlt:=hC.lt;have hi2:(i:Int)<2:=by omega
 have hi0:(0:Int)<=(i:Int):=by omega
 have hd:=(Below.refl w.heap.size w).drew;cases b
 ·have A1:=j6f x v hi (x.hp i);have A2:=(q0F x v hi (j7T (x.c i) (x.hp i)) (v.c i)).nest (by simpa using j4E (x.c i) (v.c i) (x.hp i))
  have l1:=j0c (A1.part hC) rfl;have l1d:=j0c (A1.part (hC.over hd)) rfl;have s1d:=j6S (A2.there (hC.over hd)) rfl (j2q _);have C2:=A2.sets (hC.over hd);have a2:Alt g w (w.drew.setCells g (99+i * 22+18) (hdL (x.hp i))):=(Alt.of (g:=g) hd).sets _ _
  have HZ:Hid (z0W P w g (z7O x i false) (w.drew.setCells g (99+i * 22+18) (hdL (x.hp i)))):=by
   refine ⟨v.upd i (v.c i),C2,⟨hI.p.newA hg a2 0,fun k hk=>?_⟩,a2⟩;have h:=(hI.c k hk).newA hg a2 0
   show CIn _ _ (z2Y x.c i _ k) (if k=i then v.c i else v.c k)
   unfold z2Y
   by_cases e:k=i
   ·subst e;rw[if_pos rfl,if_pos rfl];exact ⟨h.set,h.pd,h.rp,h.said,h.due⟩
   ·rw[if_neg e,if_neg e];exact h
  generalize w.drew.setCells g (99+i * 22+18) (hdL (x.hp i))=wS at *;generalize z7O x i false=D at *;clear C2 hI A1 A2 hC a2 hd
  go_enter func70,ntmps70
  go_upto_region 3 with fail
  apply z3P (fun w'=>w'=wS)
  ·refine wp_region_noPanic ?_
   go_region_with (fail)
   all_goals exact NoPanic.normal ⟨rfl,rfl,rfl⟩
  rintro w' rfl;clear l1 l1d s1d;go_wp2;go_end0;exact ⟨rfl,HZ.out⟩
 ·have A1:=j6K x v hi (x.hc i);have A2:=(z7Z x v { x.p with L:=z0X x.p.L i (j7M (x.p.L i) (x.hc i)) } (v.p.upd i (v.p.l i))).nest ((q8W x.p v.p hi (j7M (x.p.L i) (x.hc i)) (v.p.l i)).nest (j3D (x.p.L i) (v.p.l i) (x.hc i)))
  rw[show 147+i * 8=143+i * 8+4 by omega]at A1
  rw[show 2+(66+i * 14+10)=68+i * 14+10 by omega]at A2
  have l1:=j0c (A1.part hC) rfl;have l1d:=j0c (A1.part (hC.over hd)) rfl;have s1d:=j6S (A2.there (hC.over hd)) rfl (j2q _);have C2:=A2.sets (hC.over hd);have a2:Alt g w (w.drew.setCells g (68+i * 14+10) (hdL (x.hc i))):=(Alt.of (g:=g) hd).sets _ _
  have HZ:Hid (z0W P w g (z7O x i true) (w.drew.setCells g (68+i * 14+10) (hdL (x.hc i)))):=by
   have hp:=hI.p.newA hg a2 0;refine ⟨{ v with p:=v.p.upd i (v.p.l i) },C2,⟨⟨hp.ws,hp.set,fun k hk=>?_,hp.q⟩,fun k hk=>(hI.c k hk).newA hg a2 0⟩,a2⟩
   have h:=hp.lk k hk
   show z5r _ _ (z0X x.p.L i _ k) (if k=i then v.p.l i else v.p.l k)
   unfold z0X
   by_cases e:k=i
   ·subst e;rw[if_pos rfl,if_pos rfl];exact ⟨h.told,h.done,h.said,h.due⟩
   ·rw[if_neg e,if_neg e];exact h
  generalize w.drew.setCells g (68+i * 14+10) (hdL (x.hc i))=wS at *;generalize z7O x i true=D at *;clear C2 hI A1 A2 hC a2 hd
  go_enter func70,ntmps70
  go_upto_region 2 with fail
  apply z3P (fun w'=>w'=wS)
  ·refine wp_region_noPanic ?_
   go_region_with (fail)
   all_goals exact NoPanic.normal ⟨rfl,rfl,rfl⟩
  rintro w' rfl;clear l1 l1d s1d;go_wp2;go_end0;exact ⟨rfl,HZ.out⟩
end Wd
end Go.Proofs.YtmopekkhmhhcaaaGreat
