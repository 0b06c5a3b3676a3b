/- Parts of the proof. -/
import Derived.Test.YtmopekkhmhhcaaaGreatFL
import Derived.Test.YtmopekkhmhhcaaaGreatFK0
import Derived.Test.YtmopekkhmhhcaaaGreatFK18
set_option maxRecDepth 100000
set_option maxHeartbeats 16000000
namespace Go.Proofs.YtmopekkhmhhcaaaGreat
open Go.Proofs.Tryz
namespace Ln
open Go.RowKit
theorem q8h(x:Line)(k:Int)(s:ByteArray)(said now:Int) :
  (z4f x≠0/\(z4Z x k s said now,z4v x k s said now)=(x,z4f x))∨(z4f x=0/\((k≠x.g+1/\(z4Z x k s said now,z4v x k s said now)=(x,10)) ∨
  (k=x.g+1/\((said<k/\(z4Z x k s said now,z4v x k s said now)=(x,9))∨(k<=said/\(((x.S.length:Int)<k/\(z4Z x k s said now,z4v x k s said now)=(x,9))∨(k<=x.S.length /\
   ((x.S.getD (k - 1).toNat ByteArray.empty≠s/\(z4Z x k s said now,z4v x k s said now)=(x,9))∨(x.S.getD (k - 1).toNat ByteArray.empty=s /\
    ((x.D.getD (k - 1).toNat 0<=now/\(z4Z x k s said now,z4v x k s said now)=(x,12))∨(now<x.D.getD (k - 1).toNat 0/\(z4Z x k s said now,z4v x k s said now)=(⟨x.S,x.D,k,x.cl⟩,0)))))))))))):=by
 have no:∀ e,z4v x k s said now=e->e≠0->(z4Z x k s said now,z4v x k s said now)=(x,e):=fun e h h0=>by unfold z4Z;rw[h,if_neg h0]
 by_cases h1:z4f x=0
 ·right
  have g1:¬ z4f x≠0:=fun h=>h h1;refine⟨h1,?_⟩
  by_cases h2:k=x.g+1
  ·right
   have g2:¬ k≠x.g+1:=fun h=>h h2;refine⟨h2,?_⟩
   by_cases h3:said<k
   ·left;exact⟨h3,no 9 (by rw[z4v,if_neg g1,if_neg g2,if_pos (.inl h3)]) (by decide)⟩
   ·right
    refine⟨by omega,?_⟩
    by_cases h4:(x.S.length:Int)<k
    ·left;exact⟨h4,no 9 (by rw[z4v,if_neg g1,if_neg g2,if_pos (.inr (.inl h4))]) (by decide)⟩
    ·right
     refine⟨by omega,?_⟩
     by_cases h5:x.S.getD (k - 1).toNat ByteArray.empty=s
     ·right
      refine⟨h5,?_⟩
      have h6:¬ (said<k∨(x.S.length:Int)<k∨x.S.getD (k - 1).toNat ByteArray.empty≠s):=by
       rintro (h | h | h)
       ·exact h3 h
       ·exact h4 h
       ·exact h h5
      by_cases h7:x.D.getD (k - 1).toNat 0<=now
      ·left;exact⟨h7,no 12 (by rw[z4v,if_neg g1,if_neg g2,if_neg h6,if_pos h7]) (by decide)⟩
      ·right
       have e:z4v x k s said now=0:=by rw[z4v,if_neg g1,if_neg g2,if_neg h6,if_neg h7]
       exact⟨by omega,by unfold z4Z;rw[e,if_pos rfl]⟩
     ·left;exact⟨h5,no 9 (by rw[z4v,if_neg g1,if_neg g2,if_pos (.inr (.inr h5))]) (by decide)⟩
  ·left;exact⟨h2,no 10 (by rw[z4v,if_neg g1,if_pos h2]) (by decide)⟩
 ·left;exact⟨h1,no _ (by rw[z4v,if_pos h1]) h1⟩
theorem j7i(x:Line)(sa da:Option Addr)(cs cd sb so db dO:Nat)(k:Int)(s:ByteArray)(said now:Int)(w:World)(L:LAt w x sa da cs cd sb so db dO) :
  Calls prog 93 #[.agg #[.slice sa x.S.length cs,.slice da x.D.length cd,.int .i64 x.g,.bool x.cl],.int .i64 k,.string s,.int .i64 said,.int .i64 now] w fun e w'=>Ans sb db x w (z4Z x k s said now,z4v x k s said now) e w':=by
 have hcs:=q8h x k s said now;generalize (z4Z x k s said now,z4v x k s said now)=r at *;have HB:=hide (begun L);have HREF:=hide (fun w (L:LAt w x sa da cs cd sb so db dO)=>q2a x sa da cs cd sb so db dO w L);have HHAS:=hide (fun w=>j0D x sa da cs cd k w);have HGD:=hide (fun h=>z7z (z8j (x:=x) h).1);clear L
 go_enter func93,ntmps93
 go_upto_region 1 with fail
 generalize ((w.alloc (.cells #[.slice sa x.S.length cs,.slice da x.D.length cd,.int .i64 x.g,.bool x.cl] 47)).alloc (.cells #[.slice none 0 0,.slice none 0 0,.int .i64 0,.bool false] 47))=w0 at *;obtain⟨⟨c0,c1,c2,c3⟩,-⟩:=HB.out.F1.facts;obtain⟨⟨d0,d1,d2,d3⟩,⟨f0,f1,f2,f3⟩⟩:=HB.out.F2.facts;generalize z4f x=R at *
 rcases hcs with⟨h1,hr⟩ | ⟨rfl,hcs⟩
 ·have HR:=hide hr;have h1':(R != 0)=true:=by simpa using h1
  clear hr h1
  go_wp2_with (go_at_call 129;refine (HREF.out _ HB.out.L).mono ?_;rintro e w1⟨rfl,hb⟩;have HB1:=hide (HB.out.over hb);clear hb c0 c1 c2 c3 d0 d1 d2 d3 f0 f1 f2 f3;obtain⟨⟨c0,c1,c2,c3⟩,-⟩:=HB1.out.F1.facts;obtain⟨⟨d0,d1,d2,d3⟩,⟨f0,f1,f2,f3⟩⟩:=HB1.out.F2.facts)
  exact HB1.out.z0L rfl _ _ HR.out _ rfl rfl rfl
 obtain⟨hl1,hl2,hg0,hg1⟩:=HGD.out rfl;have HL1:=hide hl1;clear hl1
 go_upto_region 4 with (go_at_call 129;refine (HREF.out _ HB.out.L).mono ?_;rintro e w1⟨rfl,hb⟩;have HB1:=hide (HB.out.over hb);clear hb c0 c1 c2 c3 d0 d1 d2 d3 f0 f1 f2 f3;obtain⟨⟨c0,c1,c2,c3⟩,⟨e0,e1,e2,e3⟩⟩:=HB1.out.F1.facts;obtain⟨⟨d0,d1,d2,d3⟩,⟨f0,f1,f2,f3⟩⟩:=HB1.out.F2.facts)
 clear HB HREF w0
 rcases hcs with⟨h2,hr⟩ | ⟨h2,hcs⟩
 ·have HR:=hide hr;have h2':(k != x.g+1)=true:=by simpa using h2
  clear hr h2;go_wp2;exact HB1.out.z0L rfl _ _ HR.out _ rfl rfl rfl
 have h2':(k != x.g+1)=false:=by simpa using h2
 have hk0:1<=k:=by omega
 have HK:=hide h2;clear h2
 go_upto_region 6 with fail
 clear h2'
 rcases hcs with⟨h3,hr⟩ | ⟨h3,hcs⟩
 ·have HR:=hide hr;clear hr
  go_wp2_with (go_at_call 130;exfalso;omega)
  exact HB1.out.z0L rfl _ _ HR.out _ rfl rfl rfl
 rcases hcs with⟨h4,hr⟩ | ⟨h4,hcs⟩
 ·have HR:=hide hr;have hd:(decide (1<=k) && decide (k<=(x.S.length:Int)))=false:=by simp;omega
  rw[hd]at HHAS;clear hr hd
  go_wp2_with (go_at_call 130;refine (HHAS.out _).mono ?_;rintro e w2⟨rfl,hb⟩;have HB2:=hide (HB1.out.over hb);clear hb c0 c1 c2 c3 e0 e1 e2 e3 d0 d1 d2 d3 f0 f1 f2 f3;obtain⟨⟨c0,c1,c2,c3⟩,-⟩:=HB2.out.F1.facts;obtain⟨⟨d0,d1,d2,d3⟩,⟨f0,f1,f2,f3⟩⟩:=HB2.out.F2.facts)
  exact HB2.out.z0L rfl _ _ HR.out _ rfl rfl rfl
 have hd:(decide (1<=k) && decide (k<=(x.S.length:Int)))=true:=by simp;omega
 rw[hd]at HHAS;clear hd;obtain⟨j,hj⟩:∃ j:Nat,k - 1=(j:Int):=⟨(k - 1).toNat,by omega⟩
 have hjS:j<x.S.length:=by omega
 have hjD:j<x.D.length:=by rw[HL1.out];exact hjS
 have hjI:(j:Int)<(x.S.length:Int):=by omega
 have hjJ:(j:Int)<(x.D.length:Int):=by omega
 rw[hj,Int.toNat_natCast]at hcs;obtain rfl:k=(j:Int)+1:=by omega
 have esa:=HB1.out.L.hsa (by omega)
 have eda:=HB1.out.L.hda (by omega)
 subst esa eda;obtain⟨t,ht⟩:∃ t,x.S.getD j ByteArray.empty=t:=⟨_,rfl⟩;obtain⟨y,hy⟩:∃ y,x.D.getD j 0=y:=⟨_,rfl⟩;rw[ht,hy]at hcs;have HT:=hide ht;have HY:=hide hy;clear ht hy
 rcases hcs with⟨h5,hr⟩ | ⟨rfl,hcs⟩
 ·have HR:=hide hr;have h5':=j8K h5;clear hr h5
  go_wp2_with (go_at_call 130;refine (HHAS.out _).mono ?_;rintro e w2⟨rfl,hb⟩;have HB2:=hide (HB1.out.over hb);clear hb c0 c1 c2 c3 e0 e1 e2 e3 d0 d1 d2 d3 f0 f1 f2 f3;obtain⟨⟨c0,c1,c2,c3⟩,-⟩:=HB2.out.F1.facts;obtain⟨⟨d0,d1,d2,d3⟩,⟨f0,f1,f2,f3⟩⟩:=HB2.out.F2.facts;have ct:=HB2.out.L.PS j hjS;rw[HT.out]at ct)
  exact HB2.out.z0L rfl _ _ HR.out _ rfl rfl rfl
 rcases hcs with⟨h6,hr⟩ | ⟨h6,hr⟩
 ·have HR:=hide hr;clear hr
  go_wp2_with (go_at_call 130;refine (HHAS.out _).mono ?_;rintro e w2⟨rfl,hb⟩;have HB2:=hide (HB1.out.over hb);clear hb c0 c1 c2 c3 e0 e1 e2 e3 d0 d1 d2 d3 f0 f1 f2 f3;obtain⟨⟨c0,c1,c2,c3⟩,-⟩:=HB2.out.F1.facts;obtain⟨⟨d0,d1,d2,d3⟩,⟨f0,f1,f2,f3⟩⟩:=HB2.out.F2.facts;have ct:=HB2.out.L.PS j hjS;rw[HT.out]at ct;have cy:=HB2.out.L.PD j hjD;rw[HY.out]at cy)
  exact HB2.out.z0L rfl _ _ HR.out _ rfl rfl rfl
 ·have HR:=hide hr;clear hr
  go_upto_region 11 with (go_at_call 130;refine (HHAS.out _).mono ?_;rintro e w2⟨rfl,hb⟩;have HB2:=hide (HB1.out.over hb);clear hb c0 c1 c2 c3 e0 e1 e2 e3 d0 d1 d2 d3 f0 f1 f2 f3;obtain⟨⟨c0,c1,c2,c3⟩,⟨e0,e1,e2,e3⟩⟩:=HB2.out.F1.facts;have ct:=HB2.out.L.PS j hjS;rw[HT.out]at ct;have cy:=HB2.out.L.PD j hjD;rw[HY.out]at cy)
  have F1:=HB2.out.F1.q9D (.int .i64 ((j:Int)+1));have F2:=HB2.out.F2.other (c:=w.heap.size) (o:=2) (by omega) (.int .i64 ((j:Int)+1))
  have BW:=HB2.out.below.setCell (p:=⟨w.heap.size,2,none⟩) (Nat.le_refl _) (.int .i64 ((j:Int)+1));have LL:=HB2.out.L.z4L ((Below.refl w.heap.size w2).setCell (p:=⟨w.heap.size,2,none⟩) (Nat.le_refl _) (.int .i64 ((j:Int)+1))) HB2.out.ltS HB2.out.ltD;clear c0 c1 c2 c3 e0 e1 e2 e3 ct cy;generalize (w2.setCell ⟨w.heap.size,2,none⟩ (.int .i64 ((j:Int)+1)))=w3 at *;obtain⟨⟨c0,c1,c2,c3⟩,-⟩:=F1.facts;obtain⟨⟨d0,d1,d2,d3⟩,⟨f0,f1,f2,f3⟩⟩:=F2.facts;have HX:=hide (show _/\_/\_ from⟨F2,BW,LL⟩);have HLT:=hide (And.intro HB2.out.ltS HB2.out.ltD);clear F1 F2 BW LL;go_wp2;exact z7t rfl HX.out.1 HX.out.2.1 (Nat.le_succ _) ⟨x.S,x.D,(j:Int)+1,x.cl⟩ _ _ _ _ _ _ _ _ ⟨HX.out.2.2.hls,HX.out.2.2.hld,HX.out.2.2.hsa,HX.out.2.2.hda,HX.out.2.2.ncs,HX.out.2.2.ncd,HX.out.2.2.PS,HX.out.2.2.PD⟩ (fun h=>by have:=HLT.out.1 h;omega) (fun h=>by have:=HLT.out.2 h;omega) (fun _=>.inl ⟨rfl,rfl⟩) (fun _=>.inl ⟨rfl,rfl⟩) _ _ rfl rfl _ _ HR.out _ rfl rfl rfl
theorem q7E(x:Line)(k time got:Int) :
  (z4f x≠0/\(z7d x k time got,z6b x k time got)=(x,z4f x))∨(z4f x=0/\(((k<1∨(x.S.length:Int)<k)/\(z7d x k time got,z6b x k time got)=(x,4)) ∨
  (1<=k/\k<=x.S.length/\((k<=got/\(z7d x k time got,z6b x k time got)=(x,5))∨(got<k/\((time<x.D.getD (k - 1).toNat 0/\(z7d x k time got,z6b x k time got)=(x,13)) ∨
   (x.D.getD (k - 1).toNat 0<=time/\(z7d x k time got,z6b x k time got)=(⟨x.S,x.D,x.g,true⟩,0)))))))):=by
 have no:∀ e,z6b x k time got=e->e≠0->(z7d x k time got,z6b x k time got)=(x,e):=fun e h h0=>by unfold z7d;rw[h,if_neg h0]
 by_cases h1:z4f x=0
 ·right
  have g1:¬ z4f x≠0:=fun h=>h h1;refine⟨h1,?_⟩
  by_cases h2:k<1∨(x.S.length:Int)<k
  ·left;exact⟨h2,no 4 (by rw[z6b,if_neg g1,if_pos h2]) (by decide)⟩
  ·right
   refine⟨by omega,by omega,?_⟩
   by_cases h3:k<=got
   ·left;exact⟨h3,no 5 (by rw[z6b,if_neg g1,if_neg h2,if_pos h3]) (by decide)⟩
   ·right
    refine⟨by omega,?_⟩
    by_cases h4:time<x.D.getD (k - 1).toNat 0
    ·left;exact⟨h4,no 13 (by rw[z6b,if_neg g1,if_neg h2,if_neg h3,if_pos h4]) (by decide)⟩
    ·right
     have e:z6b x k time got=0:=by rw[z6b,if_neg g1,if_neg h2,if_neg h3,if_neg h4]
     exact⟨by omega,by unfold z7d;rw[e,if_pos rfl]⟩
 ·left;exact⟨h1,no _ (by rw[z6b,if_pos h1]) h1⟩
theorem j7D(x:Line)(sa da:Option Addr)(cs cd sb so db dO:Nat)(k time got:Int)(w:World)(L:LAt w x sa da cs cd sb so db dO) :
  Calls prog 95 #[.agg #[.slice sa x.S.length cs,.slice da x.D.length cd,.int .i64 x.g,.bool x.cl],.int .i64 k,.int .i64 time,.int .i64 got] w fun e w'=>Ans sb db x w (z7d x k time got,z6b x k time got) e w':=by
 have hcs:=q7E x k time got;generalize (z7d x k time got,z6b x k time got)=r at *;have HB:=hide (begun L);have HREF:=hide (fun w (L:LAt w x sa da cs cd sb so db dO)=>q2a x sa da cs cd sb so db dO w L);have HHAS:=hide (fun w=>j0D x sa da cs cd k w);have HGD:=hide (fun h=>z7z (z8j (x:=x) h).1);clear L
 go_enter func95,ntmps95
 go_upto_region 1 with fail
 generalize ((w.alloc (.cells #[.slice sa x.S.length cs,.slice da x.D.length cd,.int .i64 x.g,.bool x.cl] 47)).alloc (.cells #[.slice none 0 0,.slice none 0 0,.int .i64 0,.bool false] 47))=w0 at *;obtain⟨⟨c0,c1,c2,c3⟩,-⟩:=HB.out.F1.facts;obtain⟨⟨d0,d1,d2,d3⟩,⟨f0,f1,f2,f3⟩⟩:=HB.out.F2.facts;generalize z4f x=R at *
 rcases hcs with⟨h1,hr⟩ | ⟨rfl,hcs⟩
 ·have HR:=hide hr;have h1':(R != 0)=true:=by simpa using h1
  clear hr h1
  go_wp2_with (go_at_call 129;refine (HREF.out _ HB.out.L).mono ?_;rintro e w1⟨rfl,hb⟩;have HB1:=hide (HB.out.over hb);clear hb c0 c1 c2 c3 d0 d1 d2 d3 f0 f1 f2 f3;obtain⟨⟨c0,c1,c2,c3⟩,-⟩:=HB1.out.F1.facts;obtain⟨⟨d0,d1,d2,d3⟩,⟨f0,f1,f2,f3⟩⟩:=HB1.out.F2.facts)
  exact HB1.out.z0L rfl _ _ HR.out _ rfl rfl rfl
 obtain⟨hl1,hl2,-,-⟩:=HGD.out rfl;have HL1:=hide hl1;clear hl1
 go_upto_region 4 with (go_at_call 129;refine (HREF.out _ HB.out.L).mono ?_;rintro e w1⟨rfl,hb⟩;have HB1:=hide (HB.out.over hb);clear hb c0 c1 c2 c3 d0 d1 d2 d3 f0 f1 f2 f3;obtain⟨⟨c0,c1,c2,c3⟩,-⟩:=HB1.out.F1.facts)
 clear HB HREF w0
 rcases hcs with⟨h2,hr⟩ | ⟨h2,h2',hcs⟩
 ·have HR:=hide hr;have hd:(decide (1<=k) && decide (k<=(x.S.length:Int)))=false:=by simp;omega
  rw[hd]at HHAS;clear hr hd h2
  go_wp2_with (go_at_call 130;refine (HHAS.out _).mono ?_;rintro e w2⟨rfl,hb⟩;have HB2:=hide (HB1.out.over hb);clear hb c0 c1 c2 c3;obtain⟨⟨c0,c1,c2,c3⟩,-⟩:=HB2.out.F1.facts;obtain⟨⟨d0,d1,d2,d3⟩,⟨f0,f1,f2,f3⟩⟩:=HB2.out.F2.facts)
  exact HB2.out.z0L rfl _ _ HR.out _ rfl rfl rfl
 have hd:(decide (1<=k) && decide (k<=(x.S.length:Int)))=true:=by simp;omega
 rw[hd]at HHAS;clear hd;obtain⟨j,hj⟩:∃ j:Nat,k - 1=(j:Int):=⟨(k - 1).toNat,by omega⟩
 have hjS:j<x.S.length:=by omega
 have hjD:j<x.D.length:=by rw[HL1.out];exact hjS
 have hjJ:(j:Int)<(x.D.length:Int):=by omega
 rw[hj,Int.toNat_natCast]at hcs;obtain rfl:k=(j:Int)+1:=by omega
 have eda:=HB1.out.L.hda (by omega)
 subst eda;obtain⟨y,hy⟩:∃ y,x.D.getD j 0=y:=⟨_,rfl⟩;rw[hy]at hcs;have HY:=hide hy;clear hy
 go_upto_region 6 with (go_at_call 130;refine (HHAS.out _).mono ?_;rintro e w2⟨rfl,hb⟩;have HB2:=hide (HB1.out.over hb);clear hb c0 c1 c2 c3;obtain⟨⟨c0,c1,c2,c3⟩,⟨e0,e1,e2,e3⟩⟩:=HB2.out.F1.facts;obtain⟨⟨d0,d1,d2,d3⟩,⟨f0,f1,f2,f3⟩⟩:=HB2.out.F2.facts;have cy:=HB2.out.L.PD j hjD;rw[HY.out]at cy)
 rcases hcs with⟨h3,hr⟩ | ⟨h3,hcs⟩
 ·have HR:=hide hr;clear hr;go_wp2;exact HB2.out.z0L rfl _ _ HR.out _ rfl rfl rfl
 rcases hcs with⟨h4,hr⟩ | ⟨h4,hr⟩
 ·have HR:=hide hr;clear hr;go_wp2;exact HB2.out.z0L rfl _ _ HR.out _ rfl rfl rfl
 ·have HR:=hide hr;clear hr
  go_upto_region 11 with fail
  have F1:=HB2.out.F1.q9f (.bool true);have F2:=HB2.out.F2.other (c:=w.heap.size) (o:=3) (by omega) (.bool true)
  have BW:=HB2.out.below.setCell (p:=⟨w.heap.size,3,none⟩) (Nat.le_refl _) (.bool true);have LL:=HB2.out.L.z4L ((Below.refl w.heap.size w2).setCell (p:=⟨w.heap.size,3,none⟩) (Nat.le_refl _) (.bool true)) HB2.out.ltS HB2.out.ltD;clear c0 c1 c2 c3 e0 e1 e2 e3 d0 d1 d2 d3 f0 f1 f2 f3 cy;generalize (w2.setCell ⟨w.heap.size,3,none⟩ (.bool true))=w3 at *;obtain⟨⟨c0,c1,c2,c3⟩,-⟩:=F1.facts;obtain⟨⟨d0,d1,d2,d3⟩,⟨f0,f1,f2,f3⟩⟩:=F2.facts;have HX:=hide (show _/\_/\_ from⟨F2,BW,LL⟩);have HLT:=hide (And.intro HB2.out.ltS HB2.out.ltD);clear F1 F2 BW LL;go_wp2;exact z7t rfl HX.out.1 HX.out.2.1 (Nat.le_succ _) ⟨x.S,x.D,x.g,true⟩ _ _ _ _ _ _ _ _ ⟨HX.out.2.2.hls,HX.out.2.2.hld,HX.out.2.2.hsa,HX.out.2.2.hda,HX.out.2.2.ncs,HX.out.2.2.ncd,HX.out.2.2.PS,HX.out.2.2.PD⟩ (fun h=>by have:=HLT.out.1 h;omega) (fun h=>by have:=HLT.out.2 h;omega) (fun _=>.inl ⟨rfl,rfl⟩) (fun _=>.inl ⟨rfl,rfl⟩) _ _ rfl rfl _ _ HR.out _ rfl rfl rfl
end Ln
section
open Go.RowKit
theorem q1c{S:Nat->Nat->Int}{v:Nat}:∀ j,z3A S v j=true->0<=psh S v j/\psh S v j<=1125899906842624 * (j:Int)
 | 0,_=>by simp[psh]
 | j+1,h=>by
  simp only[z3A,Bool.and_eq_true,z0D]at h;have h1:=q1c j h.1;have h2:=h.2;simp only[psh];omega
theorem q5N{S:Nat->Nat->Int}{v j:Nat}{x:Int}(hj:j<4)(hin:inA (S j v)=false):q6I S v x=false:=by
 unfold q6I
 rcases (show j=0∨j=1∨j=2∨j=3 by omega) with rfl | rfl | rfl | rfl <;> simp[z3A,hin]
theorem j2r{S:Nat->Nat->Int}{v:Nat}{x:Int}(h:z3A S v 4=true):q6I S v x=decide (psh S v 4=x):=by
 unfold q6I;rw[h,Bool.true_and]
theorem z8Q(s:St)(sl:Value)(b v:Nat)(hv:v<6)(w:World)(h:SAt w b (stC s sl)) :
  Calls prog 142 #[.pointer (some ⟨b,0,none⟩),.int .i64 (v:Int)] w fun e w'=>e=.returned (.bool (q6I s.S v (s.V v).sh))/\w=w':=by
 have HS:Hid (SAt w b (stC s sl)):=h;have hv':(v:Int)<6:=by omega
 obtain⟨_,hsh,_⟩:=h.val v hv;clear h
 go_enter func142,ntmps142
 go_wp2
 go_loop [5,8] (fun s5 i=>∃ (j:Nat),j<=4/\i=.int .i64 (j:Int)/\s5=.int .i64 (psh s.S v j)/\Hid (z3A s.S v j=true)) (fun _ i=>(4 - intOf i).toNat)
 case atStart=>exact⟨0,by omega,rfl,rfl,rfl⟩
 case round =>
  obtain⟨j,hj,rfl,rfl,HR⟩:=hrel
  by_cases hlt:j<4
  ·have hlt':(j:Int)<4:=by omega
   have hc:=HS.out.shr j v hlt hv;have i1:=z5n (s.S j v);have hpb:=q1c j HR.out
   by_cases hin:inA (s.S j v)=true
   ·rw[hin]at i1;have HR2:Hid (z3A s.S v (j+1)=true):=by show (z3A s.S v j && inA (s.S j v))=true;rw[HR.out,hin];rfl
    rw[z0D]at hin;have hps:psh s.S v (j+1)=psh s.S v j+s.S j v:=rfl;have HP:Hid (psh s.S v (j+1)=psh s.S v j+s.S j v):=hps;clear hps
    go_wp2_with (go_at_call 147;refine (i1 _).mono ?_;rintro e w5⟨rfl,rfl⟩)
    go_round
    case rel=>exact⟨j+1,by omega,by go_num,by rw[HP.out],HR2.out⟩
    case measure=>simp[intOf];omega
   ·simp only[Bool.not_eq_true]at hin;rw[hin]at i1;have HF:Hid (q6I s.S v (s.V v).sh=false):=q5N hlt hin;clear hin
    go_wp2_with (go_at_call 147;refine (i1 _).mono ?_;rintro e w5⟨rfl,rfl⟩)
    go_ret;exact⟨by rw[HF.out];rfl,rfl⟩
  ·obtain rfl:j=4:=by omega
   have HF:Hid (q6I s.S v (s.V v).sh=decide (psh s.S v 4=(s.V v).sh)):=j2r HR.out;go_wp2;go_ret;exact⟨by rw[HF.out];congr 1,rfl⟩
theorem z9c{V:Nat->Vd}:∀ k,(∀ i,i<k->inA (V i).tok=true)->0<=z8G V k/\z8G V k<=1125899906842624 * (k:Int)
 | 0,_=>by simp[z8G]
 | k+1,h=>by
  have h1:=z9c k (fun i hi=>h i (by omega))
  have h2:=z0D.1 (h k (by omega))
  simp only[z8G]at *;omega
theorem z7L{V:Nat->Vd}:∀ k,(∀ i,i<k->inA (V i).lost=true)->0<=z3K V k/\z3K V k<=1125899906842624 * (k:Int)
 | 0,_=>by simp[z3K]
 | k+1,h=>by
  have h1:=z7L k (fun i hi=>h i (by omega))
  have h2:=z0D.1 (h k (by omega))
  simp only[z3K]at *;omega
theorem q7Z{W:List Wt}{k:Nat}{x:Wt}(h:W[k]?=some x):z2K (W.take (k+1))=z2K (W.take k)+x.amt:=by
 have hk:=(List.getElem?_eq_some_iff.1 h).1;rw[List.take_succ_eq_append_getElem hk];have e:W[k]=x:=by simpa [List.getElem?_eq_getElem hk] using h
 rw[e];generalize W.take k=l
 induction l with
 | nil=>simp[z2K]
 | cons y r ih=>simp only[List.cons_append,z2K,ih];omega
theorem z9t:∀ {l:List Wt},(∀ x∈l,inA x.amt=true)->0<=z2K l/\z2K l<=1125899906842624 * (l.length:Int)
 | [],_=>by simp[z2K]
 | x :: r,h=>by
  have h1:=z9t (l:=r) (fun y hy=>h y (List.mem_cons_of_mem _ hy));have h2:=z0D.1 (h x List.mem_cons_self);simp only[z2K,List.length_cons];omega
theorem z8I(s:St)(ao:Option Addr)(sb so c b:Nat)(w:World)(h:SAt w b (stC s (.slice ao s.W.length c)))(hW:z2A w ao sb so s.W)(hl:s.W.length<=60)
  (hv:∀ i,i<6->inA (s.V i).tok=true/\inA (s.V i).lost=true) (ha:∀ x∈s.W,inA x.amt=true) :
  Calls prog 143 #[.pointer (some ⟨b,0,none⟩)] w fun e w'=>e=.returned (.bool (bal s))/\Below w.heap.size w w':=by
 have HS:Hid (SAt w b (stC s (.slice ao s.W.length c))):=h;have HV:Hid (∀ i,i<6->inA (s.V i).tok=true/\inA (s.V i).lost=true):=hv;have HA:Hid (∀ x∈s.W,inA x.amt=true):=ha;have HW:Hid (z2A w ao sb so s.W):=hW;have hrg:=j5Z h;have hblt:b<w.heap.size:=h.lt;clear hv ha h hW
 go_enter func143,ntmps143
 go_upto_region 2 with fail
 apply wp_region_lit
 iterate 9 go_step
 refine wpList_load_mid rfl 38 _ rfl b 7 rfl _ _ hrg underlying38 rfl (by rw[j4f];rfl) ?_
 clear hrg
 go_wp2_with fail
 go_loopw [3,4,14] (fun s3 s4 i wl=>∃ k:Nat,k<=6/\i=.int .i64 (k:Int)/\s3=.int .i64 (z8G s.V k)/\s4=.int .i64 (z3K s.V k)/\Hid (Below w.heap.size w wl)) (fun _ _ i _=>(6 - intOf i).toNat)
 case atStart=>exact⟨0,by omega,rfl,rfl,rfl,Below.refl _ _⟩
 case round =>
  obtain⟨k,hk,rfl,rfl,rfl,HB⟩:=hrel;have hsz:w.heap.size<=wr.heap.size:=HB.out.size
  by_cases hk6:k<6
  ·have hix:=fun w=>ixV w s.V k hk6;have b1:=z9c (V:=s.V) k (fun i hi=>(HV.out i (by omega)).1)
   have b2:=z7L (V:=s.V) k (fun i hi=>(HV.out i (by omega)).2)
   have b3:=z0D.1 (HV.out k hk6).1;have b4:=z0D.1 (HV.out k hk6).2;have P1:Hid (z8G s.V (k+1)=z8G s.V k+(s.V k).tok):=rfl;have P2:Hid (z3K s.V (k+1)=z3K s.V k+(s.V k).lost):=rfl
   go_wp2_with fail
   go_roundw
   case rel=>exact⟨k+1,by omega,by go_num,by rw[P1.out],by rw[P2.out],HB.out.alloc hsz _⟩
   case measure=>simp[intOf];omega
  ·obtain rfl:k=6:=by omega
   rename World=>w1
   have S1:=HS.out.later HB.out hblt;obtain⟨x0,x1,x2,x3,x4,x5,x6,x7,x8⟩:=z0t S1;have HS1:Hid (SAt w1 b (stC s (.slice ao s.W.length c))):=S1;have HW1:Hid (z2A w1 ao sb so s.W):=HW.out.over HB.out;have hadr:=HW.out.adr;clear x0 x1 x2 x3 x4 x5 x6 x8 S1 HS HW
   go_wp2_with fail
   clear x7
   go_loopw [5,31] (fun s5 i wl=>∃ k:Nat,k<=s.W.length/\i=.int .i64 (k:Int)/\s5=.int .i64 (z2K (s.W.take k))/\Hid (Below w1.heap.size w1 wl)) (fun _ i _=>s.W.length - (intOf i).toNat)
   case atStart=>exact⟨0,by omega,rfl,rfl,Below.refl _ _⟩
   case round =>
    obtain⟨k,hk,rfl,rfl,HB1⟩:=hrel;have hsz1:w1.heap.size<=wr.heap.size:=HB1.out.size
    by_cases hlt:k<s.W.length
    ·obtain⟨x,hx,_⟩:=drop_at hlt;obtain⟨c0,c1,c2,c3,c4,c5,c6,c7⟩:=(HW1.out.over HB1.out).cell k x hx;have P1:Hid (z2K (s.W.take (k+1))=z2K (s.W.take k)+x.amt):=q7Z hx;have b1:=z9t (l:=s.W.take k) (fun y hy=>HA.out y (List.mem_of_mem_take hy));rw[List.length_take,Nat.min_eq_left hk]at b1;have b2:=z0D.1 (HA.out x (List.mem_of_getElem? hx));obtain rfl:=hadr (by omega)
     clear hadr hx
     go_wp2_with fail
     go_roundw
     case rel=>exact⟨k+1,by omega,by go_num,by rw[P1.out],HB1.out.alloc hsz1 _⟩
     case measure=>simp[intOf];omega
    ·have S1:=HS1.out.later HB1.out (by omega)
     obtain⟨x0,x1,x2,x3,x4,x5,x6,x7,x8⟩:=z0t S1;have HF:Hid (bal s=(decide (z8G s.V 6=s.b.bo) && decide (z2K (s.W.take k)=s.b.wa) && decide (z3K s.V 6=s.b.bu))):=by rw[List.take_of_length_le (by omega)];exact rfl
     clear x0 x1 x2 x3 x7 x8 S1;generalize z8G s.V 6=pt at *;generalize z3K s.V 6=pl at *;generalize z2K (s.W.take k)=pa at *
     go_wp2_with fail
     all_goals (go_ret;refine⟨?_,HB.out.trans (HB1.out.mono hsz)⟩;rw[HF.out];congr 1;congr 1;first | (simp_all;done) | (simp_all;rfl))
theorem z6o{f:Nat}{args:Array Value}{w0 w:World}{b:Nat}{v:Value}{f0 f1 f2 f3 bo wa bu:Int}(h:Calls prog f args w fun e w'=>e=.returned v/\Below w.heap.size w w')
  (hb:b<w0.heap.size) (hS:w.cell? ⟨b,0,none⟩=some (.int .i64 f0)/\w.cell? ⟨b,1,none⟩=some (.int .i64 f1)/\w.cell? ⟨b,2,none⟩=some (.int .i64 f2)/\w.cell? ⟨b,3,none⟩=some (.int .i64 f3)/\w.cell? ⟨b,4,none⟩=some (.int .i64 bo)/\w.cell? ⟨b,5,none⟩=some (.int .i64 wa)/\w.cell? ⟨b,6,none⟩=some (.int .i64 bu)/\Below w0.heap.size w0 w) :
  Calls prog f args w fun e w'=>e=.returned v/\w'.cell? ⟨b,0,none⟩=some (.int .i64 f0)/\w'.cell? ⟨b,1,none⟩=some (.int .i64 f1)/\w'.cell? ⟨b,2,none⟩=some (.int .i64 f2)/\w'.cell? ⟨b,3,none⟩=some (.int .i64 f3)/\w'.cell? ⟨b,4,none⟩=some (.int .i64 bo)/\w'.cell? ⟨b,5,none⟩=some (.int .i64 wa)/\w'.cell? ⟨b,6,none⟩=some (.int .i64 bu)/\Below w0.heap.size w0 w':=by
 refine h.mono ?_;rintro e w'⟨rfl,hb'⟩;obtain⟨h0,h1,h2,h3,h4,h5,h6,hB⟩:=hS;have k:∀ o,w'.cell? ⟨b,o,none⟩=w.cell? ⟨b,o,none⟩:=fun o=>hb'.cell (Nat.lt_of_lt_of_le hb hB.size);exact⟨rfl,(k 0).trans h0,(k 1).trans h1,(k 2).trans h2,(k 3).trans h3,(k 4).trans h4,(k 5).trans h5,(k 6).trans h6,hB.trans (hb'.mono hB.size)⟩
theorem z0f{n:Int}(h0:-9223372036854775808<=n)(h1:n<9223372036854775808):wrap64 n=n:=by
 unfold wrap64;omega
theorem j5v(f0 f1 f2 f3 bo wa bu:Int)(w:World)(y0 y1 y2 y3 y4 y5 y6:Int)(hne:∀ w,(binOp .eql 35 (.agg #[.int .i64 y0,.int .i64 y1,.int .i64 y2,.int .i64 y3,.int .i64 y4,.int .i64 y5,.int .i64 y6]) (.agg #[.int .i64 f0,.int .i64 f1,.int .i64 f2,.int .i64 f3,.int .i64 bo,.int .i64 wa,.int .i64 bu])).run prog w=.ok (.bool false) w)
  (hcl:∀ w,Calls prog 168 #[.agg #[.int .i64 f0,.int .i64 f1,.int .i64 f2,.int .i64 f3,.int .i64 bo,.int .i64 wa,.int .i64 bu]] w fun e w'=>e=.returned (.agg #[.int .i64 y0,.int .i64 y1,.int .i64 y2,.int .i64 y3,.int .i64 y4,.int .i64 y5,.int .i64 y6])/\Below w.heap.size w w') :
  Calls prog 139 #[.agg #[.int .i64 f0,.int .i64 f1,.int .i64 f2,.int .i64 f3,.int .i64 bo,.int .i64 wa,.int .i64 bu]] w fun e w'=>e=.returned (.bool false)/\Below w.heap.size w w':=by
 go_enter func139,ntmps139
 go_wp2_with fail
 have HB0:Hid (Below w.heap.size w (w.alloc (.cells #[.int .i64 f0,.int .i64 f1,.int .i64 f2,.int .i64 f3,.int .i64 bo,.int .i64 wa,.int .i64 bu] 35))):=znw w _;have B0:=BAt.new w f0 f1 f2 f3 bo wa bu;have hlt:w.heap.size<(w.alloc (.cells #[.int .i64 f0,.int .i64 f1,.int .i64 f2,.int .i64 f3,.int .i64 bo,.int .i64 wa,.int .i64 bu] 35)).heap.size:=by simp
 generalize w.alloc (.cells #[.int .i64 f0,.int .i64 f1,.int .i64 f2,.int .i64 f3,.int .i64 bo,.int .i64 wa,.int .i64 bu] 35)=w0 at *;obtain⟨x0,x1,x2,x3,x4,x5,x6⟩:=id B0.cells;clear B0;have hbb:Below w0.heap.size w0 w0.drew:=(Below.refl _ _).drew
 go_region_with (go_at_call 168;refine (z6o (f0:=f0) (f1:=f1) (f2:=f2) (f3:=f3) (bo:=bo) (wa:=wa) (bu:=bu) (hcl _) hlt ?_).mono ?_;(simp[*]);rintro e wA⟨rfl,z0,z1,z2,z3,z4,z5,z6,hA⟩)
 all_goals
  have HF:Hid (Below w.heap.size w wA):=HB0.out.trans (hA.mono (Nat.le_of_lt hlt));clear hA;go_wp2;go_ret;exact⟨rfl,HF.out⟩
theorem j2t(f0 f1 f2 f3 bo wa bu s:Int)(r:Bool)(w:World)(heq:∀ w,(binOp .eql 35 (.agg #[.int .i64 f0,.int .i64 f1,.int .i64 f2,.int .i64 f3,.int .i64 bo,.int .i64 wa,.int .i64 bu]) (.agg #[.int .i64 f0,.int .i64 f1,.int .i64 f2,.int .i64 f3,.int .i64 bo,.int .i64 wa,.int .i64 bu])).run prog w=.ok (.bool true) w)
  (hcl:∀ w,Calls prog 168 #[.agg #[.int .i64 f0,.int .i64 f1,.int .i64 f2,.int .i64 f3,.int .i64 bo,.int .i64 wa,.int .i64 bu]] w fun e w'=>e=.returned (.agg #[.int .i64 f0,.int .i64 f1,.int .i64 f2,.int .i64 f3,.int .i64 bo,.int .i64 wa,.int .i64 bu])/\Below w.heap.size w w')
  (hsum:∀ w,Calls prog 169 #[.agg #[.int .i64 f0,.int .i64 f1,.int .i64 f2,.int .i64 f3,.int .i64 bo,.int .i64 wa,.int .i64 bu]] w fun e w'=>e=.returned (.int .i64 s)/\Below w.heap.size w w') (hr:(s == 400000)=r) :
  Calls prog 139 #[.agg #[.int .i64 f0,.int .i64 f1,.int .i64 f2,.int .i64 f3,.int .i64 bo,.int .i64 wa,.int .i64 bu]] w fun e w'=>e=.returned (.bool r)/\Below w.heap.size w w':=by
 go_enter func139,ntmps139
 go_wp2_with fail
 have HB0:Hid (Below w.heap.size w (w.alloc (.cells #[.int .i64 f0,.int .i64 f1,.int .i64 f2,.int .i64 f3,.int .i64 bo,.int .i64 wa,.int .i64 bu] 35))):=znw w _;have B0:=BAt.new w f0 f1 f2 f3 bo wa bu;have hlt:w.heap.size<(w.alloc (.cells #[.int .i64 f0,.int .i64 f1,.int .i64 f2,.int .i64 f3,.int .i64 bo,.int .i64 wa,.int .i64 bu] 35)).heap.size:=by simp
 generalize w.alloc (.cells #[.int .i64 f0,.int .i64 f1,.int .i64 f2,.int .i64 f3,.int .i64 bo,.int .i64 wa,.int .i64 bu] 35)=w0 at *;obtain⟨x0,x1,x2,x3,x4,x5,x6⟩:=id B0.cells;clear B0;have hbb:Below w0.heap.size w0 w0.drew:=(Below.refl _ _).drew
 go_region_held3 (fun w'=>w'.cell? ⟨w.heap.size,0,none⟩=some (.int .i64 f0)/\w'.cell? ⟨w.heap.size,1,none⟩=some (.int .i64 f1)/\w'.cell? ⟨w.heap.size,2,none⟩=some (.int .i64 f2)/\w'.cell? ⟨w.heap.size,3,none⟩=some (.int .i64 f3)/\w'.cell? ⟨w.heap.size,4,none⟩=some (.int .i64 bo)/\w'.cell? ⟨w.heap.size,5,none⟩=some (.int .i64 wa)/\w'.cell? ⟨w.heap.size,6,none⟩=some (.int .i64 bu)/\Below w0.heap.size w0 w') (go_keep)
  (first
   | (go_at_call 168;refine (z6o (f0:=f0) (f1:=f1) (f2:=f2) (f3:=f3) (bo:=bo) (wa:=wa) (bu:=bu) (hcl _) hlt ?_).mono ?_;(simp[*]);rintro e wA⟨rfl,hA⟩)
   | (go_at_call 169;refine (z6o (f0:=f0) (f1:=f1) (f2:=f2) (f3:=f3) (bo:=bo) (wa:=wa) (bu:=bu) (hsum _) hlt ?_).mono ?_;(simp[*]);rintro e wB⟨rfl,hB⟩))
 have HF:Hid (Below w.heap.size w wB):=HB0.out.trans (hB.2.2.2.2.2.2.2.mono (Nat.le_of_lt hlt));clear hA hB;go_wp2;go_ret;exact⟨rfl,HF.out⟩
theorem j3T(n:Int):cl n=n↔0<=n/\n<=400000:=by
 unfold cl;omega
theorem z0o(f0 f1 f2 f3 bo wa bu:Int)(w:World):Calls prog 139 #[.agg #[.int .i64 f0,.int .i64 f1,.int .i64 f2,.int .i64 f3,.int .i64 bo,.int .i64 wa,.int .i64 bu]] w fun e w'=>e=.returned (.bool (z1z f0 f1 f2 f3 bo wa bu))/\Below w.heap.size w w':=by
 have hc:=q2o f0 f1 f2 f3 bo wa bu;have he:=fun w=>eqB w (cl f0) (cl f1) (cl f2) (cl f3) (cl bo) (cl wa) (cl bu) f0 f1 f2 f3 bo wa bu
 by_cases h:cl f0=f0/\cl f1=f1/\cl f2=f2/\cl f3=f3/\cl bo=bo/\cl wa=wa/\cl bu=bu
 ·rw[decide_eq_true h]at he;obtain⟨h0,h1,h2,h3,h4,h5,h6⟩:=h;rw[h0,h1,h2,h3,h4,h5,h6]at hc he;rw[j3T]at h0 h1 h2 h3 h4 h5 h6;refine j2t f0 f1 f2 f3 bo wa bu _ _ w he hc (j6n f0 f1 f2 f3 bo wa bu) ?_;rw[z0f (by omega) (by omega)]
  unfold z1z
  simp[h0,h1,h2,h3,h4,h5,h6]
  rfl
 ·rw[decide_eq_false h]at he
  have hn:z1z f0 f1 f2 f3 bo wa bu=false:=by
   unfold z1z;refine decide_eq_false fun g=>h ?_;simp only[j3T];exact⟨g.1,g.2.1,g.2.2.1,g.2.2.2.1,g.2.2.2.2.1,g.2.2.2.2.2.1,g.2.2.2.2.2.2.1⟩
  rw[hn];exact j5v f0 f1 f2 f3 bo wa bu w _ _ _ _ _ _ _ he hc
theorem z0S{w wq:World}(R:BAt wq (w.heap.size+1) 0 0 0 0 0 0 0)(H:Below w.heap.size w wq)(r0 r1 r2 r3 r4 r5 r6 er:Int)(act:Act)
  (h8:act.tmps.getD 8 undef=.pointer (some ⟨w.heap.size+1,0,none⟩)) (h9:act.tmps.getD 9 undef=.int .i64 er) (hd:act.defers=[]) :
  bodyPost prog f150 (fun e w'=>e=.returned (.tuple #[.agg #[.int .i64 r0,.int .i64 r1,.int .i64 r2,.int .i64 r3,.int .i64 r4,.int .i64 r5,.int .i64 r6],.int .i64 er])/\Below w.heap.size w w') Exit.ret act
   (z6Y wq (w.heap.size+1) r0 r1 r2 r3 r4 r5 r6):=by
 have HR:=R.z6Y r0 r1 r2 r3 r4 r5 r6;have HW:=z3i (b:=w.heap.size+1) H (by omega) r0 r1 r2 r3 r4 r5 r6
 generalize z6Y wq (w.heap.size+1) r0 r1 r2 r3 r4 r5 r6=w9 at *;obtain⟨u0,u1,u2,u3,u4,u5,u6⟩:=HR.cells;have h8':act.tmps[8]?.getD undef=.pointer (some ⟨w.heap.size+1,0,none⟩):=by simpa using h8
 have h9':act.tmps[9]?.getD undef=.int .i64 er:=by simpa using h9
 exact bodyPost_ret (v:=.tuple #[.agg #[.int .i64 r0,.int .i64 r1,.int .i64 r2,.int .i64 r3,.int .i64 r4,.int .i64 r5,.int .i64 r6],.int .i64 er]) (by simp[results,results150,go_sem,h8',h9',u0,u1,u2,u3,u4,u5,u6]) hd ⟨rfl,HW⟩
theorem z1w{w w1:World}{f0 f1 f2 f3 bo wa bu:Int}(hb:Below ((w.alloc (.cells #[.int .i64 f0,.int .i64 f1,.int .i64 f2,.int .i64 f3,.int .i64 bo,.int .i64 wa,.int .i64 bu] 35)).alloc (.cells #[.int .i64 0,.int .i64 0,.int .i64 0,.int .i64 0,.int .i64 0,.int .i64 0,.int .i64 0] 35)).heap.size ((w.alloc (.cells #[.int .i64 f0,.int .i64 f1,.int .i64 f2,.int .i64 f3,.int .i64 bo,.int .i64 wa,.int .i64 bu] 35)).alloc (.cells #[.int .i64 0,.int .i64 0,.int .i64 0,.int .i64 0,.int .i64 0,.int .i64 0,.int .i64 0] 35)) w1):BAt w1 w.heap.size f0 f1 f2 f3 bo wa bu/\BAt w1 (w.heap.size+1) 0 0 0 0 0 0 0/\Hid (Below w.heap.size w w1):=by
 refine⟨((BAt.new w f0 f1 f2 f3 bo wa bu).alloc (.cells #[.int .i64 0,.int .i64 0,.int .i64 0,.int .i64 0,.int .i64 0,.int .i64 0,.int .i64 0] 35)).later hb (by simp;omega),?_,((znw w _).alloc (by simp) _).trans (hb.mono (by simp;omega))⟩
 have:=(BAt.new (w.alloc (.cells #[.int .i64 f0,.int .i64 f1,.int .i64 f2,.int .i64 f3,.int .i64 bo,.int .i64 wa,.int .i64 bu] 35)) 0 0 0 0 0 0 0).later hb (by simp)
 simpa using this
end
end Go.Proofs.YtmopekkhmhhcaaaGreat
