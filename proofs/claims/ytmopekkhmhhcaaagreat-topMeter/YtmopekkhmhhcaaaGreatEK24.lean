/- Parts of the proof. -/
import Derived.Test.YtmopekkhmhhcaaaGreatEL
import Derived.Test.YtmopekkhmhhcaaaGreatEK40
import Derived.OpenShut
import Derived.Deep.Slices
import Derived.SizedLaws
set_option maxRecDepth 100000
set_option maxHeartbeats 16000000
namespace Go.Proofs.YtmopekkhmhhcaaaGreat
open Go.Proofs.Tryz
namespace Pv
open Go.RowKit
structure Alt(g:Nat)(w w':World):Prop where
 os:w'.os=w.os
 tape:w'.tape=w.tape
 output:w'.output=w.output
 size:w.heap.size<=w'.heap.size
 block:∀ k,k<w.heap.size->k≠g->w'.heap[k]?=w.heap[k]?
theorem Alt.refl(g:Nat)(w:World):Alt g w w:=⟨rfl,rfl,rfl,Nat.le_refl _,fun _ _ _=>rfl⟩
theorem Alt.trans{g:Nat}{w w1 w2:World}(h:Alt g w w1)(k:Alt g w1 w2):Alt g w w2:=⟨k.os.trans h.os,k.tape.trans h.tape,k.output.trans h.output,Nat.le_trans h.size k.size,fun i hi hn=>(k.block i (Nat.lt_of_lt_of_le hi h.size) hn).trans (h.block i hi hn)⟩
theorem Alt.of{g:Nat}{w w':World}(h:Below w.heap.size w w'):Alt g w w':=⟨h.os,h.tape,h.output,h.size,fun k hk _=>h.block k hk⟩
theorem Alt.below{g B:Nat}{w w':World}(h:Alt g w w')(hB:B<=g)(hw:B<=w.heap.size):Below B w w':=⟨h.os,h.tape,h.output,h.size,fun k hk=>h.block k (by omega) (by omega)⟩
theorem Alt.set{g:Nat}{w w':World}(h:Alt g w w')(o:Nat)(v:Value):Alt g w (w'.setCell ⟨g,o,none⟩ v):=
 ⟨h.os,h.tape,h.output,(by simp[World.setCell];exact h.size),fun k hk hn=>(Below.heap_setCell _ _ _ _ hn).trans (h.block k hk hn)⟩
theorem Alt.sets{g:Nat}:∀ (vs:List Value) {w w':World} (_:Alt g w w') (o:Nat),Alt g w (w'.setCells g o vs)
 | [],_,_,h,_=>h
 | _ :: r,_,_,h,o=>Alt.sets r (h.set o _) (o+1)
theorem Alt.cat{g:Nat}{w w':World}(h:Alt g w w'){b:Nat}(hb:b≠g){t:TypeId}{cs:Array Value}(c:CAt t w b cs):CAt t w' b cs:=(h.block b c.lt hb).trans c
theorem Alt.rep{g:Nat}{w w':World}(h:Alt g w w'){P:Nat->Prop}(hP:¬ P g){v:Value}{sz bts:Nat}{cs:List Value}(hp:Rep P w v sz bts cs):Rep P w' v sz bts cs:=hp.keep fun b hb hlt=>h.block b hlt (fun e=>hP (e ▸ hb))
def New(P:Nat->Prop)(w:World)(k b:Nat):Prop:=(P b/\b<w.heap.size)∨w.heap.size+k<=b
theorem z3C{P:Nat->Prop}{w:World}{k j:Nat}(h:j<k):¬ New P w k (w.heap.size+j):=fun hn=>by
 rcases hn with ⟨_,h1⟩ | h1 <;> omega
end Pv
namespace Ln
open Go.RowKit
theorem q6a(x:Line)(k:Int)(s:ByteArray)(said now:Int) :
  (z4a x≠0/\(z5l x k s said now,z4r x k s said now)=(x,z4a x))∨(z4a x=0/\((k≠x.g+1/\(z5l x k s said now,z4r x k s said now)=(x,10)) ∨
  (k=x.g+1/\((said<k/\(z5l x k s said now,z4r x k s said now)=(x,9))∨(k<=said/\(((x.S.length:Int)<k/\(z5l x k s said now,z4r x k s said now)=(x,9))∨(k<=x.S.length /\
   ((x.S.getD (k - 1).toNat ByteArray.empty≠s/\(z5l x k s said now,z4r x k s said now)=(x,9))∨(x.S.getD (k - 1).toNat ByteArray.empty=s /\
    ((x.D.getD (k - 1).toNat 0<=now/\(z5l x k s said now,z4r x k s said now)=(x,12))∨(now<x.D.getD (k - 1).toNat 0/\(z5l x k s said now,z4r x k s said now)=(⟨x.S,x.D,k,x.cl⟩,0)))))))))))):=by
 have no:∀ e,z4r x k s said now=e->e≠0->(z5l x k s said now,z4r x k s said now)=(x,e):=fun e h h0=>by unfold z5l;rw[h,if_neg h0]
 by_cases h1:z4a x=0
 ·right
  have g1:¬ z4a x≠0:=fun h=>h h1;refine ⟨h1,?_⟩
  by_cases h2:k=x.g+1
  ·right
   have g2:¬ k≠x.g+1:=fun h=>h h2;refine ⟨h2,?_⟩
   by_cases h3:said<k
   ·left;exact ⟨h3,no 9 (by rw[z4r,if_neg g1,if_neg g2,if_pos (.inl h3)]) (by decide)⟩
   ·right
    refine ⟨by omega,?_⟩
    by_cases h4:(x.S.length:Int)<k
    ·left;exact ⟨h4,no 9 (by rw[z4r,if_neg g1,if_neg g2,if_pos (.inr (.inl h4))]) (by decide)⟩
    ·right
     refine ⟨by omega,?_⟩
     by_cases h5:x.S.getD (k - 1).toNat ByteArray.empty=s
     ·right
      refine ⟨h5,?_⟩
      have h6:¬ (said<k∨(x.S.length:Int)<k∨x.S.getD (k - 1).toNat ByteArray.empty≠s):=by
       rintro (h | h | h)
       ·exact h3 h
       ·exact h4 h
       ·exact h h5
      by_cases h7:x.D.getD (k - 1).toNat 0<=now
      ·left;exact ⟨h7,no 12 (by rw[z4r,if_neg g1,if_neg g2,if_neg h6,if_pos h7]) (by decide)⟩
      ·right
       have e:z4r x k s said now=0:=by rw[z4r,if_neg g1,if_neg g2,if_neg h6,if_neg h7]
       exact ⟨by omega,by unfold z5l;rw[e,if_pos rfl]⟩
     ·left;exact ⟨h5,no 9 (by rw[z4r,if_neg g1,if_neg g2,if_pos (.inr (.inr h5))]) (by decide)⟩
  ·left;exact ⟨h2,no 10 (by rw[z4r,if_neg g1,if_pos h2]) (by decide)⟩
 ·left;exact ⟨h1,no _ (by rw[z4r,if_pos h1]) h1⟩
theorem j5A(x:Line)(sa da:Option Addr)(cs cd sb so db dO:Nat)(k:Int)(s:ByteArray)(said now:Int)(w:World)(L:LAt w x sa da cs cd sb so db dO) :
  Calls prog 93 #[.agg #[.slice sa x.S.length cs,.slice da x.D.length cd,.int .i64 x.g,.bool x.cl],.int .i64 k,.string s,.int .i64 said,.int .i64 now] w fun e w'=>Ans sb db x w (z5l x k s said now,z4r x k s said now) e w':=by
 have hcs:=q6a x k s said now;generalize (z5l x k s said now,z4r x k s said now)=r at *;have HB:=hide (begun L);have HREF:=hide (fun w (L:LAt w x sa da cs cd sb so db dO)=>q1G x sa da cs cd sb so db dO w L);have HHAS:=hide (fun w=>q7f x sa da cs cd k w);have HGD:=hide (fun h=>z7d (z7q (x:=x) h).1);clear L
 go_enter func93,ntmps93
 go_upto_region 1 with fail
 generalize ((w.alloc (.cells #[.slice sa x.S.length cs,.slice da x.D.length cd,.int .i64 x.g,.bool x.cl] 47)).alloc (.cells #[.slice none 0 0,.slice none 0 0,.int .i64 0,.bool false] 47))=w0 at *;obtain ⟨⟨c0,c1,c2,c3⟩,-⟩:=HB.out.F1.facts;obtain ⟨⟨d0,d1,d2,d3⟩,⟨f0,f1,f2,f3⟩⟩:=HB.out.F2.facts;generalize z4a x=R at *
 rcases hcs with ⟨h1,hr⟩ | ⟨rfl,hcs⟩
 ·have HR:=hide hr;have h1':(R != 0)=true:=by simpa using h1
  clear hr h1
  go_wp2_with (go_at_call 129;refine (HREF.out _ HB.out.L).mono ?_;rintro e w1 ⟨rfl,hb⟩;have HB1:=hide (HB.out.over hb);clear hb c0 c1 c2 c3 d0 d1 d2 d3 f0 f1 f2 f3;obtain ⟨⟨c0,c1,c2,c3⟩,-⟩:=HB1.out.F1.facts;obtain ⟨⟨d0,d1,d2,d3⟩,⟨f0,f1,f2,f3⟩⟩:=HB1.out.F2.facts)
  exact HB1.out.z0F rfl _ _ HR.out _ rfl rfl rfl
 obtain ⟨hl1,hl2,hg0,hg1⟩:=HGD.out rfl;have HL1:=hide hl1;clear hl1
 go_upto_region 4 with (go_at_call 129;refine (HREF.out _ HB.out.L).mono ?_;rintro e w1 ⟨rfl,hb⟩;have HB1:=hide (HB.out.over hb);clear hb c0 c1 c2 c3 d0 d1 d2 d3 f0 f1 f2 f3;obtain ⟨⟨c0,c1,c2,c3⟩,⟨e0,e1,e2,e3⟩⟩:=HB1.out.F1.facts;obtain ⟨⟨d0,d1,d2,d3⟩,⟨f0,f1,f2,f3⟩⟩:=HB1.out.F2.facts)
 clear HB HREF w0
 rcases hcs with ⟨h2,hr⟩ | ⟨h2,hcs⟩
 ·have HR:=hide hr;have h2':(k != x.g+1)=true:=by simpa using h2
  clear hr h2;go_wp2;exact HB1.out.z0F rfl _ _ HR.out _ rfl rfl rfl
 have h2':(k != x.g+1)=false:=by simpa using h2
 have hk0:1<=k:=by omega
 have HK:=hide h2;clear h2
 go_upto_region 6 with fail
 clear h2'
 rcases hcs with ⟨h3,hr⟩ | ⟨h3,hcs⟩
 ·have HR:=hide hr;clear hr
  go_wp2_with (go_at_call 130;exfalso;omega)
  exact HB1.out.z0F rfl _ _ HR.out _ rfl rfl rfl
 rcases hcs with ⟨h4,hr⟩ | ⟨h4,hcs⟩
 ·have HR:=hide hr;have hd:(decide (1<=k) && decide (k<=(x.S.length:Int)))=false:=by simp;omega
  rw[hd]at HHAS;clear hr hd
  go_wp2_with (go_at_call 130;refine (HHAS.out _).mono ?_;rintro e w2 ⟨rfl,hb⟩;have HB2:=hide (HB1.out.over hb);clear hb c0 c1 c2 c3 e0 e1 e2 e3 d0 d1 d2 d3 f0 f1 f2 f3;obtain ⟨⟨c0,c1,c2,c3⟩,-⟩:=HB2.out.F1.facts;obtain ⟨⟨d0,d1,d2,d3⟩,⟨f0,f1,f2,f3⟩⟩:=HB2.out.F2.facts)
  exact HB2.out.z0F rfl _ _ HR.out _ rfl rfl rfl
 have hd:(decide (1<=k) && decide (k<=(x.S.length:Int)))=true:=by simp;omega
 rw[hd]at HHAS;clear hd;obtain ⟨j,hj⟩:∃ j:Nat,k - 1=(j:Int):=⟨(k - 1).toNat,by omega⟩
 have hjS:j<x.S.length:=by omega
 have hjD:j<x.D.length:=by rw[HL1.out];exact hjS
 have hjI:(j:Int)<(x.S.length:Int):=by omega
 have hjJ:(j:Int)<(x.D.length:Int):=by omega
 rw[hj,Int.toNat_natCast]at hcs;obtain rfl:k=(j:Int)+1:=by omega
 have esa:=HB1.out.L.hsa (by omega)
 have eda:=HB1.out.L.hda (by omega)
 subst esa eda;obtain ⟨t,ht⟩:∃ t,x.S.getD j ByteArray.empty=t:=⟨_,rfl⟩;obtain ⟨y,hy⟩:∃ y,x.D.getD j 0=y:=⟨_,rfl⟩;rw[ht,hy]at hcs;have HT:=hide ht;have HY:=hide hy;clear ht hy
 rcases hcs with ⟨h5,hr⟩ | ⟨rfl,hcs⟩
 ·have HR:=hide hr;have h5':=j6N h5;clear hr h5
  go_wp2_with (go_at_call 130;refine (HHAS.out _).mono ?_;rintro e w2 ⟨rfl,hb⟩;have HB2:=hide (HB1.out.over hb);clear hb c0 c1 c2 c3 e0 e1 e2 e3 d0 d1 d2 d3 f0 f1 f2 f3;obtain ⟨⟨c0,c1,c2,c3⟩,-⟩:=HB2.out.F1.facts;obtain ⟨⟨d0,d1,d2,d3⟩,⟨f0,f1,f2,f3⟩⟩:=HB2.out.F2.facts;have ct:=HB2.out.L.PS j hjS;rw[HT.out]at ct)
  exact HB2.out.z0F rfl _ _ HR.out _ rfl rfl rfl
 rcases hcs with ⟨h6,hr⟩ | ⟨h6,hr⟩
 ·have HR:=hide hr;clear hr
  go_wp2_with (go_at_call 130;refine (HHAS.out _).mono ?_;rintro e w2 ⟨rfl,hb⟩;have HB2:=hide (HB1.out.over hb);clear hb c0 c1 c2 c3 e0 e1 e2 e3 d0 d1 d2 d3 f0 f1 f2 f3;obtain ⟨⟨c0,c1,c2,c3⟩,-⟩:=HB2.out.F1.facts;obtain ⟨⟨d0,d1,d2,d3⟩,⟨f0,f1,f2,f3⟩⟩:=HB2.out.F2.facts;have ct:=HB2.out.L.PS j hjS;rw[HT.out]at ct;have cy:=HB2.out.L.PD j hjD;rw[HY.out]at cy)
  exact HB2.out.z0F rfl _ _ HR.out _ rfl rfl rfl
 ·have HR:=hide hr;clear hr
  go_upto_region 11 with (go_at_call 130;refine (HHAS.out _).mono ?_;rintro e w2 ⟨rfl,hb⟩;have HB2:=hide (HB1.out.over hb);clear hb c0 c1 c2 c3 e0 e1 e2 e3 d0 d1 d2 d3 f0 f1 f2 f3;obtain ⟨⟨c0,c1,c2,c3⟩,⟨e0,e1,e2,e3⟩⟩:=HB2.out.F1.facts;have ct:=HB2.out.L.PS j hjS;rw[HT.out]at ct;have cy:=HB2.out.L.PD j hjD;rw[HY.out]at cy)
  have F1:=HB2.out.F1.q9r (.int .i64 ((j:Int)+1));have F2:=HB2.out.F2.other (c:=w.heap.size) (o:=2) (by omega) (.int .i64 ((j:Int)+1))
  have BW:=HB2.out.below.setCell (p:=⟨w.heap.size,2,none⟩) (Nat.le_refl _) (.int .i64 ((j:Int)+1));have LL:=HB2.out.L.z4k ((Below.refl w.heap.size w2).setCell (p:=⟨w.heap.size,2,none⟩) (Nat.le_refl _) (.int .i64 ((j:Int)+1))) HB2.out.ltS HB2.out.ltD;clear c0 c1 c2 c3 e0 e1 e2 e3 ct cy;generalize (w2.setCell ⟨w.heap.size,2,none⟩ (.int .i64 ((j:Int)+1)))=w3 at *;obtain ⟨⟨c0,c1,c2,c3⟩,-⟩:=F1.facts;obtain ⟨⟨d0,d1,d2,d3⟩,⟨f0,f1,f2,f3⟩⟩:=F2.facts;have HX:=hide (show _/\_/\_ from ⟨F2,BW,LL⟩);have HLT:=hide (And.intro HB2.out.ltS HB2.out.ltD);clear F1 F2 BW LL;go_wp2;exact z6F rfl HX.out.1 HX.out.2.1 (Nat.le_succ _) ⟨x.S,x.D,(j:Int)+1,x.cl⟩ _ _ _ _ _ _ _ _ ⟨HX.out.2.2.hls,HX.out.2.2.hld,HX.out.2.2.hsa,HX.out.2.2.hda,HX.out.2.2.ncs,HX.out.2.2.ncd,HX.out.2.2.PS,HX.out.2.2.PD⟩ (fun h=>by have:=HLT.out.1 h;omega) (fun h=>by have:=HLT.out.2 h;omega) (fun _=>.inl ⟨rfl,rfl⟩) (fun _=>.inl ⟨rfl,rfl⟩) _ _ rfl rfl _ _ HR.out _ rfl rfl rfl
theorem q7e(x:Line)(k time got:Int) :
  (z4a x≠0/\(z6X x k time got,z5d x k time got)=(x,z4a x))∨(z4a x=0/\(((k<1∨(x.S.length:Int)<k)/\(z6X x k time got,z5d x k time got)=(x,4)) ∨
  (1<=k/\k<=x.S.length/\((k<=got/\(z6X x k time got,z5d x k time got)=(x,5))∨(got<k/\((time<x.D.getD (k - 1).toNat 0/\(z6X x k time got,z5d x k time got)=(x,13)) ∨
   (x.D.getD (k - 1).toNat 0<=time/\(z6X x k time got,z5d x k time got)=(⟨x.S,x.D,x.g,true⟩,0)))))))):=by
 have no:∀ e,z5d x k time got=e->e≠0->(z6X x k time got,z5d x k time got)=(x,e):=fun e h h0=>by unfold z6X;rw[h,if_neg h0]
 by_cases h1:z4a x=0
 ·right
  have g1:¬ z4a x≠0:=fun h=>h h1;refine ⟨h1,?_⟩
  by_cases h2:k<1∨(x.S.length:Int)<k
  ·left;exact ⟨h2,no 4 (by rw[z5d,if_neg g1,if_pos h2]) (by decide)⟩
  ·right
   refine ⟨by omega,by omega,?_⟩
   by_cases h3:k<=got
   ·left;exact ⟨h3,no 5 (by rw[z5d,if_neg g1,if_neg h2,if_pos h3]) (by decide)⟩
   ·right
    refine ⟨by omega,?_⟩
    by_cases h4:time<x.D.getD (k - 1).toNat 0
    ·left;exact ⟨h4,no 13 (by rw[z5d,if_neg g1,if_neg h2,if_neg h3,if_pos h4]) (by decide)⟩
    ·right
     have e:z5d x k time got=0:=by rw[z5d,if_neg g1,if_neg h2,if_neg h3,if_neg h4]
     exact ⟨by omega,by unfold z6X;rw[e,if_pos rfl]⟩
 ·left;exact ⟨h1,no _ (by rw[z5d,if_pos h1]) h1⟩
theorem j5j(x:Line)(sa da:Option Addr)(cs cd sb so db dO:Nat)(k time got:Int)(w:World)(L:LAt w x sa da cs cd sb so db dO) :
  Calls prog 95 #[.agg #[.slice sa x.S.length cs,.slice da x.D.length cd,.int .i64 x.g,.bool x.cl],.int .i64 k,.int .i64 time,.int .i64 got] w fun e w'=>Ans sb db x w (z6X x k time got,z5d x k time got) e w':=by
 have hcs:=q7e x k time got;generalize (z6X x k time got,z5d x k time got)=r at *;have HB:=hide (begun L);have HREF:=hide (fun w (L:LAt w x sa da cs cd sb so db dO)=>q1G x sa da cs cd sb so db dO w L);have HHAS:=hide (fun w=>q7f x sa da cs cd k w);have HGD:=hide (fun h=>z7d (z7q (x:=x) h).1);clear L
 go_enter func95,ntmps95
 go_upto_region 1 with fail
 generalize ((w.alloc (.cells #[.slice sa x.S.length cs,.slice da x.D.length cd,.int .i64 x.g,.bool x.cl] 47)).alloc (.cells #[.slice none 0 0,.slice none 0 0,.int .i64 0,.bool false] 47))=w0 at *;obtain ⟨⟨c0,c1,c2,c3⟩,-⟩:=HB.out.F1.facts;obtain ⟨⟨d0,d1,d2,d3⟩,⟨f0,f1,f2,f3⟩⟩:=HB.out.F2.facts;generalize z4a x=R at *
 rcases hcs with ⟨h1,hr⟩ | ⟨rfl,hcs⟩
 ·have HR:=hide hr;have h1':(R != 0)=true:=by simpa using h1
  clear hr h1
  go_wp2_with (go_at_call 129;refine (HREF.out _ HB.out.L).mono ?_;rintro e w1 ⟨rfl,hb⟩;have HB1:=hide (HB.out.over hb);clear hb c0 c1 c2 c3 d0 d1 d2 d3 f0 f1 f2 f3;obtain ⟨⟨c0,c1,c2,c3⟩,-⟩:=HB1.out.F1.facts;obtain ⟨⟨d0,d1,d2,d3⟩,⟨f0,f1,f2,f3⟩⟩:=HB1.out.F2.facts)
  exact HB1.out.z0F rfl _ _ HR.out _ rfl rfl rfl
 obtain ⟨hl1,hl2,-,-⟩:=HGD.out rfl;have HL1:=hide hl1;clear hl1
 go_upto_region 4 with (go_at_call 129;refine (HREF.out _ HB.out.L).mono ?_;rintro e w1 ⟨rfl,hb⟩;have HB1:=hide (HB.out.over hb);clear hb c0 c1 c2 c3 d0 d1 d2 d3 f0 f1 f2 f3;obtain ⟨⟨c0,c1,c2,c3⟩,-⟩:=HB1.out.F1.facts)
 clear HB HREF w0
 rcases hcs with ⟨h2,hr⟩ | ⟨h2,h2',hcs⟩
 ·have HR:=hide hr;have hd:(decide (1<=k) && decide (k<=(x.S.length:Int)))=false:=by simp;omega
  rw[hd]at HHAS;clear hr hd h2
  go_wp2_with (go_at_call 130;refine (HHAS.out _).mono ?_;rintro e w2 ⟨rfl,hb⟩;have HB2:=hide (HB1.out.over hb);clear hb c0 c1 c2 c3;obtain ⟨⟨c0,c1,c2,c3⟩,-⟩:=HB2.out.F1.facts;obtain ⟨⟨d0,d1,d2,d3⟩,⟨f0,f1,f2,f3⟩⟩:=HB2.out.F2.facts)
  exact HB2.out.z0F rfl _ _ HR.out _ rfl rfl rfl
 have hd:(decide (1<=k) && decide (k<=(x.S.length:Int)))=true:=by simp;omega
 rw[hd]at HHAS;clear hd;obtain ⟨j,hj⟩:∃ j:Nat,k - 1=(j:Int):=⟨(k - 1).toNat,by omega⟩
 have hjS:j<x.S.length:=by omega
 have hjD:j<x.D.length:=by rw[HL1.out];exact hjS
 have hjJ:(j:Int)<(x.D.length:Int):=by omega
 rw[hj,Int.toNat_natCast]at hcs;obtain rfl:k=(j:Int)+1:=by omega
 have eda:=HB1.out.L.hda (by omega)
 subst eda;obtain ⟨y,hy⟩:∃ y,x.D.getD j 0=y:=⟨_,rfl⟩;rw[hy]at hcs;have HY:=hide hy;clear hy
 go_upto_region 6 with (go_at_call 130;refine (HHAS.out _).mono ?_;rintro e w2 ⟨rfl,hb⟩;have HB2:=hide (HB1.out.over hb);clear hb c0 c1 c2 c3;obtain ⟨⟨c0,c1,c2,c3⟩,⟨e0,e1,e2,e3⟩⟩:=HB2.out.F1.facts;obtain ⟨⟨d0,d1,d2,d3⟩,⟨f0,f1,f2,f3⟩⟩:=HB2.out.F2.facts;have cy:=HB2.out.L.PD j hjD;rw[HY.out]at cy)
 rcases hcs with ⟨h3,hr⟩ | ⟨h3,hcs⟩
 ·have HR:=hide hr;clear hr;go_wp2;exact HB2.out.z0F rfl _ _ HR.out _ rfl rfl rfl
 rcases hcs with ⟨h4,hr⟩ | ⟨h4,hr⟩
 ·have HR:=hide hr;clear hr;go_wp2;exact HB2.out.z0F rfl _ _ HR.out _ rfl rfl rfl
 ·have HR:=hide hr;clear hr
  go_upto_region 11 with fail
  have F1:=HB2.out.F1.q7n (.bool true);have F2:=HB2.out.F2.other (c:=w.heap.size) (o:=3) (by omega) (.bool true)
  have BW:=HB2.out.below.setCell (p:=⟨w.heap.size,3,none⟩) (Nat.le_refl _) (.bool true);have LL:=HB2.out.L.z4k ((Below.refl w.heap.size w2).setCell (p:=⟨w.heap.size,3,none⟩) (Nat.le_refl _) (.bool true)) HB2.out.ltS HB2.out.ltD;clear c0 c1 c2 c3 e0 e1 e2 e3 d0 d1 d2 d3 f0 f1 f2 f3 cy;generalize (w2.setCell ⟨w.heap.size,3,none⟩ (.bool true))=w3 at *;obtain ⟨⟨c0,c1,c2,c3⟩,-⟩:=F1.facts;obtain ⟨⟨d0,d1,d2,d3⟩,⟨f0,f1,f2,f3⟩⟩:=F2.facts;have HX:=hide (show _/\_/\_ from ⟨F2,BW,LL⟩);have HLT:=hide (And.intro HB2.out.ltS HB2.out.ltD);clear F1 F2 BW LL;go_wp2;exact z6F rfl HX.out.1 HX.out.2.1 (Nat.le_succ _) ⟨x.S,x.D,x.g,true⟩ _ _ _ _ _ _ _ _ ⟨HX.out.2.2.hls,HX.out.2.2.hld,HX.out.2.2.hsa,HX.out.2.2.hda,HX.out.2.2.ncs,HX.out.2.2.ncd,HX.out.2.2.PS,HX.out.2.2.PD⟩ (fun h=>by have:=HLT.out.1 h;omega) (fun h=>by have:=HLT.out.2 h;omega) (fun _=>.inl ⟨rfl,rfl⟩) (fun _=>.inl ⟨rfl,rfl⟩) _ _ rfl rfl _ _ HR.out _ rfl rfl rfl
end Ln
namespace Wd
open Go.ChangeShapes Go.WideShapes Go.ChangeAt Go.RowKit Go.Deep
section
variable {H:Type} {enc:TypeId×Value->H} {W:World}
structure Dd where
 k:Int
 c:Int
 d:Int
 v:Int
 n:Int
 b:Bool
 f:Bool
def ddC(x:Dd):Array Value:=#[.int .i64 x.k,.int .i64 x.c,.int .i64 x.d,.int .i64 x.v,.int .i64 x.n,.bool x.b,.bool x.f]
end
end Wd
namespace Cd
open Go.RowKit
def encS(k i v n:Int)(S:List (Int×Int))(D:List Int):ByteArray:=if z0q k i v n S D=0 then strOfNums (enc k i v n S D) else ⟨#[]⟩
theorem z5I(k i v n:Int)(S:List (Int×Int))(D:List Int)(sa da:Option Addr)(cs cd sb so db dO:Nat)(w:World)(L:q5L w S D sa da sb so db dO) :
  Calls prog 122 #[.agg #[.int .i64 k,.int .i64 i,.int .i64 v,.int .i64 n,.slice sa S.length cs,.slice da D.length cd]] w fun e w'=>e=.returned (.tuple #[.string (encS k i v n S D),.int .i64 (z0q k i v n S D)])/\Below w.heap.size w w':=by
 by_cases h:z0q k i v n S D=0
 ·rw[encS,if_pos h,h];exact q9f k i v n S D sa da cs cd sb so db dO w L.hls L.hld L.hsa L.hda L.PS L.PD h
 ·rw[encS,if_neg h];exact q4h k i v n S D sa da cs cd sb so db dO w L.hls L.hld L.hsa L.hda L.PS L.PD h
end Cd
namespace Pv
open Go.RowKit
def z7J(last:Int)(x:Int×Int):Bool:=decide (last<x.1) && decide (x.1<=5) && decide (1<=x.2) && decide (x.2<=1125899906842624)
def z3k(last:Int):List (Int×Int)->Bool
 | []=>true
 | x :: l=>z7J last x && z3k x.1 l
def z2m(last:Int):List Int->Bool
 | []=>true
 | x :: l=>(decide (last<x) && decide (x<=5)) && z2m x l
theorem z4u{α:Type}{l:List α}{k:Nat}(h:k<l.length):∃ x,l[k]?=some x/\l.drop k=x :: l.drop (k+1):=⟨l[k],List.getElem?_eq_getElem h,List.drop_eq_getElem_cons h⟩
end Pv
section
open Go.RowKit
theorem q0o{S:Nat->Nat->Int}{v:Nat}:∀ j,z3f S v j=true->0<=psh S v j/\psh S v j<=1125899906842624 * (j:Int)
 | 0,_=>by simp[psh]
 | j+1,h=>by
  simp only[z3f,Bool.and_eq_true,z0z]at h;have h1:=q0o j h.1;have h2:=h.2;simp only[psh];omega
theorem q5g{S:Nat->Nat->Int}{v j:Nat}{x:Int}(hj:j<4)(hin:inA (S j v)=false):q4s S v x=false:=by
 unfold q4s
 rcases (show j=0∨j=1∨j=2∨j=3 by omega) with rfl | rfl | rfl | rfl <;> simp[z3f,hin]
theorem j0g{S:Nat->Nat->Int}{v:Nat}{x:Int}(h:z3f S v 4=true):q4s S v x=decide (psh S v 4=x):=by
 unfold q4s;rw[h,Bool.true_and]
theorem z7T(s:St)(sl:Value)(b v:Nat)(hv:v<6)(w:World)(h:SAt w b (stC s sl)) :
  Calls prog 142 #[.pointer (some ⟨b,0,none⟩),.int .i64 (v:Int)] w fun e w'=>e=.returned (.bool (q4s s.S v (s.V v).sh))/\w=w':=by
 have HS:Hid (SAt w b (stC s sl)):=h;have hv':(v:Int)<6:=by omega
 obtain ⟨_,hsh,_⟩:=h.val v hv;clear h
 go_enter func142,ntmps142
 go_wp2
 go_loop [5,8] (fun s5 i=>∃ (j:Nat),j<=4/\i=.int .i64 (j:Int)/\s5=.int .i64 (psh s.S v j)/\Hid (z3f s.S v j=true)) (fun _ i=>(4 - intOf i).toNat)
 case atStart=>exact ⟨0,by omega,rfl,rfl,rfl⟩
 case round =>
  obtain ⟨j,hj,rfl,rfl,HR⟩:=hrel
  by_cases hlt:j<4
  ·have hlt':(j:Int)<4:=by omega
   have hc:=HS.out.shr j v hlt hv;have i1:=z4L (s.S j v);have hpb:=q0o j HR.out
   by_cases hin:inA (s.S j v)=true
   ·rw[hin]at i1;have HR2:Hid (z3f s.S v (j+1)=true):=by show (z3f s.S v j && inA (s.S j v))=true;rw[HR.out,hin];rfl
    rw[z0z]at hin;have hps:psh s.S v (j+1)=psh s.S v j+s.S j v:=rfl;have HP:Hid (psh s.S v (j+1)=psh s.S v j+s.S j v):=hps;clear hps
    go_wp2_with (go_at_call 147;refine (i1 _).mono ?_;rintro e w5 ⟨rfl,rfl⟩)
    go_round
    case rel=>exact ⟨j+1,by omega,by go_num,by rw[HP.out],HR2.out⟩
    case measure=>simp[intOf];omega
   ·simp only[Bool.not_eq_true]at hin;rw[hin]at i1;have HF:Hid (q4s s.S v (s.V v).sh=false):=q5g hlt hin;clear hin
    go_wp2_with (go_at_call 147;refine (i1 _).mono ?_;rintro e w5 ⟨rfl,rfl⟩)
    go_ret;exact ⟨by rw[HF.out];rfl,rfl⟩
  ·obtain rfl:j=4:=by omega
   have HF:Hid (q4s s.S v (s.V v).sh=decide (psh s.S v 4=(s.V v).sh)):=j0g HR.out;go_wp2;go_ret;exact ⟨by rw[HF.out];congr 1,rfl⟩
theorem j5C(w:World):Calls prog 55 #[] w fun e w'=>e=.returned (.agg #[.int .i64 100000,.int .i64 100000,.int .i64 100000,.int .i64 100000,.int .i64 0,.int .i64 0,.int .i64 0])/\Below w.heap.size w w':=by
 go_enter func55,ntmps55
 go_wp2;refine wp_loop_rounds 5 ?_
 iterate 5 (try (rw[rounds_succ];go_wp2))
 exact bodyPost_ret (v:=.agg #[.int .i64 100000,.int .i64 100000,.int .i64 100000,.int .i64 100000,.int .i64 0,.int .i64 0,.int .i64 0]) (by simp[results,results55,go_sem]) rfl ⟨rfl,(znw w _).alloc (by simp) _⟩
end
end Go.Proofs.YtmopekkhmhhcaaaGreat
