/- Parts of the proof. -/
import Derived.Test.YtddlhnoedldidaaGreatML
import Derived.Test.YtddlhnoedldidaaGreatMK4
import Derived.Test.YtddlhnoedldidaaGreatMK17
set_option maxRecDepth 100000
set_option maxHeartbeats 16000000
namespace Go.Proofs.YtddlhnoedldidaaGreat
open Go.Proofs.Tryz
open Value renaming int->J,slice->J1,pointer->J2,bool->J3,agg->J4
open IntKind renaming i64->I
open Obj renaming cells->J5
section
open Go.RowKit
theorem z8W{f:Func}{p:Tmp}(a:f.results=#[.cell p 43]){g:Nat}{wq:World}{c:Array Value}(R:SAt wq g c)(d:c.size=63)(b:St)(sl:Value)(Q:Ending->World->Prop)(e:Q (.returned (J4 (stC b sl))) (wq.setCells g 0 (stC b sl).toList))(act:Act)
  (h:act.tmps.getD p undef=J2 (some ⟨g,0,none⟩)) (hd:act.defers=[]) :
  bodyPost prog f Q Exit.ret act (wq.setCells g 0 (stC b sl).toList):=by
 have i:=R.z0t (ds:=stC b sl) (by rw[d];rfl)
 refine bodyPost_ret (v:=J4 (stC b sl)) ?_ hd e;exact results_cell_row a _ _ _ _ _ _ _ h i underlying43 rfl (by rw[z0x];rfl)
structure RRl(s:St)(F:Wt->Wt)(B:Nat)(w:World)(A:Option Addr)(C k:Nat)(wl:World):Prop where
 own:z2d B wl A C ((s.W.take k).map F ++ s.W.drop k)
 S:SAt wl w.heap.size (stC s (J1 A s.W.length C))
 R:SAt wl (w.heap.size+1) Z63
 below:Bl w wl
theorem q4W(s:St)(ao:Option Addr)(sb so c:Nat)(h:Int)(w:World)(L:z2k w ao sb so s.W)(Z:s.W.length * 64<=140737488351232) :
  Calls prog 128 #[J4 (stC s (J1 ao s.W.length c)),J I 0,J I h] w fun e w'=>∃ A C,e=.returned (J4 (stC s (J1 A s.W.length C)))/\z2d w.heap.size w' A C (z5f 0 h s.W)/\Bl w w':=by
 have y:=(SAt.new w (stC s (J1 ao s.W.length c))).alloc (J5 Z63 43);have RR:=SAt.new2 w (J5 (stC s (J1 ao s.W.length c)) 43) Z63;have B:Hid (Bl w ((w.alloc (J5 (stC s (J1 ao s.W.length c)) 43)).alloc (J5 Z63 43))):=(znw w _).alloc (by simp) _
 have HW:=J6 L;clear L
 go_enter func128,ntmps128
 go_upto_region 1 with fail
 change Code.wp prog _ _ _ ((w.alloc (J5 (stC s (J1 ao s.W.length c)) 43)).alloc (J5 Z63 43));generalize (w.alloc (J5 (stC s (J1 ao s.W.length c)) 43)).alloc (J5 Z63 43)=w0 at *;have a0:w.heap.size+1<w0.heap.size:=RR.lt;have M:w.heap.size<w0.heap.size:=by omega
 have f:=(z0r y).2.2.2.2.2.2.2.1;have N:=z2T ao s.W c sb so w0 (HW.out.over B.out)
 go_upto_region 4 with (go_at_call 38;refine N.mono ?_;rintro e w1⟨A,C,rfl,j,h1⟩;have l:=y.later h1 y.lt;have P:=RR.later h1 RR.lt;have m:=J6 (B.out.trans (h1.mono (by omega)));have d:=J6 j;have D:=l.free 61;have a1:=l.lt;clear f;have f:=(z0r l).2.2.2.2.2.2.2.1;clear h1 j)
 have n:=l.set 61 (J1 A s.W.length C);rw[q0u]at n;have a:=(But.refl w.heap.size w1).set 61 (J1 A s.W.length C);have Q:=a.z1g (by omega) P
 have o:Hid (z2d w0.heap.size (w1.setCell ⟨w.heap.size,61,none⟩ (J1 A s.W.length C)) A C s.W):=z1c d.out fun k z=>a.block _ (by have:=(World.ownsRow.lt d.out k z).1;omega)
 have p:=J6 (m.out.trans (a.below (Nat.le_refl _)));generalize w1.setCell ⟨w.heap.size,61,none⟩ (J1 A s.W.length C)=w2 at *;clear f D l P d m a y RR B N;have f:=(z0r n).2.2.2.2.2.2.2.1;have a2:w.heap.size<w2.heap.size:=n.lt;have q:Hid (RRl s (z6C 0 h) w0.heap.size w A C 0 w2):=⟨o.out,n,Q,p.out⟩;clear n Q o p
 go_upto_region 5 with fail
 go_loopw [23] (fun i wl=>∃ (k:Nat),k<=s.W.length/\i=J I (k:Int)/\Hid (RRl s (z6C 0 h) w0.heap.size w A C k wl)) (fun i _=>s.W.length - (intOf i).toNat)
 case atStart=>exact⟨0,Nat.zero_le _,rfl,q⟩
 case round =>
  obtain⟨k,z,rfl,b⟩:=hrel;clear q f;have a3:=b.out.S.lt
  by_cases E:k<s.W.length
  ·obtain⟨x,T,_⟩:=drop_at E;obtain⟨U,F,e3⟩:=z6K (z6C 0 h) T;obtain⟨g,rfl,a4,a5,r⟩:=b.out.own.holds (by omega)
   obtain⟨c6,c7,f6,f7⟩:=r k x F;have t:=b.out.own.cap;rw[e3]at t;have f:=(z0r b.out.S).2.2.2.2.2.2.2.1;have u:=J6 U;have v:=J6 F;clear r U F T
   by_cases V:x.h0<=h
   ·have G:Hid (z6C 0 h x={ x with h0:=0 }):=by show _=_;unfold z6C;simp[V]
    go_wp2;refine⟨⟨k+1,by omega,by go_num,?_⟩,by simp[intOf];omega⟩
    have a:=(But.refl g wr).set (k * 8+6) (J I 0);exact⟨by rw[u.out,G.out];exact b.out.own.put v.out _ 6 _ (by omega) rfl,a.z1g (by omega) b.out.S,a.z1g (by omega) b.out.R,b.out.below.trans (a.below (by omega))⟩
   ·have G:Hid (z6C 0 h x=x):=by show _=_;unfold z6C;simp[V]
    have H:Hid (RRl s (z6C 0 h) w0.heap.size w (some ⟨g,0,none⟩) C (k+1) wr):=⟨by rw[u.out,G.out,z5u v.out];exact b.out.own,b.out.S,b.out.R,b.out.below⟩
    go_wp2;exact⟨⟨k+1,by omega,by go_num,H⟩,by simp[intOf];omega⟩
  ·obtain rfl:k=s.W.length:=by omega
   have j:=b.out.own;rw[List.take_length,List.drop_length,List.append_nil]at j;have X:=J6 j;have S3:=b.out.S;have Y:=b.out.R;have K:=J6 b.out.below;clear j b
   go_upto_region 11 with fail
   apply wp_region_lit;refine wpList_load_mid rfl 43 _ rfl _ 0 rfl _ _ S3.range underlying43 rfl (by rw[z0x];rfl) ?_
   refine wpList_store_mid rfl 43 _ _ rfl _ 0 (stC s (J1 A s.W.length C)) rfl rfl (Y.there 0 _ (by rw[z0q,z0f];omega)) (by rw[z0x];rfl) (z0y _ _ _ _) ?_
   go_wp2;exact z8W results128 Y rfl s _ _ ⟨A,C,rfl,z2N (z1c X.out fun k' z=>z0M (by have:=(World.ownsRow.lt X.out k' z).1;omega) _ _ _) (by omega),z0a (by omega) _ _ _ K.out⟩ _ rfl rfl
theorem q4F(s:St)(ao:Option Addr)(sb so c:Nat)(h:Int)(w:World)(L:z2k w ao sb so s.W)(Z:s.W.length * 64<=140737488351232) :
  Calls prog 128 #[J4 (stC s (J1 ao s.W.length c)),J I 1,J I h] w fun e w'=>∃ A C,e=.returned (J4 (stC s (J1 A s.W.length C)))/\z2d w.heap.size w' A C (z5f 1 h s.W)/\Bl w w':=by
 have y:=(SAt.new w (stC s (J1 ao s.W.length c))).alloc (J5 Z63 43);have RR:=SAt.new2 w (J5 (stC s (J1 ao s.W.length c)) 43) Z63;have B:Hid (Bl w ((w.alloc (J5 (stC s (J1 ao s.W.length c)) 43)).alloc (J5 Z63 43))):=(znw w _).alloc (by simp) _
 have HW:=J6 L;clear L
 go_enter func128,ntmps128
 go_upto_region 1 with fail
 change Code.wp prog _ _ _ ((w.alloc (J5 (stC s (J1 ao s.W.length c)) 43)).alloc (J5 Z63 43));generalize (w.alloc (J5 (stC s (J1 ao s.W.length c)) 43)).alloc (J5 Z63 43)=w0 at *;have a0:w.heap.size+1<w0.heap.size:=RR.lt;have M:w.heap.size<w0.heap.size:=by omega
 have f:=(z0r y).2.2.2.2.2.2.2.1;have N:=z2T ao s.W c sb so w0 (HW.out.over B.out)
 go_upto_region 4 with (go_at_call 38;refine N.mono ?_;rintro e w1⟨A,C,rfl,j,h1⟩;have l:=y.later h1 y.lt;have P:=RR.later h1 RR.lt;have m:=J6 (B.out.trans (h1.mono (by omega)));have d:=J6 j;have D:=l.free 61;have a1:=l.lt;clear f;have f:=(z0r l).2.2.2.2.2.2.2.1;clear h1 j)
 have n:=l.set 61 (J1 A s.W.length C);rw[q0u]at n;have a:=(But.refl w.heap.size w1).set 61 (J1 A s.W.length C);have Q:=a.z1g (by omega) P
 have o:Hid (z2d w0.heap.size (w1.setCell ⟨w.heap.size,61,none⟩ (J1 A s.W.length C)) A C s.W):=z1c d.out fun k z=>a.block _ (by have:=(World.ownsRow.lt d.out k z).1;omega)
 have p:=J6 (m.out.trans (a.below (Nat.le_refl _)));generalize w1.setCell ⟨w.heap.size,61,none⟩ (J1 A s.W.length C)=w2 at *;clear f D l P d m a y RR B N;have f:=(z0r n).2.2.2.2.2.2.2.1;have a2:w.heap.size<w2.heap.size:=n.lt;have q:Hid (RRl s (z6C 1 h) w0.heap.size w A C 0 w2):=⟨o.out,n,Q,p.out⟩;clear n Q o p
 go_upto_region 5 with fail
 go_loopw [23] (fun i wl=>∃ (k:Nat),k<=s.W.length/\i=J I (k:Int)/\Hid (RRl s (z6C 1 h) w0.heap.size w A C k wl)) (fun i _=>s.W.length - (intOf i).toNat)
 case atStart=>exact⟨0,Nat.zero_le _,rfl,q⟩
 case round =>
  obtain⟨k,z,rfl,b⟩:=hrel;clear q f;have a3:=b.out.S.lt
  by_cases E:k<s.W.length
  ·obtain⟨x,T,_⟩:=drop_at E;obtain⟨U,F,e3⟩:=z6K (z6C 1 h) T;obtain⟨g,rfl,a4,a5,r⟩:=b.out.own.holds (by omega)
   obtain⟨c6,c7,f6,f7⟩:=r k x F;have t:=b.out.own.cap;rw[e3]at t;have f:=(z0r b.out.S).2.2.2.2.2.2.2.1;have u:=J6 U;have v:=J6 F;clear r U F T
   by_cases V:x.h1<=h
   ·have G:Hid (z6C 1 h x={ x with h1:=0 }):=by show _=_;unfold z6C;simp[V]
    go_wp2;refine⟨⟨k+1,by omega,by go_num,?_⟩,by simp[intOf];omega⟩
    have a:=(But.refl g wr).set (k * 8+7) (J I 0);exact⟨by rw[u.out,G.out];exact b.out.own.put v.out _ 7 _ (by omega) rfl,a.z1g (by omega) b.out.S,a.z1g (by omega) b.out.R,b.out.below.trans (a.below (by omega))⟩
   ·have G:Hid (z6C 1 h x=x):=by show _=_;unfold z6C;simp[V]
    have H:Hid (RRl s (z6C 1 h) w0.heap.size w (some ⟨g,0,none⟩) C (k+1) wr):=⟨by rw[u.out,G.out,z5u v.out];exact b.out.own,b.out.S,b.out.R,b.out.below⟩
    go_wp2;exact⟨⟨k+1,by omega,by go_num,H⟩,by simp[intOf];omega⟩
  ·obtain rfl:k=s.W.length:=by omega
   have j:=b.out.own;rw[List.take_length,List.drop_length,List.append_nil]at j;have X:=J6 j;have S3:=b.out.S;have Y:=b.out.R;have K:=J6 b.out.below;clear j b
   go_upto_region 11 with fail
   apply wp_region_lit;refine wpList_load_mid rfl 43 _ rfl _ 0 rfl _ _ S3.range underlying43 rfl (by rw[z0x];rfl) ?_
   refine wpList_store_mid rfl 43 _ _ rfl _ 0 (stC s (J1 A s.W.length C)) rfl rfl (Y.there 0 _ (by rw[z0q,z0f];omega)) (by rw[z0x];rfl) (z0y _ _ _ _) ?_
   go_wp2;exact z8W results128 Y rfl s _ _ ⟨A,C,rfl,z2N (z1c X.out fun k' z=>z0M (by have:=(World.ownsRow.lt X.out k' z).1;omega) _ _ _) (by omega),z0a (by omega) _ _ _ K.out⟩ _ rfl rfl
end
namespace Kc
open Go.RowKit Pv
theorem z8r(l:List (Int×Int))(v:Value)(x:Int)(P:Nat->Prop)(w:World)(h:Rep P w v 2 16 (pwC l)):Calls prog 131 #[v,J I x] w fun e w'=>e=.returned (J I (z3Z x l))/\Bl w w':=by
 obtain⟨A,C,rfl,t,-,hc,-⟩:=h.open (z0c _) (by decide)
 have u:=J6 hc;have n:l.length<=8796093022202:=by omega
 obtain⟨G,j⟩:∃ G,z3Z x l=G:=⟨_,rfl⟩;have o:=J6 j;rw[j];clear hc h t j
 go_enter func131,ntmps131
 go_upto_region 2 with fail
 go_loopw [9] (fun i wl=>∃ (k:Nat),k<=l.length/\i=J I (k:Int)/\Hid (G=z3Z x (l.drop k)/\Bl w wl)) (fun i _=>l.length - (intOf i).toNat)
 case atStart=>exact⟨0,Nat.zero_le _,rfl,o.out.symm,Below.refl _ _⟩
 case round =>
  obtain⟨k,E,rfl,a⟩:=hrel
  by_cases c:k<l.length
  ·have z:(k:Int)<(l.length:Int):=by omega
   obtain⟨y,q,hd⟩:=z4u c;obtain⟨b,off,rfl,-,d,hcell⟩:=u.out (by omega)
   have r:l.getD k (0,0)=y:=by simp[List.getD,q]
   obtain⟨p0,p1⟩:=z1U l k c;rw[r]at p0 p1;have c0:wr.cell? ⟨b,off+k * 2,none⟩=some (J I y.1):=(a.out.2.cell (p:=⟨b,off+k * 2,none⟩) d).trans (hcell _ _ p0);have c1:wr.cell? ⟨b,off+k * 2+1,none⟩=some (J I y.2):=(a.out.2.cell (p:=⟨b,off+k * 2+1,none⟩) d).trans (hcell _ _ p1);have f:Hid (G=if y.1=x then y.2 else z3Z x (l.drop (k+1))):=by have:=a.out.1;rw[hd]at this;exact this
   have m:=J6 (a.out.2.alloc a.out.2.size (J5 #[J I y.1,J I y.2] 65));clear a hd q r p0 p1 hcell;obtain⟨s,B⟩:=y;dsimp only at c0 c1 f
   by_cases h1:s=x
   ·subst h1;have e:G=B:=by rw[f.out,if_pos rfl]
    subst e;clear f o;go_wp2;go_ret;exact⟨rfl,m.out⟩
   ·have e:G=z3Z x (l.drop (k+1)):=by rw[f.out,if_neg h1]
    have g:=J6 e;have D:(s == x)=false:=by simpa using h1
    clear f e;go_wp2
    first | exact⟨⟨k+1,by omega,by go_num,g.out,m.out⟩,by simp[intOf];omega⟩ | ((repeat apply Exists.intro);exact⟨⟨k+1,by omega,by go_num,g.out,m.out⟩,rfl⟩)
  ·obtain rfl:k=l.length:=by omega
   have e:G=0:=by have:=a.out.1;rw[List.drop_length]at this;exact this
   subst e;go_wp2;go_ret;exact⟨rfl,a.out.2⟩
theorem CAt.line{w:World}{g:Nat}{c:Cs}{v:CsV}(h:CAt 75 w g (csC c v))(x:Ln.Line)(u1 u2:Value):CAt 75 ((((w.setCell ⟨g,14,none⟩ u1).setCell ⟨g,15,none⟩ u2).setCell ⟨g,16,none⟩ (J I x.g)).setCell ⟨g,17,none⟩ (J3 x.cl)) g (csC { c with out:=x } { v with said:=u1,due:=u2 }):=(((h.set 14 u1).set 15 u2).set 16 (J I x.g)).set 17 (J3 x.cl)
theorem z0I{P:Nat->Prop}{w:World}{g:Nat}(a:¬ P g)(b:g<w.heap.size):¬ New P w 0 g:=fun h=>by
 rcases h with⟨h,_⟩ | h
 ·exact a h
 ·omega
def j2I(w:World)(g:Nat)(P:Nat->Prop)(a:Cs)(b:Value)(e:Ending)(w':World):Prop:=∃ v',e=.returned b/\CAt 75 w' g (csC a v')/\CIn (New P w 0) w' a v'/\Alt g w w'
theorem z9o(g:Nat)(c:Cs)(v:CsV)(k i x n now:Int)(P:Nat->Prop)(w:World)(h:CAt 75 w g (csC c v))(hp:CIn P w c v)(hg:¬ P g)(a0:0<=now)(a1:now<=1099511627776) :
  Calls prog 132 #[J2 (some ⟨g,0,none⟩),J4 #[J I k,J I i,J I x,J I n,J1 none 0 0,J1 none 0 0],J I now] w (j2I w g P (z2A c k i x n now).1 (J I (z2A c k i x n now).2)):=by
 have B:Hid (z2A c k i x n now=if Cd.z0s k i x n [] []=0 then ({ c with out:=Ln.z5K c.out (Cd.encS k i x n [] []) (now+40) },Ln.z6v c.out (now+40)) else (c,Cd.z0s k i x n [] [])):=rfl
 generalize z2A c k i x n now=D at *;have u:=J6 (fun (C:World)=>Cd.z5M k i x n [] [] none none 0 0 0 0 0 0 C ⟨by simp,by simp,by simp,by simp,fun i G=>absurd G (by simp),fun i G=>absurd G (by simp)⟩)
 generalize Cd.encS k i x n [] []=s at *;generalize Cd.z0s k i x n [] []=E at *;have W:=J6 hp;have H:=J6 h;have K:=J6 (fun (C:World) (hb:Bl w C)=>q6q c.out s (now+40) v.said v.due P C (hp.said.over hb) (hp.due.over hb));have L:=h.lt;clear hp h
 by_cases M:E=0
 ·subst M;have e:=B.out.trans (if_pos rfl);subst e;clear B
  go_enter func132,ntmps132
  go_upto_region 4 with (go_at_call 117;refine (u.out _).mono ?_;rintro e w1⟨rfl,f⟩)
  have a:Bl w w1:=(znw w _).trans (f.mono (by simp))
  obtain⟨-,-,⟨m,o,p,q⟩⟩:=z0G (H.out.over a);have d:=J6 a;clear f a;generalize (Ln.z5K c.out s (now+40))=L' at *;generalize (Ln.z6v c.out (now+40))=E' at *
  go_upto_region 5 with (go_at_call 118;refine (K.out _ d.out).mono ?_;rintro e t⟨u1,u2,rfl,r1,r2,r⟩;have l:=(H.out.over d.out).over r;have ⟨A1,n1,D1,D1',e1,_,_⟩:=id r1;have ⟨A2,n2,D2,D2',e2,_,_⟩:=id r2;subst e1 e2;clear m o p q;obtain⟨-,-,⟨m,o,p,q⟩⟩:=z0G l;have N:=l.free 14;have Q:=l.free 15;have R:=l.free 16;have T:=l.free 17)
  have y:Bl w t:=zbt d.out r;have X:g<t.heap.size:=l.lt;have Y:=CAt.line l L' (J1 A1 n1 D1) (J1 A2 n2 D2);have j:=z0I hg L
  have z:z0C (New P w 0) t (J1 A1 n1 D1) 1 16 (txC L'.S):=r1.mono fun b _ hb=>by
   rcases hb with⟨hb,hl⟩ | hb
   ·by_cases U:b<w.heap.size
    ·exact .inl ⟨hb,U⟩
    ·exact .inr (by omega)
   ·exact .inr (by have:=d.out.size;omega)
  have A:z0C (New P w 0) t (J1 A2 n2 D2) 1 8 (inC L'.D):=r2.mono fun b _ hb=>by
   rcases hb with⟨hb,hl⟩ | hb
   ·by_cases U:b<w.heap.size
    ·exact .inl ⟨hb,U⟩
    ·exact .inr (by omega)
   ·exact .inr (by have:=d.out.size;omega)
  have F:=W.out.z2y y 0;have Z:CIn (New P w 0) t { c with out:=L' } { v with said:=J1 A1 n1 D1,due:=J1 A2 n2 D2 }:=⟨F.set,F.pd,F.rp,z,A⟩
  have N4:=(((Z.set1 j 14 (J1 A1 n1 D1)).set1 j 15 (J1 A2 n2 D2)).set1 j 16 (J I L'.g)).set1 j 17 (J3 L'.cl);have AL:Alt g w ((((t.setCell ⟨g,14,none⟩ (J1 A1 n1 D1)).setCell ⟨g,15,none⟩ (J1 A2 n2 D2)).setCell ⟨g,16,none⟩ (J I L'.g)).setCell ⟨g,17,none⟩ (J3 L'.cl)):=((((Alt.of y).set 14 _).set 15 _).set 16 _).set 17 _;have V:=J6 (show _/\_/\_ from⟨Y,N4,AL⟩);clear Y N4 AL Z F z A r1 r2 l m o p q N Q R T r;go_wp2;go_ret;exact⟨_,rfl,V.out.1,V.out.2.1,V.out.2.2⟩
 ·have e:=B.out.trans (if_neg M);subst e;have a2:(E != 0)=true:=by simpa using M
  clear B
  go_enter func132,ntmps132
  go_wp2_with (go_at_call 117;refine (u.out _).mono ?_;rintro e w1⟨rfl,f⟩)
  go_ret;have a:Bl w w1:=(znw w _).trans (f.mono (by simp))
  exact⟨v,rfl,H.out.over a,W.out.z2y a 0,Alt.of a⟩
attribute [local go_sem ↓] z1r z1j
theorem q9C(l:List (Int×Int))(id now:Int)(u:Value):csC (z2G l id now) ⟨u,J1 none 0 0,J1 none 0 0,J1 none 0 0,J1 none 0 0⟩=#[J3 true,J3 false,J I 0,J I now,J I id,u,J1 none 0 0,J1 none 0 0,J3 false,J3 false,J3 false,J3 false,J3 false,J3 false,J1 none 0 0,J1 none 0 0,J I 0,J3 false,J I 0,J I 0,J I 0,J I 0]:=rfl
theorem q5E(l:List (Int×Int))(v:Value)(id now:Int)(P:Nat->Prop)(w:World)(h:Rep P w v 2 16 (pwC l)) :
  Calls prog 60 #[v,J I id,J I now] w (j5a P w (z2G l id now) 1):=by
 have m:=J6 (fun (t:World) (hb:Bl w t)=>z6m l v P t (h.over hb));clear h
 go_enter func60,ntmps60
 go_upto_region 1 with fail
 change Code.wp prog _ _ _ (w.alloc (J5 Z22 75));have R0:CAt 75 (w.alloc (J5 Z22 75)) w.heap.size Z22:=CAt.new _ w _;have B0:Bl w (w.alloc (J5 Z22 75)):=znw w _;have d:(w.alloc (J5 Z22 75)).heap.size=w.heap.size+1:=by simp
 generalize w.alloc (J5 Z22 75)=w0 at *;have f:¬ New P w 1 w.heap.size:=by have:=z3F (P:=P) (w:=w) (k:=1) (j:=0) (by omega);simpa using this
 have g:=J6 (show _/\_/\_/\_ from⟨R0,B0,d,f⟩);clear R0 B0 d f
 go_wp2_with (go_at_call 39;go_loud (refine (m.out _ g.out.2.1).mono ?_;rintro e w1⟨u,rfl,hu,a⟩;have n:=hu;obtain⟨o,p,q,y,_⟩:=n;subst y;have r:=g.out.1.over a;have x:=zbt g.out.2.1 a;have i:Rep (New P w 1) w1 (J1 o p q) 2 16 (pwC l):=hu.mono (fun b _ hb=>.inr (by have:=g.out.2.2.1;omega));have c:CIn (New P w 1) w1 (z2G l id now) ⟨J1 o p q,J1 none 0 0,J1 none 0 0,J1 none 0 0,J1 none 0 0⟩:=⟨i,z6S.nil _ _,Rep.nil _ _ _ _,z0C.nil _ _ _ _,z0C.nil _ _ _ _⟩;have z:=z1C r z0p (z0i (z2G l id now) ⟨J1 o p q,J1 none 0 0,J1 none 0 0,J1 none 0 0,J1 none 0 0⟩) (z1E c);rw[q9C]at z;have s:=J6 (show _/\_/\_ from⟨r,x,c⟩);clear r x c hu i a))
 exact q2h results60 s.out.1 z0p s.out.2.1 (Nat.le_refl _) (z2G l id now) _ g.out.2.2.2 s.out.2.2 _ rfl rfl
theorem z7r(c:Cs)(v:CsV)(P:Nat->Prop)(w:World)(hp:CIn P w c v) :
  Calls prog 91 #[J4 (csC c v)] w (j5a P w (z1S c) 2):=by
 have h:Hid (z1S c=if c.on=true then { c with on:=false,gone:=true,out:={ c.out with cl:=true } } else c):=rfl
 generalize z1S c=D at *;have r:=J6 (fun (s:World) (hb:Bl w s)=>hp.z2y hb 2);have a:=z1E hp;clear hp
 go_enter func91,ntmps91
 go_upto_region 1 with fail
 change Code.wp prog _ _ _ ((w.alloc (J5 (csC c v) 75)).alloc (J5 Z22 75));have C0:CAt 75 ((w.alloc (J5 (csC c v) 75)).alloc (J5 Z22 75)) w.heap.size (csC c v):=(CAt.new _ w _).alloc _;have R0:CAt 75 ((w.alloc (J5 (csC c v) 75)).alloc (J5 Z22 75)) (w.heap.size+1) Z22:=CAt.new2 _ w _ _;have B0:Bl w ((w.alloc (J5 (csC c v) 75)).alloc (J5 Z22 75)):=(znw w _).alloc (by simp) _
 generalize (w.alloc (J5 (csC c v) 75)).alloc (J5 Z22 75)=w0 at *;obtain⟨⟨i,t,-,-,-⟩,-,⟨-,-,-,j⟩⟩:=z0G C0;have f0:=C0.free 0;have f1:=C0.free 1;have k:=C0.free 17;cases d:c.on
 ·have e:D=c:=by rw[h.out,d];simp
  subst e;rw[d]at i;have y:=z2p C0 (z0i _ _);have z:=z1C R0 z0p (z0i D v) a;have f:=J6 (show _/\_ from⟨R0,B0⟩);clear C0 R0 B0 a;go_wp2;exact q2h results91 f.out.1 z0p f.out.2 (Nat.le_succ _) D v (z3F (by omega)) (r.out _ f.out.2) _ rfl rfl
 ·have e:D={ c with on:=false,gone:=true,out:={ c.out with cl:=true } }:=by rw[h.out,if_pos d]
  rw[d]at i;have l:=((C0.set 0 (J3 false)).set 1 (J3 true)).set 17 (J3 true);rw[j7c,j1U,j6q]at l;have m:=((R0.other (c:=w.heap.size) (o:=0) (by omega) (J3 false)).other (c:=w.heap.size) (o:=1) (by omega) (J3 true)).other (c:=w.heap.size) (o:=17) (by omega) (J3 true)
  have n:=((B0.setCell (p:=⟨w.heap.size,0,none⟩) (Nat.le_refl _) (J3 false)).setCell (p:=⟨w.heap.size,1,none⟩) (Nat.le_refl _) (J3 true)).setCell (p:=⟨w.heap.size,17,none⟩) (Nat.le_refl _) (J3 true);have g:=r.out _ n;have q:CIn (New P w 2) (((w0.setCell ⟨w.heap.size,0,none⟩ (J3 false)).setCell ⟨w.heap.size,1,none⟩ (J3 true)).setCell ⟨w.heap.size,17,none⟩ (J3 true)) { c with on:=false,gone:=true,out:={ c.out with cl:=true } } v:=⟨g.set,g.pd,g.rp,g.said,g.due⟩
  have b:=z1E q;have u:=z2p l (z0i _ _);have x:=z1C m z0p (z0i { c with on:=false,gone:=true,out:={ c.out with cl:=true } } v) b
  have f:=J6 (show _/\_/\_ from⟨m,n,q⟩);rw[<- e]at f u x;clear e h;clear C0 R0 B0 l m n g q a b
  go_upto_region 5 with fail
  clear i t j f0 f1 k;generalize ((w0.setCell ⟨w.heap.size,0,none⟩ (J3 false)).setCell ⟨w.heap.size,1,none⟩ (J3 true)).setCell ⟨w.heap.size,17,none⟩ (J3 true)=w3 at *;go_wp2;exact q2h results91 f.out.1 z0p f.out.2.1 (Nat.le_succ _) D v (z3F (by omega)) f.out.2.2 _ rfl rfl
end Kc
namespace Kc
open Go.RowKit Pv
theorem q6J{last:Int}:∀ {l:List (Int×Int)} {v:Int},z3l last l=true->z3Z v l≠0->last<v/\v<=5/\1<=z3Z v l/\z3Z v l<=1125899906842624
 | [],v,_,h=>absurd rfl h
 | x :: l,v,hs,h=>by
  have h2:z7Y last x=true/\z3l x.1 l=true:=by
   have:(z7Y last x && z3l x.1 l)=true:=hs
   simpa using this
  have h3:last<x.1/\x.1<=5/\1<=x.2/\x.2<=1125899906842624:=by
   have:=h2.1;unfold z7Y at this;simp only[Bool.and_eq_true,decide_eq_true_eq]at this;exact⟨this.1.1.1,this.1.1.2,this.1.2,this.2⟩
  have e:z3Z v (x :: l)=if x.1=v then x.2 else z3Z v l:=rfl;rw[e]at h ⊢
  by_cases a:x.1=v
  ·rw[if_pos a];subst a;exact h3
  ·rw[if_neg a]at h ⊢;have:=q6J h2.2 h;exact⟨by omega,this.2⟩
theorem q2Y{c:Cs}(h:z5t c=0):z7U c=true/\c.on=true:=by
 unfold z5t at h
 by_cases a:z7U c=true
 ·rw[if_pos a]at h
  by_cases b:c.on=true
  ·exact⟨a,b⟩
  ·rw[if_neg b]at h;exact absurd h (by decide)
 ·rw[if_neg a]at h;exact absurd h (by decide)
theorem z4z{c:Cs}(h:z7U c=true):((c.on && c.gone)=false/\0<=c.h/\c.h<1099511627776)/\(0<=c.t/\c.t<=1099511627776)/\(0<=c.id/\c.id<=1099511627776)/\z3l (-1) c.set=true/\c.pd.all z5C=true/\c.rp.all z7L=true/\Ln.z0Z c.out=true:=by
 unfold z7U isT at h;simp only[Bool.and_eq_true,decide_eq_true_eq,Bool.not_eq_true']at h;obtain⟨⟨⟨⟨⟨h1,h2⟩,h3⟩,a⟩,b⟩,⟨⟨⟨d,e⟩,f⟩,g⟩⟩:=h;exact⟨⟨h1,h2,h3⟩,a,b,d,e,f,g⟩
theorem q7n{n:Int}(h:isT n=true):0<=n/\n<=1099511627776:=by
 unfold isT at h
 simpa using h
structure q1s(P:Nat->Prop)(w w0:World)(c:Cs)(v:CsV):Prop where
 C0:CAt 75 w0 w.heap.size (csC c v)
 R0:CAt 75 w0 (w.heap.size+1) Z22
 B0:Bl w w0
 I0:CIn P w0 c v
 N0:CIn (New P w 2) w0 c v
 no:¬ P w.heap.size∨True
theorem j7q{P:Nat->Prop}{w:World}{c:Cs}{v:CsV}(hp:CIn P w c v):q1s P w ((w.alloc (J5 (csC c v) 75)).alloc (J5 Z22 75)) c v:=by
 have hb:Bl w ((w.alloc (J5 (csC c v) 75)).alloc (J5 Z22 75)):=(znw w _).alloc (by simp) _
 exact⟨(CAt.new _ w _).alloc _,CAt.new2 _ w _ _,hb,hp.over hb,hp.z2y hb 2,.inr trivial⟩
theorem q1s.over{P:Nat->Prop}{w w0 w1:World}{c:Cs}{v:CsV}(h:q1s P w w0 c v)(hb:Bl w0 w1):q1s P w w1 c v:=
 ⟨h.C0.over hb,h.R0.over hb,zbt h.B0 hb,h.I0.over hb,h.N0.over hb,.inr trivial⟩
theorem q1s.z0D{f:Func}{t q:Tmp}(a:f.results=#[.cell t 75,.tmp q]){P:Nat->Prop}{w w0:World}{c:Cs}{v:CsV}(h:q1s P w w0 c v)(b:Int)(r:Cs×Int)(d:r=(c,b))(act:Act)
  (e:act.tmps.getD t undef=J2 (some ⟨w.heap.size+1,0,none⟩)) (g:act.tmps.getD q undef=J I b) (hd:act.defers=[]) :
  bodyPost prog f (j5u P w r) Exit.ret act (w0.setCells (w.heap.size+1) 0 (csC c v).toList):=z5L a h.R0 z0p h.B0 c v b r d h.N0 act e g hd
theorem q1s.facts{P:Nat->Prop}{w w0:World}{c:Cs}{v:CsV}(h:q1s P w w0 c v):(z5b (J2 (some ⟨w.heap.size,0,none⟩))).run prog w0=.ok (J4 (csC c v)) w0/\(q2S (J2 (some ⟨w.heap.size+1,0,none⟩)) (J4 (csC c v))).run prog w0=.ok () (w0.setCells (w.heap.size+1) 0 (csC c v).toList):=
 ⟨z2p h.C0 (z0i _ _),z1C h.R0 z0p (z0i c v) (z1E h.I0)⟩
theorem z6o(P:Nat->Prop)(w:World):¬ New P w 2 w.heap.size:=by
 have:=z3F (P:=P) (w:=w) (k:=2) (j:=0) (by omega)
 simpa using this
theorem z7J{P:Nat->Prop}{w w0:World}(a:w.heap.size+2<=w0.heap.size){b:Nat}(h:New (New P w 2) w0 0 b):New P w 2 b:=by
 rcases h with⟨h,_⟩ | h
 ·exact h
 ·exact .inr (by omega)
attribute [local go_sem ↓] z1r z1j
theorem q9c(c:Cs)(v:CsV)(P:Nat->Prop)(w:World)(x now:Int)(hp:CIn P w c v) :
  Calls prog 92 #[J4 (csC c v),J I x,J I now] w (j5u P w (z4T c x now)):=by
 have hD:z4T c x now=if isT now=true then (if z5t c=0 then (if z3Z x c.set=0 then (c,4) else if c.fl x.toNat=true then (c,5) else if (z2A c 3 c.id x (z3Z x c.set) now).2=0 then ({ (z2A c 3 c.id x (z3Z x c.set) now).1 with fl:=j4Q c.fl x.toNat true },0) else (c,(z2A c 3 c.id x (z3Z x c.set) now).2)) else (c,z5t c)) else (c,2):=rfl
 have B:(z2A c 3 c.id x (z3Z x c.set) now).2≠0->(z2A c 3 c.id x (z3Z x c.set) now).1=c:=by
  unfold z2A
  split
  ·intro h;dsimp only at h ⊢;unfold Ln.z5K;rw[if_neg h]
  ·intro _;rfl
 have C:=J6 B;have E:Hid ((z2A c 3 c.id x (z3Z x c.set) now).1.fl=c.fl):=by unfold z2A;split <;> rfl
 have z:=J6 (j7q hp);have j:=J6 (fun (q:World) (h:q1s P w q c v)=>z4J w.heap.size c v now P q h.C0 h.I0);have S:=J6 (fun (q:World) (h:q1s P w q c v)=>z8r c.set v.set x P q h.I0.set);have F:=J6 (fun (q:World) (h:q1s P w q c v) (h0:0<=now) (h1:now<=1099511627776)=>z9o w.heap.size c v 3 c.id x (z3Z x c.set) now (New P w 2) q h.C0 h.N0 (z6o P w) h0 h1);have G:=J6 hD;clear hp hD B;generalize z4T c x now=D at *;generalize U:z2A c 3 c.id x (z3Z x c.set) now=SS at *;clear U;obtain⟨c2,V⟩:=SS;dsimp only at C E F G
 have r:Hid (z5t c=0->z3Z x c.set≠0->-1<x/\x<=5):=fun h1 h2=>by
  have:=q6J (z4z (q2Y h1).1).2.2.2.1 h2;exact⟨this.1,this.2.1⟩
 generalize z3Z x c.set=pw at *;generalize z5t c=RC at *;have W:=J6 (fun h=>q7n (n:=now) h)
 go_enter func92,ntmps92
 go_upto_region 1 with fail
 change Code.wp prog _ _ _ ((w.alloc (J5 (csC c v) 75)).alloc (J5 Z22 75));generalize (w.alloc (J5 (csC c v) 75)).alloc (J5 Z22 75)=w0 at *;generalize isT now=T at *;cases T
 ·have a:=J6 (G.out.trans (if_neg (by simp)))
  clear G;rw[show (if false=true then RC else 2)=(2:Int) from rfl]at j
  go_upto_region 3 with (go_at_call 130;refine (j.out _ z.out).mono ?_;rintro e w1⟨rfl,g⟩;have f:=J6 (z.out.over g);clear g;obtain⟨X,Y⟩:=f.out.facts)
  go_wp2;exact f.out.z0D results92 _ _ a.out _ rfl rfl rfl
 have a:=J6 (G.out.trans (if_pos rfl));clear G;obtain⟨Z,a0⟩:=W.out rfl;rw[show (if true=true then RC else 2)=RC from rfl]at j
 by_cases s:RC=0
 ·subst s;replace a:=J6 (a.out.trans (if_pos rfl));replace r:=J6 (r.out rfl)
  go_upto_region 4 with (go_at_call 130;refine (j.out _ z.out).mono ?_;rintro e w1⟨rfl,g⟩;have f:=J6 (z.out.over g);clear g)
  have a5:=(z0G f.out.C0).2.1.1
  go_upto_region 5 with (go_at_call 131;refine (S.out _ f.out).mono ?_;rintro e w2⟨rfl,H⟩;have d:=J6 (f.out.over H);clear H a5)
  by_cases k:pw=0
  ·subst k;replace a:=J6 (a.out.trans (if_pos rfl));obtain⟨X,Y⟩:=d.out.facts;go_wp2;exact d.out.z0D results92 _ _ a.out _ rfl rfl rfl
  ·replace a:=J6 (a.out.trans (if_neg k));have a1:(pw == 0)=false:=by simpa using k
   obtain⟨a6,a7⟩:=r.out k;obtain⟨y,rfl⟩:∃ y:Nat,x=(y:Int):=⟨x.toNat,by omega⟩
   have t:y<6:=by omega
   have a8:(y:Int)<6:=by omega
   rw[Int.toNat_natCast]at a;have K:w2.cell? ⟨w.heap.size,8+y,none⟩=some (J3 (c.fl y)):=(d.out.C0.cell _).trans (q8e c v t);cases l:c.fl y
   ·rw[l]at K;replace a:=J6 (a.out.trans (if_neg (by rw[l];simp)))
    have a4:=(z0G d.out.C0).1.2.2.2.2
    go_upto_region 10 with (go_at_call 132;refine (F.out _ d.out Z a0).mono ?_;rintro e L⟨v3,rfl,A,I3,Q⟩;clear a4 K)
    have M:=Q.cat (by omega) d.out.R0
    have R:Bl w L:=d.out.B0.trans (Q.below (Nat.le_refl _) (by have:=d.out.B0.size;omega))
    have N:CIn (New P w 2) L c2 v3:=I3.mono fun b _ h=>z7J (by have:=d.out.R0.lt;omega) h
    by_cases m:V=0
    ·subst m;replace a:=J6 (a.out.trans (if_pos rfl));have fF:=A.free (8+y);have K:L.cell? ⟨w.heap.size,8+y,none⟩=some (J3 (c2.fl y)):=(A.cell _).trans (q8e c2 v3 t);have C4:=A.set (8+y) (J3 true);rw[j2o c2 v3 t,E.out]at C4;have R4:=M.other (c:=w.heap.size) (o:=8+y) (by omega) (J3 true)
     have B4:=R.setCell (p:=⟨w.heap.size,8+y,none⟩) (Nat.le_refl _) (J3 true);have i:=N.set1 (z6o P w) (8+y) (J3 true);have N4:CIn (New P w 2) (L.setCell ⟨w.heap.size,8+y,none⟩ (J3 true)) { c2 with fl:=j4Q c.fl y true } v3:=⟨i.set,i.pd,i.rp,i.said,i.due⟩
     have l4:=z2p C4 (z0i _ _);have s4:=z1C R4 z0p (z0i { c2 with fl:=j4Q c.fl y true } v3) (z1E N4)
     have u:=J6 (show _/\_/\_ from⟨R4,B4,N4⟩);clear C4 R4 B4 N4 i A M R N I3 Q
     go_upto_region 13 with fail
     clear K fF;generalize L.setCell ⟨w.heap.size,8+y,none⟩ (J3 true)=w4 at *;go_wp2;exact z5L results92 u.out.1 z0p u.out.2.1 _ _ 0 D a.out u.out.2.2 _ rfl rfl rfl
    ·replace a:=J6 (a.out.trans (if_neg m));have a2:(V != 0)=true:=by simpa using m
     have e2:=C.out m;subst e2;have l4:=z2p A (z0i _ _);have s4:=z1C M z0p (z0i c2 v3) (z1E N);have u:=J6 (show _/\_/\_ from⟨M,R,N⟩);clear A M R N I3 Q;go_wp2;exact z5L results92 u.out.1 z0p u.out.2.1 _ _ V D a.out u.out.2.2 _ rfl rfl rfl
   ·rw[l]at K;replace a:=J6 (a.out.trans (if_pos (by rw[l])))
    obtain⟨X,Y⟩:=d.out.facts;go_wp2;exact d.out.z0D results92 _ _ a.out _ rfl rfl rfl
 ·replace a:=J6 (a.out.trans (if_neg s));have a3:(RC != 0)=true:=by simpa using s
  go_upto_region 3 with (go_at_call 130;refine (j.out _ z.out).mono ?_;rintro e w1⟨rfl,g⟩;have f:=J6 (z.out.over g);clear g;obtain⟨X,Y⟩:=f.out.facts)
  go_wp2;exact f.out.z0D results92 _ _ a.out _ rfl rfl rfl
theorem q2t(c:Cs)(v:CsV)(P:Nat->Prop)(w:World)(x id now:Int)(hp:CIn P w c v) :
  Calls prog 93 #[J4 (csC c v),J I x,J I id,J I now] w (j5u P w (z2f c x id now)):=by
 have N:z2f c x id now=if isT now=true then (if z5t c=0 then (if isV x=true then (if 1<=id/\id<=c.id then z2A c 4 id x (j6V (z3Z x c.set)) now else (c,2)) else (c,4)) else (c,z5t c)) else (c,2):=rfl;have p:Hid (j6V (z3Z x c.set)=if z3Z x c.set<1 then 1 else z3Z x c.set):=rfl;have k:=J6 (j7q hp);have g:=J6 (fun (i:World) (h:q1s P w i c v)=>z4J w.heap.size c v now P i h.C0 h.I0);have z:=J6 (fun (i:World) (h:q1s P w i c v)=>z8r c.set v.set x P i h.I0.set);have q:=J6 (fun (i:World) (h:q1s P w i c v) (h0:0<=now) (h1:now<=1099511627776)=>z9o w.heap.size c v 4 id x (j6V (z3Z x c.set)) now (New P w 2) i h.C0 h.N0 (z6o P w) h0 h1);have r:=J6 (fun (i:World)=>z9y x i);have s:=J6 N;clear hp N;generalize z2f c x id now=D at *;generalize z3Z x c.set=pw at *;generalize j6V pw=mo at *;generalize A:z2A c 4 id x mo now=SS at *;clear A;obtain⟨c2,Y⟩:=SS;dsimp only at q s;generalize z5t c=RC at *;have B:=J6 (fun h=>q7n (n:=now) h)
 go_enter func93,ntmps93
 go_upto_region 1 with fail
 change Code.wp prog _ _ _ ((w.alloc (J5 (csC c v) 75)).alloc (J5 Z22 75));generalize (w.alloc (J5 (csC c v) 75)).alloc (J5 Z22 75)=w0 at *;generalize isT now=T at *;generalize isV x=V at *;cases T
 ·have f:=J6 (s.out.trans (if_neg (by simp)))
  clear s;rw[show (if false=true then RC else 2)=(2:Int) from rfl]at g
  go_upto_region 3 with (go_at_call 130;refine (g.out _ k.out).mono ?_;rintro e w1⟨rfl,d⟩;have a:=J6 (k.out.over d);clear d;obtain⟨u,y⟩:=a.out.facts)
  go_wp2;exact a.out.z0D results93 _ _ f.out _ rfl rfl rfl
 have f:=J6 (s.out.trans (if_pos rfl));clear s;obtain⟨C,E⟩:=B.out rfl;rw[show (if true=true then RC else 2)=RC from rfl]at g
 by_cases l:RC=0
 ·subst l;replace f:=J6 (f.out.trans (if_pos rfl));cases V
  ·replace f:=J6 (f.out.trans (if_neg (by simp)))
   go_upto_region 5 with (first
    | (go_at_call 130;refine (g.out _ k.out).mono ?_;rintro e w1⟨rfl,d⟩;have a:=J6 (k.out.over d);clear d)
    | (go_at_call 133;refine (r.out _).mono ?_;rintro e w'⟨rfl,rfl⟩))
   obtain⟨u,y⟩:=a.out.facts;go_wp2;exact a.out.z0D results93 _ _ f.out _ rfl rfl rfl
  ·replace f:=J6 (f.out.trans (if_pos rfl))
   go_upto_region 6 with (first
    | (go_at_call 130;refine (g.out _ k.out).mono ?_;rintro e w1⟨rfl,d⟩;have a:=J6 (k.out.over d);clear d)
    | (go_at_call 133;refine (r.out _).mono ?_;rintro e w'⟨rfl,rfl⟩))
   have Z:=(z0G a.out.C0).1.2.2.2.2;have a5:=(z0G a.out.C0).2.1.1;generalize c.id=cid at *;have F:id<1∨(1<=id/\cid<id)∨(1<=id/\id<=cid):=by omega
   rcases F with h1 | ⟨h1,h2⟩ | ⟨h1,h2⟩
   ·replace f:=J6 (f.out.trans (if_neg (by omega)))
    obtain⟨u,y⟩:=a.out.facts;go_wp2;exact a.out.z0D results93 _ _ f.out _ rfl rfl rfl
   ·replace f:=J6 (f.out.trans (if_neg (by omega)))
    obtain⟨u,y⟩:=a.out.facts;go_wp2;exact a.out.z0D results93 _ _ f.out _ rfl rfl rfl
   ·replace f:=J6 (f.out.trans (if_pos ⟨h1,h2⟩))
    have G:(pw<1/\mo=1)∨(1<=pw/\mo=pw):=by
     rw[p.out]
     by_cases h:pw<1
     ·exact .inl ⟨h,if_pos h⟩
     ·exact .inr ⟨by omega,if_neg h⟩
    clear p
    rcases G with⟨hp1,rfl⟩ | ⟨hp1,rfl⟩
    all_goals
     go_upto_region 9 with (go_at_call 131;refine (z.out _ a.out).mono ?_;rintro e Q⟨rfl,t⟩;have j:=J6 (a.out.over t);clear t a5 Z)
     go_upto_region 10 with (go_at_call 132;refine (q.out _ (j.out.over (by exact znw Q _)) C E).mono ?_;rintro e R⟨v3,rfl,S,U,H⟩)
     have m:=fun o=>j.out.over (znw Q o);have K:=H.cat (by omega) (m _).R0
     have W:Bl w R:=(m _).B0.trans (H.below (Nat.le_refl _) (by have:=j.out.B0.size;simp;omega))
     have L:CIn (New P w 2) R c2 v3:=U.mono fun b _ h=>z7J (by have:=j.out.R0.lt;simp;omega) h
     have l4:=z2p S (z0i _ _);have s4:=z1C K z0p (z0i c2 v3) (z1E L);have M:=J6 (show _/\_/\_ from⟨K,W,L⟩);clear S K W L U H m;go_wp2;exact z5L results93 M.out.1 z0p M.out.2.1 _ _ Y D f.out M.out.2.2 _ rfl rfl rfl
 ·replace f:=J6 (f.out.trans (if_neg l));have X:(RC != 0)=true:=by simpa using l
  go_upto_region 3 with (go_at_call 130;refine (g.out _ k.out).mono ?_;rintro e w1⟨rfl,d⟩;have a:=J6 (k.out.over d);clear d;obtain⟨u,y⟩:=a.out.facts)
  go_wp2;exact a.out.z0D results93 _ _ f.out _ rfl rfl rfl
end Kc
namespace Kc
open Go.RowKit Pv
theorem z4B:∀ (l:List (Int×Int)) (last:Int),-1<=last->last<=5->Cd.z0e last l=true->(l.length:Int)<=5 - last
 | [],last,_,h,_=>by simp;omega
 | x :: l,last,h0,h1,h=>by
  unfold Cd.z0e Cd.isV at h;simp only[Bool.and_eq_true,decide_eq_true_eq]at h;have:=z4B l x.1 (by omega) (by omega) h.2
  simp only[List.length_cons];omega
theorem z5A:∀ (l:List Int) (last:Int),-1<=last->last<=5->Cd.z0l last l=true->(l.length:Int)<=5 - last
 | [],last,_,h,_=>by simp;omega
 | x :: l,last,h0,h1,h=>by
  unfold Cd.z0l Cd.isV at h;simp only[Bool.and_eq_true,decide_eq_true_eq]at h;have:=z5A l x (by omega) (by omega) h.2
  simp only[List.length_cons];omega
theorem z5Y{k i v n:Int}{S:List (Int×Int)}{D:List Int}(h:Cd.z0s k i v n S D=0):Cd.z0e (-1) S=true/\Cd.z0l (-1) D=true:=by
 unfold Cd.z0s at h
 by_cases h1:k<1∨4<k
 ·rw[if_pos h1]at h;exact absurd h (by decide)
 rw[if_neg h1]at h
 by_cases h2:i<1∨1099511627776<i
 ·rw[if_pos h2]at h;exact absurd h (by decide)
 rw[if_neg h2]at h
 by_cases h3:Cd.z6E k=true/\(Cd.isV v=false∨n<1∨1125899906842624<n)
 ·rw[if_pos h3]at h;exact absurd h (by decide)
 rw[if_neg h3]at h
 by_cases d:Cd.z9h k v n S.length D.length=true
 ·rw[if_pos d]at h;exact absurd h (by decide)
 rw[if_neg d]at h
 by_cases c:Cd.z0e (-1) S=false∨Cd.z0l (-1) D=false
 ·rw[if_pos c]at h;exact absurd h (by decide)
 ·cases a:Cd.z0e (-1) S
  ·exact absurd (.inl a) c
  ·cases b:Cd.z0l (-1) D
   ·exact absurd (.inr b) c
   ·exact⟨rfl,rfl⟩
theorem q7o{k i v n:Int}{S:List (Int×Int)}{D:List Int}(h:Cd.z0s k i v n S D=0):S.length<=6/\D.length<=6:=by
 have h1:=z4B S (-1) (by omega) (by omega) (z5Y h).1
 have h2:=z5A D (-1) (by omega) (by omega) (z5Y h).2
 omega
theorem j1l{w:World}{B:Nat}{S:List (Int×Int)}{D:List Int}{sa da:Option Addr}{cs cd sb so db dO:Nat}(L:Cd.q5V w S D sa da sb so db dO)(r1:Cd.Rm B sa S.length cs sb)(r2:Cd.Rm B da D.length cd db)(f:S.length<=6)(g:D.length<=6) :
  Rep (fun b=>B<=b) w (J1 sa S.length cs) 2 16 (pwC S)/\Rep (fun b=>B<=b) w (J1 da D.length cd) 1 8 (inC D):=by
 refine⟨⟨sa,S.length,cs,rfl,z0c _,by omega,⟨r1.1,r1.2.1⟩,fun h0=>⟨sb,so,L.hsa h0,r1.2.2 h0,World.block_lt_of_cell? w _ (L.PS 0 h0).1,fun j u hu=>?_⟩⟩,⟨da,D.length,cd,rfl,z0h _,by omega,⟨r2.1,r2.2.1⟩,fun h0=>⟨db,dO,L.hda h0,r2.2.2 h0,World.block_lt_of_cell? w _ (L.PD 0 h0),fun j u hu=>?_⟩⟩⟩
 ·have a:j<S.length * 2:=by have:=(List.getElem?_eq_some_iff.1 hu).1;rwa [z0c]at this
  have d:j / 2<S.length:=by omega
  have hp:=L.PS (j / 2) d;have c:=z1U S (j / 2) d
  rcases (show j % 2=0∨j % 2=1 by omega) with h | h
  ·have e:j / 2 * 2=j:=by omega
   rw[e]at c hp;rw[hp.1,<- c.1,hu]
  ·have e:j / 2 * 2+1=j:=by omega
   have h2:=hp.2;rw[Nat.add_assoc,e]at h2;rw[h2,<- c.2,e,hu]
 ·have a:j<D.length:=by have:=(List.getElem?_eq_some_iff.1 hu).1;rw[z0h]at this;omega
  rw[L.PD j a,<- hu,z3J _ j a]
theorem q7j(ao:Option Addr)(n c:Nat)(a:n<=c)(h0:ao=none->n=0)(hc:(n:Int)<4611686018427387904)(w:World):Calls prog 163 #[J1 ao n c] w fun e w'=>e=.returned (J1 ao n n)/\w=w':=by
 have h1:(n:Int)<=(c:Int):=by omega
 have h2:(0:Int)<=(n:Int):=by omega
 go_enter func163,ntmps163
 cases ao
 ·obtain rfl:=h0 rfl;go_wp2;go_ret;exact⟨rfl,rfl⟩
 ·clear h0;go_wp2;go_ret;exact⟨rfl,rfl⟩
theorem j5D:(prog.info? 68).map (fun i=>(i.zero,i.size,i.bytes))=some (some (J4 #[J I 0,J I 0,J I 0,J I 0,J1 none 0 0,J1 none 0 0]),6,80):=by kernel_rfl
theorem j0g{P:Nat->Prop}{ops:Array Oper}{o:Oper}{a:Act}{w:World}{K:Act->World->Prop}{Q:Exit->Act->World->Prop}{E:Prop}(m:o.guard=none)(e:o.type=71)(p q:Operand)
  (f:o.op=Op.call { callee:=Callee.builtin Builtin.append,args:=#[p,q],argTypes:=#[71,71] }) (A:Option Addr) (n y bt:Nat) (cs b:List Value) (r:a.eval p=J1 A n n) (s:a.eval q=J1 (some ⟨y,0,none⟩) 1 1)
  (h:Rep P w (J1 A n n) 6 bt cs) (hb:n * 80<=140737488351232) (t:b.length=6) (x:∀ j v,b[j]?=some v->w.cell? ⟨y,j,none⟩=some v)
  (z:∀ g C w',g=w.heap.size->n+1<=C->(∀ j u,(cs ++ b)[j]?=some u->w'.cell? ⟨g,j,none⟩=some u)->Bl w w'->g<w'.heap.size->K (a.put o.dst (J1 (some ⟨g,0,none⟩) (n+1) C)) w') :
  if Region.wanted o (yielded ops a.tmps)=true then Oper.wp prog o a w K Q else E:=by
 obtain⟨i0,B,i,d,c⟩:=info_parts j5D;have D:Region.wanted o (yielded ops a.tmps)=true:=by simp[Region.wanted,m]
 rw[if_pos D];unfold Oper.wp;obtain⟨C,w',h,F,k,G,l⟩:=apR 71 68 i0 _ underlying71 B i w A n y bt cs b (by rw[d];exact h) (by rw[c];exact hb) (by rw[c];omega) (by rw[c];omega) (by rw[d];exact t) x
 simp[execOp,f,resolve,invoke,builtin,r,s,e,h,Result.andThen]
 exact z _ _ _ rfl F k G l
theorem z6S.app{P P':Nat->Prop}{w w':World}{q:List Pkt}{z:List (Value×Value)}{x:Pkt}{y:Value×Value}(e:z.length=q.length)(n:∀ (i:Nat) (x:Pkt) (y:Value×Value),q[i]?=some x->z[i]?=some y->Rep P w y.1 2 16 (pwC x.S)/\Rep P w y.2 1 8 (inC x.D))(k:∀ b,b<w.heap.size->P b->P' b)(hb:Bl w w')(o:Rep P' w' y.1 2 16 (pwC x.S)/\Rep P' w' y.2 1 8 (inC x.D))(l:q.length * 80<=140737488351232){g C:Nat}(p:q.length+1<=C)(r:P' g)(f:g<w'.heap.size)(hc:∀ j u,(pdL q z ++ pkL x y)[j]?=some u->w'.cell? ⟨g,j,none⟩=some u):z6S P' w' (J1 (some ⟨g,0,none⟩) (q.length+1) C) (q ++ [x]):=by
 refine⟨z ++ [y],by simp[e],⟨_,q.length+1,C,rfl,?_,by omega,⟨fun h=>(by cases h),p⟩,fun _=>⟨g,0,rfl,r,f,fun j u hu=>?_⟩⟩,fun i a b d c=>?_⟩
 ·rw[z0W _ _ (by simp[e])];simp
 ·rw[q7J q z x y e]at hu;rw[Nat.zero_add];exact hc j u hu
 ·by_cases s:i<q.length
  ·rw[List.getElem?_append_left s]at d;rw[List.getElem?_append_left (by omega)]at c
   have:=n i a b d c;exact⟨(this.1.mono k).over hb,(this.2.mono k).over hb⟩
  ·rw[List.getElem?_append_right (by omega)]at d c
   have t:=(List.getElem?_eq_some_iff.1 d).1;have m:i - q.length=0:=by simpa using t
   rw[m]at d;rw[e,m]at c;cases d;cases c;exact o
theorem j7a(w:World)(x:Pkt)(y:Value×Value)(j:Nat)(v:Value)(a:(pkL x y)[j]?=some v):(w.alloc (J5 #[J I x.k,J I x.i,J I x.v,J I x.n,y.1,y.2] 68)).drew.cell? ⟨w.heap.size,j,none⟩=some v:=by
 have h:=((CAt.new 68 w #[J I x.k,J I x.i,J I x.v,J I x.n,y.1,y.2]).over (Below.refl _ _).drew).cell j;rw[h]
 simpa [pkL] using a
attribute [local go_sem ↓] z1r z1j
theorem q9B(c:Cs)(v:CsV)(P:Nat->Prop)(w:World)(s:ByteArray)(hp:CIn P w c v)(hs:s.size<=maxLen)(a8:c.pd.length * 80<=140737488351232) :
  Calls prog 127 #[J4 (csC c v),.string s] w (j5u P w (z4F c (Cd.bs s))):=by
 have hD:z4F c (Cd.bs s)=if z5t c=0 then if Cd.z7Q (Cd.bs s)=0 then if (z3w (Cd.bs s)).k=1 then ({ c with pd:=c.pd ++ [z3w (Cd.bs s)] },0) else (c,3) else (c,Cd.z7Q (Cd.bs s)) else (c,z5t c):=by unfold z4F;rfl
 have a9:z3w (Cd.bs s)=⟨(Cd.z2l (Cd.bs s)).1,(Cd.z2l (Cd.bs s)).2.1,(Cd.z2l (Cd.bs s)).2.2.1,(Cd.z2l (Cd.bs s)).2.2.2.1,(Cd.z2l (Cd.bs s)).2.2.2.2.1,(Cd.z2l (Cd.bs s)).2.2.2.2.2⟩:=by unfold z3w;rfl
 rw[a9]at hD;have V:=J6 (fun (U:World)=>Cd.z8B s U hs);have W:=J6 a8;clear hs a8;have X:Hid (Cd.z7Q (Cd.bs s)=0->Cd.z0s (Cd.z2l (Cd.bs s)).1 (Cd.z2l (Cd.bs s)).2.1 (Cd.z2l (Cd.bs s)).2.2.1 (Cd.z2l (Cd.bs s)).2.2.2.1 (Cd.z2l (Cd.bs s)).2.2.2.2.1 (Cd.z2l (Cd.bs s)).2.2.2.2.2=0):=fun h=>(Cd.q1q (Cd.z9P s) h).1;clear a9;generalize z4F c (Cd.bs s)=D at *;generalize Cd.z7Q (Cd.bs s)=E at *;generalize Cd.z2l (Cd.bs s)=R at *;obtain⟨k,i,A,B,S,m⟩:=R;dsimp only at hD V X;have HD:=J6 hD;clear hD;have HB:=J6 (j7q hp);have b4:=J6 (fun (U:World) (h:q1s P w U c v)=>z4i w.heap.size c v P U h.C0 h.I0);have HP:=J6 hp;clear hp;generalize z5t c=RC at *
 go_enter func127,ntmps127
 go_upto_region 1 with fail
 change Code.wp prog _ _ _ ((w.alloc (J5 (csC c v) 75)).alloc (J5 Z22 75));generalize (w.alloc (J5 (csC c v) 75)).alloc (J5 Z22 75)=w0 at *
 by_cases Y:RC=0
 rotate_left
 ·have n:=J6 (HD.out.trans (if_neg Y));have c8:(RC != 0)=true:=by simpa using Y
  go_upto_region 3 with (go_at_call 119;refine (b4.out _ HB.out).mono ?_;rintro e w1⟨rfl,F⟩;have q:=J6 (HB.out.over F);clear F;obtain⟨l1,s1⟩:=q.out.facts)
  go_wp2;exact q.out.z0D results127 _ _ n.out _ rfl rfl rfl
 subst Y;have n:=J6 (HD.out.trans (if_pos rfl));clear HD
 go_upto_region 5 with (first
  | (go_at_call 119;refine (b4.out _ HB.out).mono ?_;rintro e w1⟨rfl,F⟩;have q:=J6 (HB.out.over F);clear F)
  | (go_at_call 16;refine (V.out _).mono ?_;rintro e r⟨sa,da,cs,cd,sb,so,db,dO,rfl,hL,G,Z⟩))
 have bA:Bl r (r.alloc (J5 #[.int .i64 k,.int .i64 i,.int .i64 A,.int .i64 B,J1 sa S.length cs,J1 da m.length cd] 68)):=znw r _;have d:=J6 ((q.out.over Z).over bA);have N:=CAt.new 68 r #[.int .i64 k,.int .i64 i,.int .i64 A,.int .i64 B,J1 sa S.length cs,J1 da m.length cd];have c9:w.heap.size+1<r.heap.size:=(q.out.over Z).R0.lt;have d0:w.heap.size+2<=w1.heap.size:=q.out.R0.lt;have Q:=hL.later bA;clear Z hL V bA;generalize r.alloc (J5 #[.int .i64 k,.int .i64 i,.int .i64 A,.int .i64 B,J1 sa S.length cs,J1 da m.length cd] 68)=w3 at *;have d1:r.heap.size<w3.heap.size:=N.lt
 by_cases hE:E=0
 rotate_left
 ·replace n:=J6 (n.out.trans (if_neg hE));have d2:(E != 0)=true:=by simpa using hE
  obtain⟨l3,s3⟩:=d.out.facts;clear N Q G;go_wp2;exact d.out.z0D results127 _ _ n.out _ rfl rfl rfl
 subst hE;replace n:=J6 (n.out.trans (if_pos rfl));have H:=q7o (X.out rfl);have k0:w3.cell? ⟨r.heap.size,0,none⟩=some (.int .i64 k):=N.cell 0
 by_cases hk:k=1
 rotate_left
 ·replace n:=J6 (n.out.trans (if_neg hk));have d3:(k != 1)=true:=by simpa using hk
  obtain⟨l3,s3⟩:=d.out.facts;clear N Q G;go_wp2;exact d.out.z0D results127 _ _ n.out _ rfl rfl rfl
 subst hk;replace n:=J6 (n.out.trans (if_pos rfl));have b5:=J6 (j1l Q G.1 G.2 H.1 H.2);obtain⟨z,a0,K,b6⟩:=HP.out.pd;obtain⟨Aq,Cq,eq,-,b7,-,-⟩:=K.open (z0W _ _ a0) (by decide)
 have a1:=(K.room eq).1
 have b8:Hid (∀ U,Bl w U->Rep P U (J1 Aq c.pd.length c.pd.length) 6 40 (pdL c.pd z)):=fun U hb=>by
  rw[eq]at K;exact (K.over hb).clip
 have a2:=J6 (show _/\_ from⟨a0,b6⟩);have b9:Aq=none->c.pd.length=0:=fun h=>(b7 h).1;have a3:(c.pd.length:Int)<4611686018427387904:=by have:=W.out;omega
 have a6:w3.cell? ⟨w.heap.size,6,none⟩=some (J1 Aq c.pd.length Cq):=by rw[<- eq];exact d.out.C0.cell 6
 have k1:w3.cell? ⟨r.heap.size,1,none⟩=some (.int .i64 i):=N.cell 1;have k2:w3.cell? ⟨r.heap.size,2,none⟩=some (.int .i64 A):=N.cell 2;have k3:w3.cell? ⟨r.heap.size,3,none⟩=some (.int .i64 B):=N.cell 3;have k4:w3.cell? ⟨r.heap.size,4,none⟩=some (J1 sa S.length cs):=N.cell 4;have k5:w3.cell? ⟨r.heap.size,5,none⟩=some (J1 da m.length cd):=N.cell 5;have d4:w.heap.size<w3.heap.size:=d.out.C0.lt;clear a0 K b6 b7 N G X Q H
 go_upto_region 9 with fail
 go_region_law (first
  | (refine Cd.z0B rfl ?_;go_simp;go_at_call 163;refine (q7j Aq c.pd.length Cq a1 b9 a3 _).mono ?_;rintro e we⟨rfl,rfl⟩)
  | (refine j0g rfl rfl _ _ rfl Aq c.pd.length _ 40 (pdL c.pd z) (pkL ⟨1,i,A,B,S,m⟩ (J1 sa S.length cs,J1 da m.length cd)) rfl rfl (b8.out _ (by exact (d.out.B0.alloc d.out.B0.size _).drew)) W.out rfl (fun j v hj=>j7a w3 ⟨1,i,A,B,S,m⟩ (J1 sa S.length cs,J1 da m.length cd) j v hj) ?_;intro g C w9 L M f x l;have C9:=((d.out.C0.alloc (J5 #[.int .i64 1,.int .i64 i,.int .i64 A,.int .i64 B,J1 sa S.length cs,J1 da m.length cd] 68)).over (Below.refl _ _).drew).over x;have z6:w9.cell? ⟨w.heap.size,6,none⟩=some v.pd:=C9.cell 6;have f6:=C9.free 6;have c6:=C9.lt;have HX:=J6 (show _/\_/\_/\_/\_ from⟨L,M,f,x,l⟩);have c4:=J6 C9;clear C9 L M f x l))
 all_goals
  obtain⟨L,M,f,x,l⟩:=HX.out;have c7:g=w3.heap.size+1:=by rw[L];show (w3.alloc _).heap.size=_;simp
  have bX:Bl w3 (w3.alloc (J5 #[.int .i64 1,.int .i64 i,.int .i64 A,.int .i64 B,J1 sa S.length cs,J1 da m.length cd] 68)).drew:=(znw w3 _).drew;have bY:=zbt bX x;have c5:=c4.out.set 6 (J1 (some ⟨g,0,none⟩) (c.pd.length+1) C);have a4:=(d.out.R0.over bY).other (c:=w.heap.size) (o:=6) (by omega) (J1 (some ⟨g,0,none⟩) (c.pd.length+1) C)
  have B9:=zbt d.out.B0 bY;have T:=B9.setCell (p:=⟨w.heap.size,6,none⟩) (Nat.le_refl _) (J1 (some ⟨g,0,none⟩) (c.pd.length+1) C)
  have key:∀ {u:Value} {s t:Nat} {cs':List Value},Rep (fun b=>w1.heap.size<=b) w3 u s t cs'->Rep (New P w 2) (w9.setCell ⟨w.heap.size,6,none⟩ (J1 (some ⟨g,0,none⟩) (c.pd.length+1) C)) u s t cs':=fun hr=>by
   have h1:Rep (New P w 2) w3 _ _ _ _:=hr.mono fun b _ hb=>.inr (by omega)
   exact (h1.over bY).keep fun b hb _=>Below.heap_setCell w9 ⟨w.heap.size,6,none⟩ _ b (show b≠w.heap.size from fun e=>z6o P w (by rw[<- e];exact hb))
  have a5:CIn (New P w 2) (w9.setCell ⟨w.heap.size,6,none⟩ (J1 (some ⟨g,0,none⟩) (c.pd.length+1) C)) { c with pd:=c.pd ++ [⟨1,i,A,B,S,m⟩] } { v with pd:=J1 (some ⟨g,0,none⟩) (c.pd.length+1) C }:=by
   have n9:=HP.out.z2y T 2;refine⟨n9.set,z6S.app (P:=P) (w:=w) (y:=(J1 sa S.length cs,J1 da m.length cd)) a2.out.1 a2.out.2 (fun b hb hp=>.inl ⟨hp,hb⟩) T ⟨key b5.out.1,key b5.out.2⟩ W.out M (.inr (by omega)) (by simpa [World.setCell] using l) (fun j u hu=>?_),n9.rp,n9.said,n9.due⟩
   rw[World.cell?_of_block (w:=w9) (a:=⟨g,j,none⟩) (Below.heap_setCell w9 ⟨w.heap.size,6,none⟩ _ g (by show g≠w.heap.size;omega))]
   exact f j u hu
  have a7:=z1E a5;have l10:=z2p c5 (by simp[z0i])
  rw[j2C c v (c.pd ++ [⟨1,i,A,B,S,m⟩])]at l10;have d5:=z1C a4 z0p (z0i { c with pd:=c.pd ++ [⟨1,i,A,B,S,m⟩] } { v with pd:=J1 (some ⟨g,0,none⟩) (c.pd.length+1) C }) a7
  have HZ:=J6 (show _/\_/\_ from⟨a4,T,a5⟩);clear c5 a4 T B9 a5 bX bY f x l M c7 L HX c4 b8 a2 z6 f6 c6 key;generalize w9.setCell ⟨w.heap.size,6,none⟩ (J1 (some ⟨g,0,none⟩) (c.pd.length+1) C)=w10 at *;simp only[Exit.then];apply_assumption;go_wp2;exact z5L results127 HZ.out.1 z0p HZ.out.2.1 _ _ 0 D n.out HZ.out.2.2 _ rfl rfl rfl
end Kc
end Go.Proofs.YtddlhnoedldidaaGreat
