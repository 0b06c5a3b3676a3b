/- Parts of the proof. -/
import Derived.Test.YtddlhnoedldidaaGreatGL
import Derived.Test.YtddlhnoedldidaaGreatGK30
set_option maxRecDepth 100000
set_option maxHeartbeats 16000000
namespace Go.Proofs.YtddlhnoedldidaaGreat
open Go.Proofs.Tryz
open Value renaming int->J,slice->J1,pointer->J2,bool->J3,agg->J4
open IntKind renaming i64->I
open Obj renaming cells->J5
section
open Go.RowKit
theorem z9z{f:Func}{p:Tmp}(a:f.results=#[.cell p 43]){g:Nat}{wq:World}{c:Array Value}(R:SAt wq g c)(d:c.size=63)(b:St)(sl:Value)(Q:Ending->World->Prop)(e:Q (.returned (J4 (stC b sl))) (wq.setCells g 0 (stC b sl).toList))(act:Act)
  (h:act.tmps.getD p undef=J2 (some ⟨g,0,none⟩)) (hd:act.defers=[]) :
  bodyPost prog f Q Exit.ret act (wq.setCells g 0 (stC b sl).toList):=by
 have i:=R.z0L (ds:=stC b sl) (by rw[d];rfl)
 refine bodyPost_ret (v:=J4 (stC b sl)) ?_ hd e;exact results_cell_row a _ _ _ _ _ _ _ h i underlying43 rfl (by rw[z0B];rfl)
structure RRl(s:St)(F:Wt->Wt)(B:Nat)(w:World)(A:Option Addr)(C k:Nat)(wl:World):Prop where
 own:z2C B wl A C ((s.W.take k).map F ++ s.W.drop k)
 S:SAt wl w.heap.size (stC s (J1 A s.W.length C))
 R:SAt wl (w.heap.size+1) Z63
 below:Bl w wl
theorem q7f(s:St)(ao:Option Addr)(sb so c:Nat)(h:Int)(w:World)(K:z2L w ao sb so s.W)(Y:s.W.length * 64<=140737488351232) :
  Calls prog 128 #[J4 (stC s (J1 ao s.W.length c)),J I 0,J I h] w fun e w'=>∃ A C,e=.returned (J4 (stC s (J1 A s.W.length C)))/\z2C w.heap.size w' A C (z4X 0 h s.W)/\Bl w w':=by
 have v:=(SAt.new w (stC s (J1 ao s.W.length c))).alloc (J5 Z63 43);have RR:=SAt.new2 w (J5 (stC s (J1 ao s.W.length c)) 43) Z63;have z:Hid (Bl w ((w.alloc (J5 (stC s (J1 ao s.W.length c)) 43)).alloc (J5 Z63 43))):=(znw w _).alloc (by simp) _
 have HW:=J6 K;clear K
 go_enter func128,ntmps128
 go_upto_region 1 with fail
 change Code.wp prog _ _ _ ((w.alloc (J5 (stC s (J1 ao s.W.length c)) 43)).alloc (J5 Z63 43));generalize (w.alloc (J5 (stC s (J1 ao s.W.length c)) 43)).alloc (J5 Z63 43)=w0 at *;have Z:w.heap.size+1<w0.heap.size:=RR.lt;have L:w.heap.size<w0.heap.size:=by omega
 have d:=(z0u v).2.2.2.2.2.2.2.1;have M:=z4e ao s.W c sb so w0 (HW.out.over z.out)
 go_upto_region 4 with (go_at_call 38;refine M.mono ?_;rintro e w1⟨A,C,rfl,f,h1⟩;have j:=v.later h1 v.lt;have N:=RR.later h1 RR.lt;have l:=J6 (z.out.trans (h1.mono (by omega)));have b:=J6 f;have B:=j.free 61;have a0:=j.lt;clear d;have d:=(z0u j).2.2.2.2.2.2.2.1;clear h1 f)
 have m:=j.set 61 (J1 A s.W.length C);rw[q2p]at m;have a:=(But.refl w.heap.size w1).set 61 (J1 A s.W.length C);have P:=a.z1q (by omega) N
 have n:Hid (z2C w0.heap.size (w1.setCell ⟨w.heap.size,61,none⟩ (J1 A s.W.length C)) A C s.W):=z1v b.out fun k y=>a.block _ (by have:=(World.ownsRow.lt b.out k y).1;omega)
 have o:=J6 (l.out.trans (a.below (Nat.le_refl _)));generalize w1.setCell ⟨w.heap.size,61,none⟩ (J1 A s.W.length C)=w2 at *;clear d B j N b l a v RR z M;have d:=(z0u m).2.2.2.2.2.2.2.1;have a1:w.heap.size<w2.heap.size:=m.lt;have p:Hid (RRl s (z4j 0 h) w0.heap.size w A C 0 w2):=⟨n.out,m,P,o.out⟩;clear m P n o
 go_upto_region 5 with fail
 go_loopw [23] (fun i wl=>∃ (k:Nat),k<=s.W.length/\i=J I (k:Int)/\Hid (RRl s (z4j 0 h) w0.heap.size w A C k wl)) (fun i _=>s.W.length - (intOf i).toNat)
 case atStart=>exact⟨0,Nat.zero_le _,rfl,p⟩
 case round =>
  obtain⟨k,y,rfl,HR⟩:=hrel;clear p d;have a2:=HR.out.S.lt
  by_cases D:k<s.W.length
  ·obtain⟨x,Q,_⟩:=drop_at D;obtain⟨T,E,e3⟩:=z7t (z4j 0 h) Q;obtain⟨g,rfl,a3,a4,q⟩:=HR.out.own.holds (by omega)
   obtain⟨c6,c7,f6,f7⟩:=q k x E;have r:=HR.out.own.cap;rw[e3]at r;have d:=(z0u HR.out.S).2.2.2.2.2.2.2.1;have t:=J6 T;have u:=J6 E;clear q T E Q
   by_cases U:x.h0<=h
   ·have F:Hid (z4j 0 h x={ x with h0:=0 }):=by show _=_;unfold z4j;simp[U]
    go_wp2;refine⟨⟨k+1,by omega,by go_num,?_⟩,by simp[intOf];omega⟩
    have a:=(But.refl g wr).set (k * 8+6) (J I 0);exact⟨by rw[t.out,F.out];exact HR.out.own.put u.out _ 6 _ (by omega) rfl,a.z1q (by omega) HR.out.S,a.z1q (by omega) HR.out.R,HR.out.below.trans (a.below (by omega))⟩
   ·have F:Hid (z4j 0 h x=x):=by show _=_;unfold z4j;simp[U]
    have G:Hid (RRl s (z4j 0 h) w0.heap.size w (some ⟨g,0,none⟩) C (k+1) wr):=⟨by rw[t.out,F.out,z6u u.out];exact HR.out.own,HR.out.S,HR.out.R,HR.out.below⟩
    go_wp2;exact⟨⟨k+1,by omega,by go_num,G⟩,by simp[intOf];omega⟩
  ·obtain rfl:k=s.W.length:=by omega
   have f:=HR.out.own;rw[List.take_length,List.drop_length,List.append_nil]at f;have V:=J6 f;have S3:=HR.out.S;have X:=HR.out.R;have H:=J6 HR.out.below;clear f HR
   go_upto_region 11 with fail
   apply wp_region_lit;refine wpList_load_mid rfl 43 _ rfl _ 0 rfl _ _ S3.range underlying43 rfl (by rw[z0B];rfl) ?_
   refine wpList_store_mid rfl 43 _ _ rfl _ 0 (stC s (J1 A s.W.length C)) rfl rfl (X.there 0 _ (by rw[z0v,z0f];omega)) (by rw[z0B];rfl) (z0E _ _ _ _) ?_
   go_wp2;exact z9z results128 X rfl s _ _ ⟨A,C,rfl,z4u (z1v V.out fun k' y=>z1l (by have:=(World.ownsRow.lt V.out k' y).1;omega) _ _ _) (by omega),z0b (by omega) _ _ _ H.out⟩ _ rfl rfl
theorem q7d(s:St)(ao:Option Addr)(sb so c:Nat)(h:Int)(w:World)(K:z2L w ao sb so s.W)(Y:s.W.length * 64<=140737488351232) :
  Calls prog 128 #[J4 (stC s (J1 ao s.W.length c)),J I 1,J I h] w fun e w'=>∃ A C,e=.returned (J4 (stC s (J1 A s.W.length C)))/\z2C w.heap.size w' A C (z4X 1 h s.W)/\Bl w w':=by
 have v:=(SAt.new w (stC s (J1 ao s.W.length c))).alloc (J5 Z63 43);have RR:=SAt.new2 w (J5 (stC s (J1 ao s.W.length c)) 43) Z63;have z:Hid (Bl w ((w.alloc (J5 (stC s (J1 ao s.W.length c)) 43)).alloc (J5 Z63 43))):=(znw w _).alloc (by simp) _
 have HW:=J6 K;clear K
 go_enter func128,ntmps128
 go_upto_region 1 with fail
 change Code.wp prog _ _ _ ((w.alloc (J5 (stC s (J1 ao s.W.length c)) 43)).alloc (J5 Z63 43));generalize (w.alloc (J5 (stC s (J1 ao s.W.length c)) 43)).alloc (J5 Z63 43)=w0 at *;have Z:w.heap.size+1<w0.heap.size:=RR.lt;have L:w.heap.size<w0.heap.size:=by omega
 have d:=(z0u v).2.2.2.2.2.2.2.1;have M:=z4e ao s.W c sb so w0 (HW.out.over z.out)
 go_upto_region 4 with (go_at_call 38;refine M.mono ?_;rintro e w1⟨A,C,rfl,f,h1⟩;have j:=v.later h1 v.lt;have N:=RR.later h1 RR.lt;have l:=J6 (z.out.trans (h1.mono (by omega)));have b:=J6 f;have B:=j.free 61;have a0:=j.lt;clear d;have d:=(z0u j).2.2.2.2.2.2.2.1;clear h1 f)
 have m:=j.set 61 (J1 A s.W.length C);rw[q2p]at m;have a:=(But.refl w.heap.size w1).set 61 (J1 A s.W.length C);have P:=a.z1q (by omega) N
 have n:Hid (z2C w0.heap.size (w1.setCell ⟨w.heap.size,61,none⟩ (J1 A s.W.length C)) A C s.W):=z1v b.out fun k y=>a.block _ (by have:=(World.ownsRow.lt b.out k y).1;omega)
 have o:=J6 (l.out.trans (a.below (Nat.le_refl _)));generalize w1.setCell ⟨w.heap.size,61,none⟩ (J1 A s.W.length C)=w2 at *;clear d B j N b l a v RR z M;have d:=(z0u m).2.2.2.2.2.2.2.1;have a1:w.heap.size<w2.heap.size:=m.lt;have p:Hid (RRl s (z4j 1 h) w0.heap.size w A C 0 w2):=⟨n.out,m,P,o.out⟩;clear m P n o
 go_upto_region 5 with fail
 go_loopw [23] (fun i wl=>∃ (k:Nat),k<=s.W.length/\i=J I (k:Int)/\Hid (RRl s (z4j 1 h) w0.heap.size w A C k wl)) (fun i _=>s.W.length - (intOf i).toNat)
 case atStart=>exact⟨0,Nat.zero_le _,rfl,p⟩
 case round =>
  obtain⟨k,y,rfl,HR⟩:=hrel;clear p d;have a2:=HR.out.S.lt
  by_cases D:k<s.W.length
  ·obtain⟨x,Q,_⟩:=drop_at D;obtain⟨T,E,e3⟩:=z7t (z4j 1 h) Q;obtain⟨g,rfl,a3,a4,q⟩:=HR.out.own.holds (by omega)
   obtain⟨c6,c7,f6,f7⟩:=q k x E;have r:=HR.out.own.cap;rw[e3]at r;have d:=(z0u HR.out.S).2.2.2.2.2.2.2.1;have t:=J6 T;have u:=J6 E;clear q T E Q
   by_cases U:x.h1<=h
   ·have F:Hid (z4j 1 h x={ x with h1:=0 }):=by show _=_;unfold z4j;simp[U]
    go_wp2;refine⟨⟨k+1,by omega,by go_num,?_⟩,by simp[intOf];omega⟩
    have a:=(But.refl g wr).set (k * 8+7) (J I 0);exact⟨by rw[t.out,F.out];exact HR.out.own.put u.out _ 7 _ (by omega) rfl,a.z1q (by omega) HR.out.S,a.z1q (by omega) HR.out.R,HR.out.below.trans (a.below (by omega))⟩
   ·have F:Hid (z4j 1 h x=x):=by show _=_;unfold z4j;simp[U]
    have G:Hid (RRl s (z4j 1 h) w0.heap.size w (some ⟨g,0,none⟩) C (k+1) wr):=⟨by rw[t.out,F.out,z6u u.out];exact HR.out.own,HR.out.S,HR.out.R,HR.out.below⟩
    go_wp2;exact⟨⟨k+1,by omega,by go_num,G⟩,by simp[intOf];omega⟩
  ·obtain rfl:k=s.W.length:=by omega
   have f:=HR.out.own;rw[List.take_length,List.drop_length,List.append_nil]at f;have V:=J6 f;have S3:=HR.out.S;have X:=HR.out.R;have H:=J6 HR.out.below;clear f HR
   go_upto_region 11 with fail
   apply wp_region_lit;refine wpList_load_mid rfl 43 _ rfl _ 0 rfl _ _ S3.range underlying43 rfl (by rw[z0B];rfl) ?_
   refine wpList_store_mid rfl 43 _ _ rfl _ 0 (stC s (J1 A s.W.length C)) rfl rfl (X.there 0 _ (by rw[z0v,z0f];omega)) (by rw[z0B];rfl) (z0E _ _ _ _) ?_
   go_wp2;exact z9z results128 X rfl s _ _ ⟨A,C,rfl,z4u (z1v V.out fun k' y=>z1l (by have:=(World.ownsRow.lt V.out k' y).1;omega) _ _ _) (by omega),z0b (by omega) _ _ _ H.out⟩ _ rfl rfl
end
namespace Kc
open Go.RowKit Pv
theorem z9J(l:List (Int×Int))(v:Value)(x:Int)(P:Nat->Prop)(w:World)(h:Rep P w v 2 16 (pwC l)):Calls prog 131 #[v,J I x] w fun e w'=>e=.returned (J I (z4A x l))/\Bl w w':=by
 obtain⟨A,C,rfl,hs,-,hc,-⟩:=h.open (z0c _) (by decide)
 have s:=J6 hc;have m:l.length<=8796093022202:=by omega
 obtain⟨G,g⟩:∃ G,z4A x l=G:=⟨_,rfl⟩;have n:=J6 g;rw[g];clear hc h hs g
 go_enter func131,ntmps131
 go_upto_region 2 with fail
 go_loopw [9] (fun i wl=>∃ (k:Nat),k<=l.length/\i=J I (k:Int)/\Hid (G=z4A x (l.drop k)/\Bl w wl)) (fun i _=>l.length - (intOf i).toNat)
 case atStart=>exact⟨0,Nat.zero_le _,rfl,n.out.symm,Below.refl _ _⟩
 case round =>
  obtain⟨k,B,rfl,HR⟩:=hrel
  by_cases a:k<l.length
  ·have t:(k:Int)<(l.length:Int):=by omega
   obtain⟨y,o,hd⟩:=z4V a;obtain⟨b,off,rfl,-,c,hcell⟩:=s.out (by omega)
   have q:l.getD k (0,0)=y:=by simp[List.getD,o]
   obtain⟨p0,p1⟩:=z2j l k a;rw[q]at p0 p1;have c0:wr.cell? ⟨b,off+k * 2,none⟩=some (J I y.1):=(HR.out.2.cell (p:=⟨b,off+k * 2,none⟩) c).trans (hcell _ _ p0);have c1:wr.cell? ⟨b,off+k * 2+1,none⟩=some (J I y.2):=(HR.out.2.cell (p:=⟨b,off+k * 2+1,none⟩) c).trans (hcell _ _ p1);have d:Hid (G=if y.1=x then y.2 else z4A x (l.drop (k+1))):=by have:=HR.out.1;rw[hd]at this;exact this
   have j:=J6 (HR.out.2.alloc HR.out.2.size (J5 #[J I y.1,J I y.2] 65));clear HR hd o q p0 p1 hcell;obtain⟨r,u⟩:=y;dsimp only at c0 c1 d
   by_cases h1:r=x
   ·subst h1;have e:G=u:=by rw[d.out,if_pos rfl]
    subst e;clear d n;go_wp2;go_ret;exact⟨rfl,j.out⟩
   ·have e:G=z4A x (l.drop (k+1)):=by rw[d.out,if_neg h1]
    have f:=J6 e;have z:(r == x)=false:=by simpa using h1
    clear d e;go_wp2
    first | exact⟨⟨k+1,by omega,by go_num,f.out,j.out⟩,by simp[intOf];omega⟩ | ((repeat apply Exists.intro);exact⟨⟨k+1,by omega,by go_num,f.out,j.out⟩,rfl⟩)
  ·obtain rfl:k=l.length:=by omega
   have e:G=0:=by have:=HR.out.1;rw[List.drop_length]at this;exact this
   subst e;go_wp2;go_ret;exact⟨rfl,HR.out.2⟩
theorem CAt.line{w:World}{g:Nat}{c:Cs}{v:CsV}(h:CAt 75 w g (csC c v))(x:Ln.Line)(u1 u2:Value):CAt 75 ((((w.setCell ⟨g,14,none⟩ u1).setCell ⟨g,15,none⟩ u2).setCell ⟨g,16,none⟩ (J I x.g)).setCell ⟨g,17,none⟩ (J3 x.cl)) g (csC { c with out:=x } { v with said:=u1,due:=u2 }):=(((h.set 14 u1).set 15 u2).set 16 (J I x.g)).set 17 (J3 x.cl)
theorem z0R{P:Nat->Prop}{w:World}{g:Nat}(a:¬ P g)(b:g<w.heap.size):¬ New P w 0 g:=fun h=>by
 rcases h with⟨h,_⟩ | h
 ·exact a h
 ·omega
def j5p(w:World)(g:Nat)(P:Nat->Prop)(a:Cs)(b:Value)(e:Ending)(w':World):Prop:=∃ v',e=.returned b/\CAt 75 w' g (csC a v')/\CIn (New P w 0) w' a v'/\Alt g w w'
theorem q0k(g:Nat)(c:Cs)(v:CsV)(k i x n now:Int)(P:Nat->Prop)(w:World)(h:CAt 75 w g (csC c v))(hp:CIn P w c v)(hg:¬ P g)(a0:0<=now)(a1:now<=1099511627776) :
  Calls prog 132 #[J2 (some ⟨g,0,none⟩),J4 #[.int .i64 k,.int .i64 i,.int .i64 x,.int .i64 n,J1 none 0 0,J1 none 0 0],.int .i64 now] w (j5p w g P (z2o c k i x n now).1 (.int .i64 (z2o c k i x n now).2)):=by
 have HD:Hid (z2o c k i x n now=if Cd.z0n k i x n [] []=0 then ({ c with out:=Ln.z4C c.out (Cd.encS k i x n [] []) (now+40) },Ln.z5O c.out (now+40)) else (c,Cd.z0n k i x n [] [])):=rfl
 generalize z2o c k i x n now=D at *;have u:=J6 (fun (B:World)=>Cd.z6E k i x n [] [] none none 0 0 0 0 0 0 B ⟨by simp,by simp,by simp,by simp,fun i F=>absurd F (by simp),fun i F=>absurd F (by simp)⟩)
 generalize Cd.encS k i x n [] []=s at *;generalize Cd.z0n k i x n [] []=E at *;have V:=J6 hp;have G:=J6 h;have H:=J6 (fun (B:World) (hb:Bl w B)=>q9o c.out s (now+40) v.said v.due P B (hp.said.over hb) (hp.due.over hb));have K:=h.lt;clear hp h
 by_cases L:E=0
 ·subst L;have e:=HD.out.trans (if_pos rfl);subst e;clear HD
  go_enter func132,ntmps132
  go_upto_region 4 with (go_at_call 117;refine (u.out _).mono ?_;rintro e w1⟨rfl,f⟩)
  have a:Bl w w1:=(znw w _).trans (f.mono (by simp))
  obtain⟨-,-,⟨m,o,p,q⟩⟩:=z1g (G.out.over a);have d:=J6 a;clear f a;generalize (Ln.z4C c.out s (now+40))=L' at *;generalize (Ln.z5O c.out (now+40))=E' at *
  go_upto_region 5 with (go_at_call 118;refine (H.out _ d.out).mono ?_;rintro e t⟨u1,u2,rfl,r1,r2,r⟩;have l:=(G.out.over d.out).over r;have ⟨A1,n1,D1,D1',e1,_,_⟩:=id r1;have ⟨A2,n2,D2,D2',e2,_,_⟩:=id r2;subst e1 e2;clear m o p q;obtain⟨-,-,⟨m,o,p,q⟩⟩:=z1g l;have M:=l.free 14;have N:=l.free 15;have Q:=l.free 16;have R:=l.free 17)
  have y:Bl w t:=zbt d.out r;have W:g<t.heap.size:=l.lt;have X:=CAt.line l L' (J1 A1 n1 D1) (J1 A2 n2 D2);have j:=z0R hg K
  have z:z0U (New P w 0) t (J1 A1 n1 D1) 1 16 (txC L'.S):=r1.mono fun b _ hb=>by
   rcases hb with⟨hb,hl⟩ | hb
   ·by_cases T:b<w.heap.size
    ·exact .inl ⟨hb,T⟩
    ·exact .inr (by omega)
   ·exact .inr (by have:=d.out.size;omega)
  have A:z0U (New P w 0) t (J1 A2 n2 D2) 1 8 (inC L'.D):=r2.mono fun b _ hb=>by
   rcases hb with⟨hb,hl⟩ | hb
   ·by_cases T:b<w.heap.size
    ·exact .inl ⟨hb,T⟩
    ·exact .inr (by omega)
   ·exact .inr (by have:=d.out.size;omega)
  have C:=V.out.z2X y 0;have Y:CIn (New P w 0) t { c with out:=L' } { v with said:=J1 A1 n1 D1,due:=J1 A2 n2 D2 }:=⟨C.set,C.pd,C.rp,z,A⟩
  have Z:=(((Y.set1 j 14 (J1 A1 n1 D1)).set1 j 15 (J1 A2 n2 D2)).set1 j 16 (.int .i64 L'.g)).set1 j 17 (J3 L'.cl);have AL:Alt g w ((((t.setCell ⟨g,14,none⟩ (J1 A1 n1 D1)).setCell ⟨g,15,none⟩ (J1 A2 n2 D2)).setCell ⟨g,16,none⟩ (.int .i64 L'.g)).setCell ⟨g,17,none⟩ (J3 L'.cl)):=((((Alt.of y).set 14 _).set 15 _).set 16 _).set 17 _;have U:=J6 (show _/\_/\_ from⟨X,Z,AL⟩);clear X Z AL Y C z A r1 r2 l m o p q M N Q R r;go_wp2;go_ret;exact⟨_,rfl,U.out.1,U.out.2.1,U.out.2.2⟩
 ·have e:=HD.out.trans (if_neg L);subst e;have a2:(E != 0)=true:=by simpa using L
  clear HD
  go_enter func132,ntmps132
  go_wp2_with (go_at_call 117;refine (u.out _).mono ?_;rintro e w1⟨rfl,f⟩)
  go_ret;have a:Bl w w1:=(znw w _).trans (f.mono (by simp))
  exact⟨v,rfl,G.out.over a,V.out.z2X a 0,Alt.of a⟩
attribute [local go_sem ↓] z2f z1J
theorem q7X(l:List (Int×Int))(id now:Int)(u:Value):csC (z2s l id now) ⟨u,J1 none 0 0,J1 none 0 0,J1 none 0 0,J1 none 0 0⟩=#[J3 true,J3 false,J I 0,J I now,J I id,u,J1 none 0 0,J1 none 0 0,J3 false,J3 false,J3 false,J3 false,J3 false,J3 false,J1 none 0 0,J1 none 0 0,J I 0,J3 false,J I 0,J I 0,J I 0,J I 0]:=rfl
theorem q6A(l:List (Int×Int))(v:Value)(id now:Int)(P:Nat->Prop)(w:World)(h:Rep P w v 2 16 (pwC l)) :
  Calls prog 60 #[v,J I id,J I now] w (j7J P w (z2s l id now) 1):=by
 have m:=J6 (fun (t:World) (hb:Bl w t)=>z6P l v P t (h.over hb));clear h
 go_enter func60,ntmps60
 go_upto_region 1 with fail
 change Code.wp prog _ _ _ (w.alloc (J5 Z22 75));have R0:CAt 75 (w.alloc (J5 Z22 75)) w.heap.size Z22:=CAt.new _ w _;have B0:Bl w (w.alloc (J5 Z22 75)):=znw w _;have d:(w.alloc (J5 Z22 75)).heap.size=w.heap.size+1:=by simp
 generalize w.alloc (J5 Z22 75)=w0 at *;have f:¬ New P w 1 w.heap.size:=by have:=z4d (P:=P) (w:=w) (k:=1) (j:=0) (by omega);simpa using this
 have g:=J6 (show _/\_/\_/\_ from⟨R0,B0,d,f⟩);clear R0 B0 d f
 go_wp2_with (go_at_call 39;go_loud (refine (m.out _ g.out.2.1).mono ?_;rintro e w1⟨u,rfl,hu,a⟩;have n:=hu;obtain⟨o,p,q,y,_⟩:=n;subst y;have r:=g.out.1.over a;have x:=zbt g.out.2.1 a;have i:Rep (New P w 1) w1 (J1 o p q) 2 16 (pwC l):=hu.mono (fun b _ hb=>.inr (by have:=g.out.2.2.1;omega));have c:CIn (New P w 1) w1 (z2s l id now) ⟨J1 o p q,J1 none 0 0,J1 none 0 0,J1 none 0 0,J1 none 0 0⟩:=⟨i,z7Z.nil _ _,Rep.nil _ _ _ _,z0U.nil _ _ _ _,z0U.nil _ _ _ _⟩;have z:=z2v r z0C (z0r (z2s l id now) ⟨J1 o p q,J1 none 0 0,J1 none 0 0,J1 none 0 0,J1 none 0 0⟩) (z2p c);rw[q7X]at z;have s:=J6 (show _/\_/\_ from⟨r,x,c⟩);clear r x c hu i a))
 exact q3A results60 s.out.1 z0C s.out.2.1 (Nat.le_refl _) (z2s l id now) _ g.out.2.2.2 s.out.2.2 _ rfl rfl
theorem z8a(c:Cs)(v:CsV)(P:Nat->Prop)(w:World)(hp:CIn P w c v) :
  Calls prog 91 #[J4 (csC c v)] w (j7J P w (z1d c) 2):=by
 have HD:Hid (z1d c=if c.on=true then { c with on:=false,gone:=true,out:={ c.out with cl:=true } } else c):=rfl
 generalize z1d c=D at *;have q:=J6 (fun (r:World) (hb:Bl w r)=>hp.z2X hb 2);have a:=z2p hp;clear hp
 go_enter func91,ntmps91
 go_upto_region 1 with fail
 change Code.wp prog _ _ _ ((w.alloc (J5 (csC c v) 75)).alloc (J5 Z22 75));have C0:CAt 75 ((w.alloc (J5 (csC c v) 75)).alloc (J5 Z22 75)) w.heap.size (csC c v):=(CAt.new _ w _).alloc _;have R0:CAt 75 ((w.alloc (J5 (csC c v) 75)).alloc (J5 Z22 75)) (w.heap.size+1) Z22:=CAt.new2 _ w _ _;have B0:Bl w ((w.alloc (J5 (csC c v) 75)).alloc (J5 Z22 75)):=(znw w _).alloc (by simp) _
 generalize (w.alloc (J5 (csC c v) 75)).alloc (J5 Z22 75)=w0 at *;obtain⟨⟨h,s,-,-,-⟩,-,⟨-,-,-,i⟩⟩:=z1g C0;have f0:=C0.free 0;have f1:=C0.free 1;have j:=C0.free 17;cases d:c.on
 ·have e:D=c:=by rw[HD.out,d];simp
  subst e;rw[d]at h;have x:=z3n C0 (z0r _ _);have y:=z2v R0 z0C (z0r D v) a;have f:=J6 (show _/\_ from⟨R0,B0⟩);clear C0 R0 B0 a;go_wp2;exact q3A results91 f.out.1 z0C f.out.2 (Nat.le_succ _) D v (z4d (by omega)) (q.out _ f.out.2) _ rfl rfl
 ·have e:D={ c with on:=false,gone:=true,out:={ c.out with cl:=true } }:=by rw[HD.out,if_pos d]
  rw[d]at h;have k:=((C0.set 0 (J3 false)).set 1 (J3 true)).set 17 (J3 true);rw[j8X,j3o,y0H]at k;have l:=((R0.other (c:=w.heap.size) (o:=0) (by omega) (J3 false)).other (c:=w.heap.size) (o:=1) (by omega) (J3 true)).other (c:=w.heap.size) (o:=17) (by omega) (J3 true)
  have m:=((B0.setCell (p:=⟨w.heap.size,0,none⟩) (Nat.le_refl _) (J3 false)).setCell (p:=⟨w.heap.size,1,none⟩) (Nat.le_refl _) (J3 true)).setCell (p:=⟨w.heap.size,17,none⟩) (Nat.le_refl _) (J3 true);have g:=q.out _ m;have n:CIn (New P w 2) (((w0.setCell ⟨w.heap.size,0,none⟩ (J3 false)).setCell ⟨w.heap.size,1,none⟩ (J3 true)).setCell ⟨w.heap.size,17,none⟩ (J3 true)) { c with on:=false,gone:=true,out:={ c.out with cl:=true } } v:=⟨g.set,g.pd,g.rp,g.said,g.due⟩
  have b:=z2p n;have t:=z3n k (z0r _ _);have u:=z2v l z0C (z0r { c with on:=false,gone:=true,out:={ c.out with cl:=true } } v) b
  have f:=J6 (show _/\_/\_ from⟨l,m,n⟩);rw[<- e]at f t u;clear e HD;clear C0 R0 B0 k l m g n a b
  go_upto_region 5 with fail
  clear h s i f0 f1 j;generalize ((w0.setCell ⟨w.heap.size,0,none⟩ (J3 false)).setCell ⟨w.heap.size,1,none⟩ (J3 true)).setCell ⟨w.heap.size,17,none⟩ (J3 true)=w3 at *;go_wp2;exact q3A results91 f.out.1 z0C f.out.2.1 (Nat.le_succ _) D v (z4d (by omega)) f.out.2.2 _ rfl rfl
end Kc
namespace Kc
open Go.RowKit Pv
theorem j1y{last:Int}:∀ {l:List (Int×Int)} {v:Int},z2W last l=true->z4A v l≠0->last<v/\v<=5/\1<=z4A v l/\z4A v l<=1125899906842624
 | [],v,_,h=>absurd rfl h
 | x :: l,v,hs,h=>by
  have h2:z8K last x=true/\z2W x.1 l=true:=by
   have:(z8K last x && z2W x.1 l)=true:=hs
   simpa using this
  have h3:last<x.1/\x.1<=5/\1<=x.2/\x.2<=1125899906842624:=by
   have:=h2.1;unfold z8K at this;simp only[Bool.and_eq_true,decide_eq_true_eq]at this;exact⟨this.1.1.1,this.1.1.2,this.1.2,this.2⟩
  have e:z4A v (x :: l)=if x.1=v then x.2 else z4A v l:=rfl;rw[e]at h ⊢
  by_cases a:x.1=v
  ·rw[if_pos a];subst a;exact h3
  ·rw[if_neg a]at h ⊢;have:=j1y h2.2 h;exact⟨by omega,this.2⟩
theorem q4U{c:Cs}(h:z5t c=0):z8P c=true/\c.on=true:=by
 unfold z5t at h
 by_cases a:z8P c=true
 ·rw[if_pos a]at h
  by_cases b:c.on=true
  ·exact⟨a,b⟩
  ·rw[if_neg b]at h;exact absurd h (by decide)
 ·rw[if_neg a]at h;exact absurd h (by decide)
theorem z4Y{c:Cs}(h:z8P c=true):((c.on && c.gone)=false/\0<=c.h/\c.h<1099511627776)/\(0<=c.t/\c.t<=1099511627776)/\(0<=c.id/\c.id<=1099511627776)/\z2W (-1) c.set=true/\c.pd.all z5R=true/\c.rp.all z7J=true/\Ln.z1a c.out=true:=by
 unfold z8P isT at h;simp only[Bool.and_eq_true,decide_eq_true_eq,Bool.not_eq_true']at h;obtain⟨⟨⟨⟨⟨h1,h2⟩,h3⟩,a⟩,b⟩,⟨⟨⟨d,e⟩,f⟩,g⟩⟩:=h;exact⟨⟨h1,h2,h3⟩,a,b,d,e,f,g⟩
theorem q9i{n:Int}(h:isT n=true):0<=n/\n<=1099511627776:=by
 unfold isT at h
 simpa using h
structure q2t(P:Nat->Prop)(w w0:World)(c:Cs)(v:CsV):Prop where
 C0:CAt 75 w0 w.heap.size (csC c v)
 R0:CAt 75 w0 (w.heap.size+1) Z22
 B0:Bl w w0
 I0:CIn P w0 c v
 N0:CIn (New P w 2) w0 c v
 no:¬ P w.heap.size∨True
theorem y1u{P:Nat->Prop}{w:World}{c:Cs}{v:CsV}(hp:CIn P w c v):q2t P w ((w.alloc (J5 (csC c v) 75)).alloc (J5 Z22 75)) c v:=by
 have hb:Bl w ((w.alloc (J5 (csC c v) 75)).alloc (J5 Z22 75)):=(znw w _).alloc (by simp) _
 exact⟨(CAt.new _ w _).alloc _,CAt.new2 _ w _ _,hb,hp.over hb,hp.z2X hb 2,.inr trivial⟩
theorem q2t.over{P:Nat->Prop}{w w0 w1:World}{c:Cs}{v:CsV}(h:q2t P w w0 c v)(hb:Bl w0 w1):q2t P w w1 c v:=
 ⟨h.C0.over hb,h.R0.over hb,zbt h.B0 hb,h.I0.over hb,h.N0.over hb,.inr trivial⟩
theorem q2t.z0M{f:Func}{t q:Tmp}(a:f.results=#[.cell t 75,.tmp q]){P:Nat->Prop}{w w0:World}{c:Cs}{v:CsV}(h:q2t P w w0 c v)(b:Int)(r:Cs×Int)(d:r=(c,b))(act:Act)
  (e:act.tmps.getD t undef=J2 (some ⟨w.heap.size+1,0,none⟩)) (g:act.tmps.getD q undef=J I b) (hd:act.defers=[]) :
  bodyPost prog f (j8E P w r) Exit.ret act (w0.setCells (w.heap.size+1) 0 (csC c v).toList):=z6w a h.R0 z0C h.B0 c v b r d h.N0 act e g hd
theorem q2t.facts{P:Nat->Prop}{w w0:World}{c:Cs}{v:CsV}(h:q2t P w w0 c v):(z7n (J2 (some ⟨w.heap.size,0,none⟩))).run prog w0=.ok (J4 (csC c v)) w0/\(q3L (J2 (some ⟨w.heap.size+1,0,none⟩)) (J4 (csC c v))).run prog w0=.ok () (w0.setCells (w.heap.size+1) 0 (csC c v).toList):=
 ⟨z3n h.C0 (z0r _ _),z2v h.R0 z0C (z0r c v) (z2p h.I0)⟩
theorem z7e(P:Nat->Prop)(w:World):¬ New P w 2 w.heap.size:=by
 have:=z4d (P:=P) (w:=w) (k:=2) (j:=0) (by omega)
 simpa using this
theorem z7K{P:Nat->Prop}{w w0:World}(a:w.heap.size+2<=w0.heap.size){b:Nat}(h:New (New P w 2) w0 0 b):New P w 2 b:=by
 rcases h with⟨h,_⟩ | h
 ·exact h
 ·exact .inr (by omega)
attribute [local go_sem ↓] z2f z1J
theorem q7B(c:Cs)(v:CsV)(P:Nat->Prop)(w:World)(x now:Int)(hp:CIn P w c v) :
  Calls prog 92 #[J4 (csC c v),.int .i64 x,.int .i64 now] w (j8E P w (z3o c x now)):=by
 have hD:z3o c x now=if isT now=true then (if z5t c=0 then (if z4A x c.set=0 then (c,4) else if c.fl x.toNat=true then (c,5) else if (z2o c 3 c.id x (z4A x c.set) now).2=0 then ({ (z2o c 3 c.id x (z4A x c.set) now).1 with fl:=j6y c.fl x.toNat true },0) else (c,(z2o c 3 c.id x (z4A x c.set) now).2)) else (c,z5t c)) else (c,2):=rfl
 have A:(z2o c 3 c.id x (z4A x c.set) now).2≠0->(z2o c 3 c.id x (z4A x c.set) now).1=c:=by
  unfold z2o
  split
  ·intro h;dsimp only at h ⊢;unfold Ln.z4C;rw[if_neg h]
  ·intro _;rfl
 have B:=J6 A;have C:Hid ((z2o c 3 c.id x (z4A x c.set) now).1.fl=c.fl):=by unfold z2o;split <;> rfl
 have u:=J6 (y1u hp);have i:=J6 (fun (m:World) (h:q2t P w m c v)=>z5s w.heap.size c v now P m h.C0 h.I0);have Q:=J6 (fun (m:World) (h:q2t P w m c v)=>z9J c.set v.set x P m h.I0.set);have E:=J6 (fun (m:World) (h:q2t P w m c v) (h0:0<=now) (h1:now<=1099511627776)=>q0k w.heap.size c v 3 c.id x (z4A x c.set) now (New P w 2) m h.C0 h.N0 (z7e P w) h0 h1);have HD:=J6 hD;clear hp hD A;generalize z3o c x now=D at *;generalize R:z2o c 3 c.id x (z4A x c.set) now=SS at *;clear R;obtain⟨c2,S⟩:=SS;dsimp only at B C E HD
 have q:Hid (z5t c=0->z4A x c.set≠0->-1<x/\x<=5):=fun h1 h2=>by
  have:=j1y (z4Y (q4U h1).1).2.2.2.1 h2;exact⟨this.1,this.2.1⟩
 generalize z4A x c.set=pw at *;generalize z5t c=RC at *;have U:=J6 (fun h=>q9i (n:=now) h)
 go_enter func92,ntmps92
 go_upto_region 1 with fail
 change Code.wp prog _ _ _ ((w.alloc (J5 (csC c v) 75)).alloc (J5 Z22 75));generalize (w.alloc (J5 (csC c v) 75)).alloc (J5 Z22 75)=w0 at *;generalize isT now=T at *;cases T
 ·have HR:=J6 (HD.out.trans (if_neg (by simp)))
  clear HD;rw[show (if false=true then RC else 2)=(2:Int) from rfl]at i
  go_upto_region 3 with (go_at_call 130;refine (i.out _ u.out).mono ?_;rintro e w1⟨rfl,f⟩;have d:=J6 (u.out.over f);clear f;obtain⟨V,W⟩:=d.out.facts)
  go_wp2;exact d.out.z0M results92 _ _ HR.out _ rfl rfl rfl
 have HR:=J6 (HD.out.trans (if_pos rfl));clear HD;obtain⟨X,Y⟩:=U.out rfl;rw[show (if true=true then RC else 2)=RC from rfl]at i
 by_cases r:RC=0
 ·subst r;replace HR:=J6 (HR.out.trans (if_pos rfl));replace q:=J6 (q.out rfl)
  go_upto_region 4 with (go_at_call 130;refine (i.out _ u.out).mono ?_;rintro e w1⟨rfl,f⟩;have d:=J6 (u.out.over f);clear f)
  have a5:=(z1g d.out.C0).2.1.1
  go_upto_region 5 with (go_at_call 131;refine (Q.out _ d.out).mono ?_;rintro e w2⟨rfl,F⟩;have a:=J6 (d.out.over F);clear F a5)
  by_cases j:pw=0
  ·subst j;replace HR:=J6 (HR.out.trans (if_pos rfl));obtain⟨V,W⟩:=a.out.facts;go_wp2;exact a.out.z0M results92 _ _ HR.out _ rfl rfl rfl
  ·replace HR:=J6 (HR.out.trans (if_neg j));have a0:(pw == 0)=false:=by simpa using j
   obtain⟨a3,a6⟩:=q.out j;obtain⟨y,rfl⟩:∃ y:Nat,x=(y:Int):=⟨x.toNat,by omega⟩
   have s:y<6:=by omega
   have a7:(y:Int)<6:=by omega
   rw[Int.toNat_natCast]at HR;have G:w2.cell? ⟨w.heap.size,8+y,none⟩=some (J3 (c.fl y)):=(a.out.C0.cell _).trans (j0U c v s);cases k:c.fl y
   ·rw[k]at G;replace HR:=J6 (HR.out.trans (if_neg (by rw[k];simp)))
    have a4:=(z1g a.out.C0).1.2.2.2.2
    go_upto_region 10 with (go_at_call 132;refine (E.out _ a.out X Y).mono ?_;rintro e H⟨v3,rfl,z,Z,M⟩;clear a4 G)
    have K:=M.cat (by omega) a.out.R0
    have N:Bl w H:=a.out.B0.trans (M.below (Nat.le_refl _) (by have:=a.out.B0.size;omega))
    have L:CIn (New P w 2) H c2 v3:=Z.mono fun b _ h=>z7K (by have:=a.out.R0.lt;omega) h
    by_cases l:S=0
    ·subst l;replace HR:=J6 (HR.out.trans (if_pos rfl));have fF:=z.free (8+y);have G:H.cell? ⟨w.heap.size,8+y,none⟩=some (J3 (c2.fl y)):=(z.cell _).trans (j0U c2 v3 s);have C4:=z.set (8+y) (J3 true);rw[j4Q c2 v3 s,C.out]at C4;have R4:=K.other (c:=w.heap.size) (o:=8+y) (by omega) (J3 true)
     have B4:=N.setCell (p:=⟨w.heap.size,8+y,none⟩) (Nat.le_refl _) (J3 true);have g:=L.set1 (z7e P w) (8+y) (J3 true);have N4:CIn (New P w 2) (H.setCell ⟨w.heap.size,8+y,none⟩ (J3 true)) { c2 with fl:=j6y c.fl y true } v3:=⟨g.set,g.pd,g.rp,g.said,g.due⟩
     have l4:=z3n C4 (z0r _ _);have s4:=z2v R4 z0C (z0r { c2 with fl:=j6y c.fl y true } v3) (z2p N4)
     have t:=J6 (show _/\_/\_ from⟨R4,B4,N4⟩);clear C4 R4 B4 N4 g z K N L Z M
     go_upto_region 13 with fail
     clear G fF;generalize H.setCell ⟨w.heap.size,8+y,none⟩ (J3 true)=w4 at *;go_wp2;exact z6w results92 t.out.1 z0C t.out.2.1 _ _ 0 D HR.out t.out.2.2 _ rfl rfl rfl
    ·replace HR:=J6 (HR.out.trans (if_neg l));have a1:(S != 0)=true:=by simpa using l
     have e2:=B.out l;subst e2;have l4:=z3n z (z0r _ _);have s4:=z2v K z0C (z0r c2 v3) (z2p L);have t:=J6 (show _/\_/\_ from⟨K,N,L⟩);clear z K N L Z M;go_wp2;exact z6w results92 t.out.1 z0C t.out.2.1 _ _ S D HR.out t.out.2.2 _ rfl rfl rfl
   ·rw[k]at G;replace HR:=J6 (HR.out.trans (if_pos (by rw[k])))
    obtain⟨V,W⟩:=a.out.facts;go_wp2;exact a.out.z0M results92 _ _ HR.out _ rfl rfl rfl
 ·replace HR:=J6 (HR.out.trans (if_neg r));have a2:(RC != 0)=true:=by simpa using r
  go_upto_region 3 with (go_at_call 130;refine (i.out _ u.out).mono ?_;rintro e w1⟨rfl,f⟩;have d:=J6 (u.out.over f);clear f;obtain⟨V,W⟩:=d.out.facts)
  go_wp2;exact d.out.z0M results92 _ _ HR.out _ rfl rfl rfl
theorem q2Y(c:Cs)(v:CsV)(P:Nat->Prop)(w:World)(x id now:Int)(hp:CIn P w c v) :
  Calls prog 93 #[J4 (csC c v),.int .i64 x,.int .i64 id,.int .i64 now] w (j8E P w (z1c c x id now)):=by
 have L:z1c c x id now=if isT now=true then (if z5t c=0 then (if isV x=true then (if 1<=id/\id<=c.id then z2o c 4 id x (y0f (z4A x c.set)) now else (c,2)) else (c,4)) else (c,z5t c)) else (c,2):=rfl;have m:Hid (y0f (z4A x c.set)=if z4A x c.set<1 then 1 else z4A x c.set):=rfl;have j:=J6 (y1u hp);have f:=J6 (fun (g:World) (h:q2t P w g c v)=>z5s w.heap.size c v now P g h.C0 h.I0);have u:=J6 (fun (g:World) (h:q2t P w g c v)=>z9J c.set v.set x P g h.I0.set);have p:=J6 (fun (g:World) (h:q2t P w g c v) (h0:0<=now) (h1:now<=1099511627776)=>q0k w.heap.size c v 4 id x (y0f (z4A x c.set)) now (New P w 2) g h.C0 h.N0 (z7e P w) h0 h1);have q:=J6 (fun (g:World)=>z9S x g);have HD:=J6 L;clear hp L;generalize z1c c x id now=D at *;generalize z4A x c.set=pw at *;generalize y0f pw=mo at *;generalize y:z2o c 4 id x mo now=SS at *;clear y;obtain⟨c2,W⟩:=SS;dsimp only at p HD;generalize z5t c=RC at *;have z:=J6 (fun h=>q9i (n:=now) h)
 go_enter func93,ntmps93
 go_upto_region 1 with fail
 change Code.wp prog _ _ _ ((w.alloc (J5 (csC c v) 75)).alloc (J5 Z22 75));generalize (w.alloc (J5 (csC c v) 75)).alloc (J5 Z22 75)=w0 at *;generalize isT now=T at *;generalize isV x=V at *;cases T
 ·have HR:=J6 (HD.out.trans (if_neg (by simp)))
  clear HD;rw[show (if false=true then RC else 2)=(2:Int) from rfl]at f
  go_upto_region 3 with (go_at_call 130;refine (f.out _ j.out).mono ?_;rintro e w1⟨rfl,d⟩;have a:=J6 (j.out.over d);clear d;obtain⟨s,t⟩:=a.out.facts)
  go_wp2;exact a.out.z0M results93 _ _ HR.out _ rfl rfl rfl
 have HR:=J6 (HD.out.trans (if_pos rfl));clear HD;obtain⟨A,B⟩:=z.out rfl;rw[show (if true=true then RC else 2)=RC from rfl]at f
 by_cases k:RC=0
 ·subst k;replace HR:=J6 (HR.out.trans (if_pos rfl));cases V
  ·replace HR:=J6 (HR.out.trans (if_neg (by simp)))
   go_upto_region 5 with (first
    | (go_at_call 130;refine (f.out _ j.out).mono ?_;rintro e w1⟨rfl,d⟩;have a:=J6 (j.out.over d);clear d)
    | (go_at_call 133;refine (q.out _).mono ?_;rintro e w'⟨rfl,rfl⟩))
   obtain⟨s,t⟩:=a.out.facts;go_wp2;exact a.out.z0M results93 _ _ HR.out _ rfl rfl rfl
  ·replace HR:=J6 (HR.out.trans (if_pos rfl))
   go_upto_region 6 with (first
    | (go_at_call 130;refine (f.out _ j.out).mono ?_;rintro e w1⟨rfl,d⟩;have a:=J6 (j.out.over d);clear d)
    | (go_at_call 133;refine (q.out _).mono ?_;rintro e w'⟨rfl,rfl⟩))
   have X:=(z1g a.out.C0).1.2.2.2.2;have Y:=(z1g a.out.C0).2.1.1;generalize c.id=cid at *;have C:id<1∨(1<=id/\cid<id)∨(1<=id/\id<=cid):=by omega
   rcases C with h1 | ⟨h1,h2⟩ | ⟨h1,h2⟩
   ·replace HR:=J6 (HR.out.trans (if_neg (by omega)))
    obtain⟨s,t⟩:=a.out.facts;go_wp2;exact a.out.z0M results93 _ _ HR.out _ rfl rfl rfl
   ·replace HR:=J6 (HR.out.trans (if_neg (by omega)))
    obtain⟨s,t⟩:=a.out.facts;go_wp2;exact a.out.z0M results93 _ _ HR.out _ rfl rfl rfl
   ·replace HR:=J6 (HR.out.trans (if_pos ⟨h1,h2⟩))
    have E:(pw<1/\mo=1)∨(1<=pw/\mo=pw):=by
     rw[m.out]
     by_cases h:pw<1
     ·exact .inl ⟨h,if_pos h⟩
     ·exact .inr ⟨by omega,if_neg h⟩
    clear m
    rcases E with⟨hp1,rfl⟩ | ⟨hp1,rfl⟩
    all_goals
     go_upto_region 9 with (go_at_call 131;refine (u.out _ a.out).mono ?_;rintro e M⟨rfl,r⟩;have i:=J6 (a.out.over r);clear r Y X)
     go_upto_region 10 with (go_at_call 132;refine (p.out _ (i.out.over (by exact znw M _)) A B).mono ?_;rintro e N⟨v3,rfl,Q,R,F⟩)
     have l:=fun o=>i.out.over (znw M o);have G:=F.cat (by omega) (l _).R0
     have S:Bl w N:=(l _).B0.trans (F.below (Nat.le_refl _) (by have:=i.out.B0.size;simp;omega))
     have H:CIn (New P w 2) N c2 v3:=R.mono fun b _ h=>z7K (by have:=i.out.R0.lt;simp;omega) h
     have Z:=z3n Q (z0r _ _);have s4:=z2v G z0C (z0r c2 v3) (z2p H);have K:=J6 (show _/\_/\_ from⟨G,S,H⟩);clear Q G S H R F l;go_wp2;exact z6w results93 K.out.1 z0C K.out.2.1 _ _ W D HR.out K.out.2.2 _ rfl rfl rfl
 ·replace HR:=J6 (HR.out.trans (if_neg k));have U:(RC != 0)=true:=by simpa using k
  go_upto_region 3 with (go_at_call 130;refine (f.out _ j.out).mono ?_;rintro e w1⟨rfl,d⟩;have a:=J6 (j.out.over d);clear d;obtain⟨s,t⟩:=a.out.facts)
  go_wp2;exact a.out.z0M results93 _ _ HR.out _ rfl rfl rfl
end Kc
namespace Kc
open Go.RowKit Pv
theorem z5e:∀ (l:List (Int×Int)) (last:Int),-1<=last->last<=5->Cd.z0d last l=true->(l.length:Int)<=5 - last
 | [],last,_,h,_=>by simp;omega
 | x :: l,last,h0,h1,h=>by
  unfold Cd.z0d Cd.isV at h;simp only[Bool.and_eq_true,decide_eq_true_eq]at h;have:=z5e l x.1 (by omega) (by omega) h.2
  simp only[List.length_cons];omega
theorem z5T:∀ (l:List Int) (last:Int),-1<=last->last<=5->Cd.z0i last l=true->(l.length:Int)<=5 - last
 | [],last,_,h,_=>by simp;omega
 | x :: l,last,h0,h1,h=>by
  unfold Cd.z0i Cd.isV at h;simp only[Bool.and_eq_true,decide_eq_true_eq]at h;have:=z5T l x (by omega) (by omega) h.2
  simp only[List.length_cons];omega
theorem z6D{k i v n:Int}{S:List (Int×Int)}{D:List Int}(h:Cd.z0n k i v n S D=0):Cd.z0d (-1) S=true/\Cd.z0i (-1) D=true:=by
 unfold Cd.z0n at h
 by_cases h1:k<1∨4<k
 ·rw[if_pos h1]at h;exact absurd h (by decide)
 rw[if_neg h1]at h
 by_cases h2:i<1∨1099511627776<i
 ·rw[if_pos h2]at h;exact absurd h (by decide)
 rw[if_neg h2]at h
 by_cases h3:Cd.z7j k=true/\(Cd.isV v=false∨n<1∨1125899906842624<n)
 ·rw[if_pos h3]at h;exact absurd h (by decide)
 rw[if_neg h3]at h
 by_cases d:Cd.z8w k v n S.length D.length=true
 ·rw[if_pos d]at h;exact absurd h (by decide)
 rw[if_neg d]at h
 by_cases c:Cd.z0d (-1) S=false∨Cd.z0i (-1) D=false
 ·rw[if_pos c]at h;exact absurd h (by decide)
 ·cases a:Cd.z0d (-1) S
  ·exact absurd (.inl a) c
  ·cases b:Cd.z0i (-1) D
   ·exact absurd (.inr b) c
   ·exact⟨rfl,rfl⟩
theorem j0q{k i v n:Int}{S:List (Int×Int)}{D:List Int}(h:Cd.z0n k i v n S D=0):S.length<=6/\D.length<=6:=by
 have h1:=z5e S (-1) (by omega) (by omega) (z6D h).1
 have h2:=z5T D (-1) (by omega) (by omega) (z6D h).2
 omega
theorem j3I{w:World}{B:Nat}{S:List (Int×Int)}{D:List Int}{sa da:Option Addr}{cs cd sb so db dO:Nat}(L:Cd.q7h w S D sa da sb so db dO)(r1:Cd.Rm B sa S.length cs sb)(r2:Cd.Rm B da D.length cd db)(f:S.length<=6)(g:D.length<=6) :
  Rep (fun b=>B<=b) w (J1 sa S.length cs) 2 16 (pwC S)/\Rep (fun b=>B<=b) w (J1 da D.length cd) 1 8 (inC D):=by
 refine⟨⟨sa,S.length,cs,rfl,z0c _,by omega,⟨r1.1,r1.2.1⟩,fun h0=>⟨sb,so,L.hsa h0,r1.2.2 h0,World.block_lt_of_cell? w _ (L.PS 0 h0).1,fun j u hu=>?_⟩⟩,⟨da,D.length,cd,rfl,z0s _,by omega,⟨r2.1,r2.2.1⟩,fun h0=>⟨db,dO,L.hda h0,r2.2.2 h0,World.block_lt_of_cell? w _ (L.PD 0 h0),fun j u hu=>?_⟩⟩⟩
 ·have a:j<S.length * 2:=by have:=(List.getElem?_eq_some_iff.1 hu).1;rwa [z0c]at this
  have d:j / 2<S.length:=by omega
  have hp:=L.PS (j / 2) d;have c:=z2j S (j / 2) d
  rcases (show j % 2=0∨j % 2=1 by omega) with h | h
  ·have e:j / 2 * 2=j:=by omega
   rw[e]at c hp;rw[hp.1,<- c.1,hu]
  ·have e:j / 2 * 2+1=j:=by omega
   have h2:=hp.2;rw[Nat.add_assoc,e]at h2;rw[h2,<- c.2,e,hu]
 ·have a:j<D.length:=by have:=(List.getElem?_eq_some_iff.1 hu).1;rw[z0s]at this;omega
  rw[L.PD j a,<- hu,z4F _ j a]
theorem q7F(ao:Option Addr)(n c:Nat)(a:n<=c)(h0:ao=none->n=0)(hc:(n:Int)<4611686018427387904)(w:World):Calls prog 163 #[J1 ao n c] w fun e w'=>e=.returned (J1 ao n n)/\w=w':=by
 have h1:(n:Int)<=(c:Int):=by omega
 have h2:(0:Int)<=(n:Int):=by omega
 go_enter func163,ntmps163
 cases ao
 ·obtain rfl:=h0 rfl;go_wp2;go_ret;exact⟨rfl,rfl⟩
 ·clear h0;go_wp2;go_ret;exact⟨rfl,rfl⟩
theorem y0S:(prog.info? 68).map (fun i=>(i.zero,i.size,i.bytes))=some (some (J4 #[J I 0,J I 0,J I 0,J I 0,J1 none 0 0,J1 none 0 0]),6,80):=by kernel_rfl
theorem j4k{P:Nat->Prop}{ops:Array Oper}{o:Oper}{a:Act}{w:World}{K:Act->World->Prop}{Q:Exit->Act->World->Prop}{E:Prop}(m:o.guard=none)(e:o.type=71)(p q:Operand)
  (f:o.op=Op.call { callee:=Callee.builtin Builtin.append,args:=#[p,q],argTypes:=#[71,71] }) (A:Option Addr) (n y bt:Nat) (cs b:List Value) (hs:a.eval p=J1 A n n) (r:a.eval q=J1 (some ⟨y,0,none⟩) 1 1)
  (h:Rep P w (J1 A n n) 6 bt cs) (hb:n * 80<=140737488351232) (s:b.length=6) (t:∀ j v,b[j]?=some v->w.cell? ⟨y,j,none⟩=some v)
  (x:∀ g C w',g=w.heap.size->n+1<=C->(∀ j u,(cs ++ b)[j]?=some u->w'.cell? ⟨g,j,none⟩=some u)->Bl w w'->g<w'.heap.size->K (a.put o.dst (J1 (some ⟨g,0,none⟩) (n+1) C)) w') :
  if Region.wanted o (yielded ops a.tmps)=true then Oper.wp prog o a w K Q else E:=by
 obtain⟨i0,z,i,d,c⟩:=info_parts y0S;have B:Region.wanted o (yielded ops a.tmps)=true:=by simp[Region.wanted,m]
 rw[if_pos B];unfold Oper.wp;obtain⟨C,w',h,D,k,F,l⟩:=apR 71 68 i0 _ underlying71 z i w A n y bt cs b (by rw[d];exact h) (by rw[c];exact hb) (by rw[c];omega) (by rw[c];omega) (by rw[d];exact s) t
 simp[execOp,f,resolve,invoke,builtin,hs,r,e,h,Result.andThen]
 exact x _ _ _ rfl D k F l
theorem z7Z.app{P P':Nat->Prop}{w w':World}{q:List Pkt}{z:List (Value×Value)}{x:Pkt}{y:Value×Value}(e:z.length=q.length)(n:∀ (i:Nat) (x:Pkt) (y:Value×Value),q[i]?=some x->z[i]?=some y->Rep P w y.1 2 16 (pwC x.S)/\Rep P w y.2 1 8 (inC x.D))(k:∀ b,b<w.heap.size->P b->P' b)(hb:Bl w w')(o:Rep P' w' y.1 2 16 (pwC x.S)/\Rep P' w' y.2 1 8 (inC x.D))(l:q.length * 80<=140737488351232){g C:Nat}(p:q.length+1<=C)(r:P' g)(f:g<w'.heap.size)(hc:∀ j u,(pdL q z ++ pkL x y)[j]?=some u->w'.cell? ⟨g,j,none⟩=some u):z7Z P' w' (J1 (some ⟨g,0,none⟩) (q.length+1) C) (q ++ [x]):=by
 refine⟨z ++ [y],by simp[e],⟨_,q.length+1,C,rfl,?_,by omega,⟨fun h=>(by cases h),p⟩,fun _=>⟨g,0,rfl,r,f,fun j u hu=>?_⟩⟩,fun i a b d c=>?_⟩
 ·rw[z2D _ _ (by simp[e])];simp
 ·rw[q7K q z x y e]at hu;rw[Nat.zero_add];exact hc j u hu
 ·by_cases s:i<q.length
  ·rw[List.getElem?_append_left s]at d;rw[List.getElem?_append_left (by omega)]at c
   have:=n i a b d c;exact⟨(this.1.mono k).over hb,(this.2.mono k).over hb⟩
  ·rw[List.getElem?_append_right (by omega)]at d c
   have t:=(List.getElem?_eq_some_iff.1 d).1;have m:i - q.length=0:=by simpa using t
   rw[m]at d;rw[e,m]at c;cases d;cases c;exact o
theorem y1k(w:World)(x:Pkt)(y:Value×Value)(j:Nat)(v:Value)(a:(pkL x y)[j]?=some v):(w.alloc (J5 #[J I x.k,J I x.i,J I x.v,J I x.n,y.1,y.2] 68)).drew.cell? ⟨w.heap.size,j,none⟩=some v:=by
 have h:=((CAt.new 68 w #[J I x.k,J I x.i,J I x.v,J I x.n,y.1,y.2]).over (Below.refl _ _).drew).cell j;rw[h]
 simpa [pkL] using a
attribute [local go_sem ↓] z2f z1J
theorem q9f(c:Cs)(v:CsV)(P:Nat->Prop)(w:World)(s:ByteArray)(hp:CIn P w c v)(hs:s.size<=maxLen)(a7:c.pd.length * 80<=140737488351232) :
  Calls prog 127 #[J4 (csC c v),.string s] w (j8E P w (z3c c (Cd.bs s))):=by
 have hD:z3c c (Cd.bs s)=if z5t c=0 then if Cd.z4x (Cd.bs s)=0 then if (z0X (Cd.bs s)).k=1 then ({ c with pd:=c.pd ++ [z0X (Cd.bs s)] },0) else (c,3) else (c,Cd.z4x (Cd.bs s)) else (c,z5t c):=by unfold z3c;rfl
 have a8:z0X (Cd.bs s)=⟨(Cd.z2w (Cd.bs s)).1,(Cd.z2w (Cd.bs s)).2.1,(Cd.z2w (Cd.bs s)).2.2.1,(Cd.z2w (Cd.bs s)).2.2.2.1,(Cd.z2w (Cd.bs s)).2.2.2.2.1,(Cd.z2w (Cd.bs s)).2.2.2.2.2⟩:=by unfold z0X;rfl
 rw[a8]at hD;have U:=J6 (fun (T:World)=>Cd.z6X s T hs);have V:=J6 a7;clear hs a7;have W:Hid (Cd.z4x (Cd.bs s)=0->Cd.z0n (Cd.z2w (Cd.bs s)).1 (Cd.z2w (Cd.bs s)).2.1 (Cd.z2w (Cd.bs s)).2.2.1 (Cd.z2w (Cd.bs s)).2.2.2.1 (Cd.z2w (Cd.bs s)).2.2.2.2.1 (Cd.z2w (Cd.bs s)).2.2.2.2.2=0):=fun h=>(Cd.q2b (Cd.q0l s) h).1;clear a8;generalize z3c c (Cd.bs s)=D at *;generalize Cd.z4x (Cd.bs s)=E at *;generalize Cd.z2w (Cd.bs s)=R at *;obtain⟨k,i,x,A,S,m⟩:=R;dsimp only at hD U W;have HD:=J6 hD;clear hD;have HB:=J6 (y1u hp);have a9:=J6 (fun (T:World) (h:q2t P w T c v)=>z4G w.heap.size c v P T h.C0 h.I0);have HP:=J6 hp;clear hp;generalize z5t c=RC at *
 go_enter func127,ntmps127
 go_upto_region 1 with fail
 change Code.wp prog _ _ _ ((w.alloc (J5 (csC c v) 75)).alloc (J5 Z22 75));generalize (w.alloc (J5 (csC c v) 75)).alloc (J5 Z22 75)=w0 at *
 by_cases X:RC=0
 rotate_left
 ·have HR:=J6 (HD.out.trans (if_neg X));have c7:(RC != 0)=true:=by simpa using X
  go_upto_region 3 with (go_at_call 119;refine (a9.out _ HB.out).mono ?_;rintro e w1⟨rfl,B⟩;have n:=J6 (HB.out.over B);clear B;obtain⟨l1,s1⟩:=n.out.facts)
  go_wp2;exact n.out.z0M results127 _ _ HR.out _ rfl rfl rfl
 subst X;have HR:=J6 (HD.out.trans (if_pos rfl));clear HD
 go_upto_region 5 with (first
  | (go_at_call 119;refine (a9.out _ HB.out).mono ?_;rintro e w1⟨rfl,B⟩;have n:=J6 (HB.out.over B);clear B)
  | (go_at_call 16;refine (U.out _).mono ?_;rintro e q⟨sa,da,cs,cd,sb,so,db,dO,rfl,hL,F,Y⟩))
 have bA:Bl q (q.alloc (J5 #[.int .i64 k,.int .i64 i,.int .i64 x,.int .i64 A,J1 sa S.length cs,J1 da m.length cd] 68)):=znw q _;have d:=J6 ((n.out.over Y).over bA);have M:=CAt.new 68 q #[.int .i64 k,.int .i64 i,.int .i64 x,.int .i64 A,J1 sa S.length cs,J1 da m.length cd];have c8:w.heap.size+1<q.heap.size:=(n.out.over Y).R0.lt;have c9:w.heap.size+2<=w1.heap.size:=n.out.R0.lt;have N:=hL.later bA;clear Y hL U bA;generalize q.alloc (J5 #[.int .i64 k,.int .i64 i,.int .i64 x,.int .i64 A,J1 sa S.length cs,J1 da m.length cd] 68)=w3 at *;have d0:q.heap.size<w3.heap.size:=M.lt
 by_cases hE:E=0
 rotate_left
 ·replace HR:=J6 (HR.out.trans (if_neg hE));have d1:(E != 0)=true:=by simpa using hE
  obtain⟨l3,s3⟩:=d.out.facts;clear M N F;go_wp2;exact d.out.z0M results127 _ _ HR.out _ rfl rfl rfl
 subst hE;replace HR:=J6 (HR.out.trans (if_pos rfl));have G:=j0q (W.out rfl);have k0:w3.cell? ⟨q.heap.size,0,none⟩=some (.int .i64 k):=M.cell 0
 by_cases hk:k=1
 rotate_left
 ·replace HR:=J6 (HR.out.trans (if_neg hk));have d2:(k != 1)=true:=by simpa using hk
  obtain⟨l3,s3⟩:=d.out.facts;clear M N F;go_wp2;exact d.out.z0M results127 _ _ HR.out _ rfl rfl rfl
 subst hk;replace HR:=J6 (HR.out.trans (if_pos rfl));have b4:=J6 (j3I N F.1 F.2 G.1 G.2);obtain⟨z,Z,H,b5⟩:=HP.out.pd;obtain⟨Aq,Cq,eq,-,b6,-,-⟩:=H.open (z2D _ _ Z) (by decide)
 have a0:=(H.room eq).1
 have b7:Hid (∀ T,Bl w T->Rep P T (J1 Aq c.pd.length c.pd.length) 6 40 (pdL c.pd z)):=fun T hb=>by
  rw[eq]at H;exact (H.over hb).clip
 have a1:=J6 (show _/\_ from⟨Z,b5⟩);have b8:Aq=none->c.pd.length=0:=fun h=>(b6 h).1;have a2:(c.pd.length:Int)<4611686018427387904:=by have:=V.out;omega
 have a6:w3.cell? ⟨w.heap.size,6,none⟩=some (J1 Aq c.pd.length Cq):=by rw[<- eq];exact d.out.C0.cell 6
 have k1:w3.cell? ⟨q.heap.size,1,none⟩=some (.int .i64 i):=M.cell 1;have k2:w3.cell? ⟨q.heap.size,2,none⟩=some (.int .i64 x):=M.cell 2;have k3:w3.cell? ⟨q.heap.size,3,none⟩=some (.int .i64 A):=M.cell 3;have k4:w3.cell? ⟨q.heap.size,4,none⟩=some (J1 sa S.length cs):=M.cell 4;have k5:w3.cell? ⟨q.heap.size,5,none⟩=some (J1 da m.length cd):=M.cell 5;have d3:w.heap.size<w3.heap.size:=d.out.C0.lt;clear Z H b5 b6 M F W N G
 go_upto_region 9 with fail
 go_region_law (first
  | (refine Cd.z0H rfl ?_;go_simp;go_at_call 163;refine (q7F Aq c.pd.length Cq a0 b8 a2 _).mono ?_;rintro e we⟨rfl,rfl⟩)
  | (refine j4k rfl rfl _ _ rfl Aq c.pd.length _ 40 (pdL c.pd z) (pkL ⟨1,i,x,A,S,m⟩ (J1 sa S.length cs,J1 da m.length cd)) rfl rfl (b7.out _ (by exact (d.out.B0.alloc d.out.B0.size _).drew)) V.out rfl (fun j v hj=>y1k w3 ⟨1,i,x,A,S,m⟩ (J1 sa S.length cs,J1 da m.length cd) j v hj) ?_;intro g C w9 K L f r l;have C9:=((d.out.C0.alloc (J5 #[.int .i64 1,.int .i64 i,.int .i64 x,.int .i64 A,J1 sa S.length cs,J1 da m.length cd] 68)).over (Below.refl _ _).drew).over r;have z6:w9.cell? ⟨w.heap.size,6,none⟩=some v.pd:=C9.cell 6;have f6:=C9.free 6;have c5:=C9.lt;have HX:=J6 (show _/\_/\_/\_/\_ from⟨K,L,f,r,l⟩);have b9:=J6 C9;clear C9 K L f r l))
 all_goals
  obtain⟨K,L,f,r,l⟩:=HX.out;have c6:g=w3.heap.size+1:=by rw[K];show (w3.alloc _).heap.size=_;simp
  have bX:Bl w3 (w3.alloc (J5 #[.int .i64 1,.int .i64 i,.int .i64 x,.int .i64 A,J1 sa S.length cs,J1 da m.length cd] 68)).drew:=(znw w3 _).drew;have bY:=zbt bX r;have c4:=b9.out.set 6 (J1 (some ⟨g,0,none⟩) (c.pd.length+1) C);have a3:=(d.out.R0.over bY).other (c:=w.heap.size) (o:=6) (by omega) (J1 (some ⟨g,0,none⟩) (c.pd.length+1) C)
  have B9:=zbt d.out.B0 bY;have Q:=B9.setCell (p:=⟨w.heap.size,6,none⟩) (Nat.le_refl _) (J1 (some ⟨g,0,none⟩) (c.pd.length+1) C)
  have key:∀ {u:Value} {s t:Nat} {cs':List Value},Rep (fun b=>w1.heap.size<=b) w3 u s t cs'->Rep (New P w 2) (w9.setCell ⟨w.heap.size,6,none⟩ (J1 (some ⟨g,0,none⟩) (c.pd.length+1) C)) u s t cs':=fun hr=>by
   have h1:Rep (New P w 2) w3 _ _ _ _:=hr.mono fun b _ hb=>.inr (by omega)
   exact (h1.over bY).keep fun b hb _=>Below.heap_setCell w9 ⟨w.heap.size,6,none⟩ _ b (show b≠w.heap.size from fun e=>z7e P w (by rw[<- e];exact hb))
  have a4:CIn (New P w 2) (w9.setCell ⟨w.heap.size,6,none⟩ (J1 (some ⟨g,0,none⟩) (c.pd.length+1) C)) { c with pd:=c.pd ++ [⟨1,i,x,A,S,m⟩] } { v with pd:=J1 (some ⟨g,0,none⟩) (c.pd.length+1) C }:=by
   have n9:=HP.out.z2X Q 2;refine⟨n9.set,z7Z.app (P:=P) (w:=w) (y:=(J1 sa S.length cs,J1 da m.length cd)) a1.out.1 a1.out.2 (fun b hb hp=>.inl ⟨hp,hb⟩) Q ⟨key b4.out.1,key b4.out.2⟩ V.out L (.inr (by omega)) (by simpa [World.setCell] using l) (fun j u hu=>?_),n9.rp,n9.said,n9.due⟩
   rw[World.cell?_of_block (w:=w9) (a:=⟨g,j,none⟩) (Below.heap_setCell w9 ⟨w.heap.size,6,none⟩ _ g (by show g≠w.heap.size;omega))]
   exact f j u hu
  have a5:=z2p a4;have l10:=z3n c4 (by simp[z0r])
  rw[j4t c v (c.pd ++ [⟨1,i,x,A,S,m⟩])]at l10;have d4:=z2v a3 z0C (z0r { c with pd:=c.pd ++ [⟨1,i,x,A,S,m⟩] } { v with pd:=J1 (some ⟨g,0,none⟩) (c.pd.length+1) C }) a5
  have HZ:=J6 (show _/\_/\_ from⟨a3,Q,a4⟩);clear c4 a3 Q B9 a4 bX bY f r l L c6 K HX b9 b7 a1 z6 f6 c5 key;generalize w9.setCell ⟨w.heap.size,6,none⟩ (J1 (some ⟨g,0,none⟩) (c.pd.length+1) C)=w10 at *;simp only[Exit.then];apply_assumption;go_wp2;exact z6w results127 HZ.out.1 z0C HZ.out.2.1 _ _ 0 D HR.out HZ.out.2.2 _ rfl rfl rfl
end Kc
end Go.Proofs.YtddlhnoedldidaaGreat
