/- Parts of the proof. -/
import Derived.Test.YtjghbciepinofaaGreatPL
import Derived.Test.YtjghbciepinofaaGreatPK24
set_option maxRecDepth 100000
set_option maxHeartbeats 16000000
namespace Go.Proofs.YtjghbciepinofaaGreat
open Go.Proofs.Tryz
open Value renaming int->J,slice->J1,pointer->J2,bool->J3,agg->J4
open IntKind renaming i64->I
open Obj renaming cells->J5
section
open Go.RowKit
theorem z3y{f:Func}{p:Tmp}(a:f.results=#[.cell p 32]){g:Nat}{wq:World}{c:Array Value}(R:SAt wq g c)(d:c.size=63)(s':St)(b:Value)(Q:Ending->World->Prop)(e:Q (.returned (J4 (stC s' b))) (wq.setCells g 0 (stC s' b).toList))(act:Act)
  (h:act.tmps.getD p undef=J2 (some ⟨g,0,none⟩)) (hd:act.defers=[]) :
  bodyPost prog f Q Exit.ret act (wq.setCells g 0 (stC s' b).toList):=by
 have i:=R.z0C (ds:=stC s' b) (by rw[d];rfl)
 refine bodyPost_ret (v:=J4 (stC s' b)) ?_ hd e;exact results_cell_row a _ _ _ _ _ _ _ h i underlying32 rfl (by rw[z0l];rfl)
structure RRl(s:St)(F:Wt->Wt)(B:Nat)(w:World)(A:Option Addr)(C k:Nat)(wl:World):Prop where
 own:z1k B wl A C ((s.W.take k).map F ++ s.W.drop k)
 S:SAt wl w.heap.size (stC s (J1 A s.W.length C))
 R:SAt wl (w.heap.size+1) Z63
 below:Bl w wl
theorem q0L(s:St)(ao:Option Addr)(sb so c:Nat)(h:Int)(w:World)(M:z1R w ao sb so s.W)(a0:s.W.length * 64<=140737488351232) :
  Calls prog 110 #[J4 (stC s (J1 ao s.W.length c)),J I 0,J I h] w fun e w'=>∃ A C,e=.returned (J4 (stC s (J1 A s.W.length C)))/\z1k w.heap.size w' A C (z5g 0 h s.W)/\Bl w w':=by
 have y:=(SAt.new w (stC s (J1 ao s.W.length c))).alloc (J5 Z63 32);have z:=SAt.new2 w (J5 (stC s (J1 ao s.W.length c)) 32) Z63;have D:Hid (Bl w ((w.alloc (J5 (stC s (J1 ao s.W.length c)) 32)).alloc (J5 Z63 32))):=(znw w _).alloc (by simp) _
 have HW:=J6 M;clear M
 go_enter func110,ntmps110
 go_upto_region 1 with fail
 change Code.wp prog _ _ _ ((w.alloc (J5 (stC s (J1 ao s.W.length c)) 32)).alloc (J5 Z63 32));generalize (w.alloc (J5 (stC s (J1 ao s.W.length c)) 32)).alloc (J5 Z63 32)=w0 at *;have a1:w.heap.size+1<w0.heap.size:=z.lt;have N:w.heap.size<w0.heap.size:=by omega
 have f:=(z0g y).2.2.2.2.2.2.2.1;have P:=z5O ao s.W c sb so w0 (HW.out.over D.out)
 go_upto_region 4 with (go_at_call 146;refine P.mono ?_;rintro e w1⟨A,C,rfl,j,h1⟩;have l:=y.later h1 y.lt;have Q:=z.later h1 z.lt;have m:=J6 (D.out.trans (h1.mono (by omega)));have d:=J6 j;have E:=l.free 61;have a2:=l.lt;clear f;have f:=(z0g l).2.2.2.2.2.2.2.1;clear h1 j)
 have n:=l.set 61 (J1 A s.W.length C);rw[z6G]at n;have a:=(But.refl w.heap.size w1).set 61 (J1 A s.W.length C);have T:=a.z0I (by omega) Q
 have o:Hid (z1k w0.heap.size (w1.setCell ⟨w.heap.size,61,none⟩ (J1 A s.W.length C)) A C s.W):=z0n d.out fun k B=>a.block _ (by have:=(World.ownsRow.lt d.out k B).1;omega)
 have p:=J6 (m.out.trans (a.below (Nat.le_refl _)));generalize w1.setCell ⟨w.heap.size,61,none⟩ (J1 A s.W.length C)=w2 at *;clear f E l Q d m a y z D P;have f:=(z0g n).2.2.2.2.2.2.2.1;have a3:w.heap.size<w2.heap.size:=n.lt;have q:Hid (RRl s (z2c 0 h) w0.heap.size w A C 0 w2):=⟨o.out,n,T,p.out⟩;clear n T o p
 go_upto_region 5 with fail
 go_loopw [23] (fun i wl=>∃ (k:Nat),k<=s.W.length/\i=J I (k:Int)/\Hid (RRl s (z2c 0 h) w0.heap.size w A C k wl)) (fun i _=>s.W.length - (intOf i).toNat)
 case atStart=>exact⟨0,Nat.zero_le _,rfl,q⟩
 case round =>
  obtain⟨k,B,rfl,b⟩:=hrel;clear q f;have a4:=b.out.S.lt
  by_cases F:k<s.W.length
  ·obtain⟨x,U,_⟩:=drop_at F;obtain⟨V,G,e3⟩:=z5e (z2c 0 h) U;obtain⟨g,rfl,a5,a6,r⟩:=b.out.own.holds (by omega)
   obtain⟨c6,c7,f6,f7⟩:=r k x G;have t:=b.out.own.cap;rw[e3]at t;have f:=(z0g b.out.S).2.2.2.2.2.2.2.1;have u:=J6 V;have v:=J6 G;clear r V G U
   by_cases X:x.h0<=h
   ·have H:Hid (z2c 0 h x={ x with h0:=0 }):=by show _=_;unfold z2c;simp[X]
    go_wp2;refine⟨⟨k+1,by omega,by go_num,?_⟩,by simp[intOf];omega⟩
    have a:=(But.refl g wr).set (k * 8+6) (J I 0);exact⟨by rw[u.out,H.out];exact b.out.own.put v.out _ 6 _ (by omega) rfl,a.z0I (by omega) b.out.S,a.z0I (by omega) b.out.R,b.out.below.trans (a.below (by omega))⟩
   ·have H:Hid (z2c 0 h x=x):=by show _=_;unfold z2c;simp[X]
    have K:Hid (RRl s (z2c 0 h) w0.heap.size w (some ⟨g,0,none⟩) C (k+1) wr):=⟨by rw[u.out,H.out,z1U v.out];exact b.out.own,b.out.S,b.out.R,b.out.below⟩
    go_wp2;exact⟨⟨k+1,by omega,by go_num,K⟩,by simp[intOf];omega⟩
  ·obtain rfl:k=s.W.length:=by omega
   have j:=b.out.own;rw[List.take_length,List.drop_length,List.append_nil]at j;have Y:=J6 j;have S3:=b.out.S;have Z:=b.out.R;have L:=J6 b.out.below;clear j b
   go_upto_region 11 with fail
   apply wp_region_lit;refine wpList_load_mid rfl 32 _ rfl _ 0 rfl _ _ S3.range underlying32 rfl (by rw[z0l];rfl) ?_
   refine wpList_store_mid rfl 32 _ _ rfl _ 0 (stC s (J1 A s.W.length C)) rfl rfl (Z.there 0 _ (by rw[z0p,z0d];omega)) (by rw[z0l];rfl) (z0q _ _ _ _) ?_
   go_wp2;exact z3y results110 Z rfl s _ _ ⟨A,C,rfl,z0U (z0n Y.out fun k' B=>z0f (by have:=(World.ownsRow.lt Y.out k' B).1;omega) _ _ _) (by omega),z0b (by omega) _ _ _ L.out⟩ _ rfl rfl
theorem q1g(s:St)(ao:Option Addr)(sb so c:Nat)(h:Int)(w:World)(M:z1R w ao sb so s.W)(a0:s.W.length * 64<=140737488351232) :
  Calls prog 110 #[J4 (stC s (J1 ao s.W.length c)),J I 1,J I h] w fun e w'=>∃ A C,e=.returned (J4 (stC s (J1 A s.W.length C)))/\z1k w.heap.size w' A C (z5g 1 h s.W)/\Bl w w':=by
 have y:=(SAt.new w (stC s (J1 ao s.W.length c))).alloc (J5 Z63 32);have z:=SAt.new2 w (J5 (stC s (J1 ao s.W.length c)) 32) Z63;have D:Hid (Bl w ((w.alloc (J5 (stC s (J1 ao s.W.length c)) 32)).alloc (J5 Z63 32))):=(znw w _).alloc (by simp) _
 have HW:=J6 M;clear M
 go_enter func110,ntmps110
 go_upto_region 1 with fail
 change Code.wp prog _ _ _ ((w.alloc (J5 (stC s (J1 ao s.W.length c)) 32)).alloc (J5 Z63 32));generalize (w.alloc (J5 (stC s (J1 ao s.W.length c)) 32)).alloc (J5 Z63 32)=w0 at *;have a1:w.heap.size+1<w0.heap.size:=z.lt;have N:w.heap.size<w0.heap.size:=by omega
 have f:=(z0g y).2.2.2.2.2.2.2.1;have P:=z5O ao s.W c sb so w0 (HW.out.over D.out)
 go_upto_region 4 with (go_at_call 146;refine P.mono ?_;rintro e w1⟨A,C,rfl,j,h1⟩;have l:=y.later h1 y.lt;have Q:=z.later h1 z.lt;have m:=J6 (D.out.trans (h1.mono (by omega)));have d:=J6 j;have E:=l.free 61;have a2:=l.lt;clear f;have f:=(z0g l).2.2.2.2.2.2.2.1;clear h1 j)
 have n:=l.set 61 (J1 A s.W.length C);rw[z6G]at n;have a:=(But.refl w.heap.size w1).set 61 (J1 A s.W.length C);have T:=a.z0I (by omega) Q
 have o:Hid (z1k w0.heap.size (w1.setCell ⟨w.heap.size,61,none⟩ (J1 A s.W.length C)) A C s.W):=z0n d.out fun k B=>a.block _ (by have:=(World.ownsRow.lt d.out k B).1;omega)
 have p:=J6 (m.out.trans (a.below (Nat.le_refl _)));generalize w1.setCell ⟨w.heap.size,61,none⟩ (J1 A s.W.length C)=w2 at *;clear f E l Q d m a y z D P;have f:=(z0g n).2.2.2.2.2.2.2.1;have a3:w.heap.size<w2.heap.size:=n.lt;have q:Hid (RRl s (z2c 1 h) w0.heap.size w A C 0 w2):=⟨o.out,n,T,p.out⟩;clear n T o p
 go_upto_region 5 with fail
 go_loopw [23] (fun i wl=>∃ (k:Nat),k<=s.W.length/\i=J I (k:Int)/\Hid (RRl s (z2c 1 h) w0.heap.size w A C k wl)) (fun i _=>s.W.length - (intOf i).toNat)
 case atStart=>exact⟨0,Nat.zero_le _,rfl,q⟩
 case round =>
  obtain⟨k,B,rfl,b⟩:=hrel;clear q f;have a4:=b.out.S.lt
  by_cases F:k<s.W.length
  ·obtain⟨x,U,_⟩:=drop_at F;obtain⟨V,G,e3⟩:=z5e (z2c 1 h) U;obtain⟨g,rfl,a5,a6,r⟩:=b.out.own.holds (by omega)
   obtain⟨c6,c7,f6,f7⟩:=r k x G;have t:=b.out.own.cap;rw[e3]at t;have f:=(z0g b.out.S).2.2.2.2.2.2.2.1;have u:=J6 V;have v:=J6 G;clear r V G U
   by_cases X:x.h1<=h
   ·have H:Hid (z2c 1 h x={ x with h1:=0 }):=by show _=_;unfold z2c;simp[X]
    go_wp2;refine⟨⟨k+1,by omega,by go_num,?_⟩,by simp[intOf];omega⟩
    have a:=(But.refl g wr).set (k * 8+7) (J I 0);exact⟨by rw[u.out,H.out];exact b.out.own.put v.out _ 7 _ (by omega) rfl,a.z0I (by omega) b.out.S,a.z0I (by omega) b.out.R,b.out.below.trans (a.below (by omega))⟩
   ·have H:Hid (z2c 1 h x=x):=by show _=_;unfold z2c;simp[X]
    have K:Hid (RRl s (z2c 1 h) w0.heap.size w (some ⟨g,0,none⟩) C (k+1) wr):=⟨by rw[u.out,H.out,z1U v.out];exact b.out.own,b.out.S,b.out.R,b.out.below⟩
    go_wp2;exact⟨⟨k+1,by omega,by go_num,K⟩,by simp[intOf];omega⟩
  ·obtain rfl:k=s.W.length:=by omega
   have j:=b.out.own;rw[List.take_length,List.drop_length,List.append_nil]at j;have Y:=J6 j;have S3:=b.out.S;have Z:=b.out.R;have L:=J6 b.out.below;clear j b
   go_upto_region 11 with fail
   apply wp_region_lit;refine wpList_load_mid rfl 32 _ rfl _ 0 rfl _ _ S3.range underlying32 rfl (by rw[z0l];rfl) ?_
   refine wpList_store_mid rfl 32 _ _ rfl _ 0 (stC s (J1 A s.W.length C)) rfl rfl (Z.there 0 _ (by rw[z0p,z0d];omega)) (by rw[z0l];rfl) (z0q _ _ _ _) ?_
   go_wp2;exact z3y results110 Z rfl s _ _ ⟨A,C,rfl,z0U (z0n Y.out fun k' B=>z0f (by have:=(World.ownsRow.lt Y.out k' B).1;omega) _ _ _) (by omega),z0b (by omega) _ _ _ L.out⟩ _ rfl rfl
end
namespace Df
open Go.RowKit
theorem q5M{w:World}{B b:Nat}{v:Value}{l:List Pw}(h:z3w w B v l)(c:b<=B):z3w w b v l:=by
 refine⟨h.1,?_⟩
 rcases h.2 with d | ⟨g,cap,a,e,h2,h3⟩
 ·exact .inl d
 ·exact .inr ⟨g,cap,a,e,Nat.le_trans c h2,h3⟩
theorem ix0(c0 c1 c2 c3 a b:Value)(w:World):(Instr.index 28 (J4 #[c0,c1,c2,c3,a,b]) (J I 0)).run prog w=.ok c0 w:=by kernel_rfl
theorem ix1(c0 c1 c2 c3 a b:Value)(w:World):(Instr.index 28 (J4 #[c0,c1,c2,c3,a,b]) (J I 1)).run prog w=.ok c1 w:=by kernel_rfl
theorem ix2(c0 c1 c2 c3 a b:Value)(w:World):(Instr.index 28 (J4 #[c0,c1,c2,c3,a,b]) (J I 2)).run prog w=.ok c2 w:=by kernel_rfl
theorem ix3(c0 c1 c2 c3 a b:Value)(w:World):(Instr.index 28 (J4 #[c0,c1,c2,c3,a,b]) (J I 3)).run prog w=.ok c3 w:=by kernel_rfl
theorem ix4(c0 c1 c2 c3 a b:Value)(w:World):(Instr.index 28 (J4 #[c0,c1,c2,c3,a,b]) (J I 4)).run prog w=.ok a w:=by kernel_rfl
theorem ix5(c0 c1 c2 c3 b a:Value)(w:World):(Instr.index 28 (J4 #[c0,c1,c2,c3,b,a]) (J I 5)).run prog w=.ok a w:=by kernel_rfl
theorem j0f(P:Nat->Int){k:Nat}(a:k<6)(w:World):(Instr.index 28 (J4 #[J I (P 0),J I (P 1),J I (P 2),J I (P 3),J I (P 4),J I (P 5)]) (J I (k:Int))).run prog w=.ok (J I (P k)) w:=by
 rcases (show k=0∨k=1∨k=2∨k=3∨k=4∨k=5 by omega) with rfl | rfl | rfl | rfl | rfl | rfl
 ·exact ix0 _ _ _ _ _ _ w
 ·exact ix1 _ _ _ _ _ _ w
 ·exact ix2 _ _ _ _ _ _ w
 ·exact ix3 _ _ _ _ _ _ w
 ·exact ix4 _ _ _ _ _ _ w
 ·exact ix5 _ _ _ _ _ _ w
theorem q4R(a b:List Pw)(ao bo:Option Addr)(G H K n bb o:Nat)(w:World)(y:PIn w a ao K n)(x:PIn w b bo bb o) :
  Calls prog 71 #[J1 ao a.length G,J1 bo b.length H] w fun e w'=>∃ v,e=.returned v/\z3w w' w.heap.size v (z2x a b)/\Below w.heap.size w w':=by
 obtain⟨S,T,z,A,B⟩:=info_parts z9H;have U:=J6 y;have d:=J6 x;have p:=J6 (z7O a ao G K n w y);have q:=J6 (fun w h=>z7O b bo H bb o w h);unfold z2x;generalize z0i a=P at *;generalize z0i b=R at *;clear y x
 go_enter func71,ntmps71
 go_upto_region 3 with (first
  | (go_at_call 115;have _m:=V;refine (q.out _ (d.out.over f.out)).mono ?_;rintro e g⟨rfl,r⟩;have c:=J6 (zbt f.out r);clear r)
  | (go_at_call 115;refine p.out.mono ?_;rintro e w1⟨rfl,s⟩;have f:=J6 s;have V:True:=trivial;clear s))
 have C:=(QAt.new g P).alloc (J5 #[J I (R 0),J I (R 1),J I (R 2),J I (R 3),J I (R 4),J I (R 5)] 28);have D:=QAt.new (g.alloc (J5 #[J I (P 0),J I (P 1),J I (P 2),J I (P 3),J I (P 4),J I (P 5)] 28)) R;rw[show (g.alloc (J5 #[J I (P 0),J I (P 1),J I (P 2),J I (P 3),J I (P 4),J I (P 5)] 28)).heap.size=g.heap.size+1 by simp]at D
 have L:=(c.out.alloc c.out.size (J5 #[J I (P 0),J I (P 1),J I (P 2),J I (P 3),J I (P 4),J I (P 5)] 28)).alloc (Nat.le_trans c.out.size (by simp)) (J5 #[J I (R 0),J I (R 1),J I (R 2),J I (R 3),J I (R 4),J I (R 5)] 28)
 have W:w.heap.size<=g.heap.size:=c.out.size;clear p q U d f c;generalize g.heap.size=b6 at *;generalize (g.alloc (J5 #[J I (P 0),J I (P 1),J I (P 2),J I (P 3),J I (P 4),J I (P 5)] 28)).alloc (J5 #[J I (R 0),J I (R 1),J I (R 2),J I (R 3),J I (R 4),J I (R 5)] 28)=w3 at *;obtain⟨⟨c0,c1,c2,c3,X,Y⟩,-⟩:=D.facts;have Z:b6<w3.heap.size:=C.lt;have E:=J6 (And.intro C L);clear C D L
 go_upto_region 4 with fail
 clear c0 c1 c2 c3 X Y
 go_loopw [5,15] (fun v i wl=>∃ k:Nat,k<=6/\i=J I (k:Int)/\z3w wl w3.heap.size v (those (fun v=>decide (R v≠P v)) R k)/\Hid (Below w3.heap.size w3 wl)) (fun _ i _=>(6 - intOf i).toNat)
 case atStart=>exact⟨0,by omega,rfl,z3w.nil _ _,Below.refl _ _⟩
 case round =>
  obtain⟨k,hk,rfl,hown,d⟩:=hrel;have F:w3.heap.size<=wr.heap.size:=d.out.size
  by_cases t:k<6
  ·have a0:(k:Int)<6:=by omega
   have a1:=fun w=>j0f R t w;have cP:=(E.out.1.later d.out Z).one t;have M:=J6 (z1j (fun v=>decide (R v≠P v)) R k);have N:=z1W (fun v=>decide (R v≠P v)) R k;generalize R k=rk at *;generalize P k=pk at *
   by_cases j:rk=pk
   ·subst j;go_wp2;exact⟨⟨k+1,by omega,by go_num,by rw[M.out,if_neg (by simp)];exact hown,d.out⟩,by simp[intOf];omega⟩
   ·have Q:(rk != pk)=true:=by simpa using j
    go_wp2_with (at_builtin;refine wpList_append_own_at _ rfl _ _ 33 rfl w3.heap.size 74 S (J4 #[J I 0,J I 0]) 2 16 underlying33 T z A B rfl (by decide) _ _ _ rfl (World.ownsRow.alloc hown _) ⟨wr.heap.size,0,none⟩ 1 1 [J I (k:Int),J I rk] rfl rfl (z7h _ _ _ _) (by intro u hu;simp at hu;rcases hu with rfl | rfl <;> rfl) (by unfold maxLen;omega) (by omega) (by simp;omega) ?_;intro v' w1 l m _ a2)
    have x:Below w3.heap.size w3 w1:=z3w.grow hown d.out m (Nat.le_refl _) F;refine⟨⟨k+1,by omega,by go_num,?_,x⟩,by simp[intOf];omega⟩
    rw[M.out,if_pos (by simpa using j)]
    exact z3w.append l rfl
  ·obtain rfl:k=6:=by omega
   go_wp2;go_ret;exact⟨_,rfl,q5M hown (by have:=E.out.2.size;omega),zbt E.out.2 d.out⟩
theorem q8d(l:List Pw)(ao:Option Addr)(c b off:Nat)(w:World)(hl:PIn w l ao b off) :
  Calls prog 29 #[J1 ao l.length c] w fun e w'=>e=.returned (J I (z6c l))/\Below w.heap.size w w':=by
 have o:=hl.len;have p:=J6 hl;clear hl
 go_enter func29,ntmps29
 go_upto_region 3 with fail
 go_loopw [3,8] (fun s i wl=>∃ k:Nat,k<=l.length/\i=J I (k:Int)/\s=J I (z6c (l.take k))/\Hid (Below w.heap.size w wl)) (fun _ i _=>l.length - (intOf i).toNat)
 case atStart=>exact⟨0,Nat.zero_le _,rfl,rfl,Below.refl _ _⟩
 case round =>
  obtain⟨k,u,rfl,rfl,f⟩:=hrel
  by_cases d:k<l.length
  ·have q:(k:Int)<(l.length:Int):=by omega
   obtain⟨c0,c1⟩:=(p.out.over f.out).cells k d;have g:=J6 (z9z l k d);have h:=p.out.adr (by omega)
   subst h;generalize l.getD k (0,0)=x at *;obtain⟨v,n⟩:=x;dsimp only at c0 c1 g;generalize z6c (l.take k)=s0 at *;obtain⟨j,a⟩:∃ j,z6c (l.take (k+1))=j:=⟨_,rfl⟩;rw[a]at g;have m:=J6 a;have r:wrap64 (s0+n)=j:=by rw[g.out];unfold wrap64;rfl
   clear g a;go_wp2;exact⟨⟨k+1,by omega,by go_num,by rw[m.out,r],f.out.alloc f.out.size _⟩,by simp[intOf];omega⟩
  ·obtain rfl:k=l.length:=by omega
   have t:Hid (l.take l.length=l):=List.take_length;go_wp2;go_ret;exact⟨by rw[t.out];rfl,f.out⟩
end Df
end Go.Proofs.YtjghbciepinofaaGreat
