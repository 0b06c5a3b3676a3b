/- Parts of the proof. -/
import Derived.Test.YtjghbciepinofaaGreatPL
import Derived.Test.YtjghbciepinofaaGreatPK27
set_option maxRecDepth 100000
set_option maxHeartbeats 16000000
namespace Go.Proofs.YtjghbciepinofaaGreat
open Go.Proofs.Tryz
open Value renaming int->J,slice->J1,pointer->J2,bool->J3,agg->J4
open IntKind renaming i64->I
open Obj renaming cells->J5
section
open Go.RowKit
theorem z6F(s:St)(v:Int):z1i s 0 v=z4W s v:=by
 unfold z1i
 split
 ·rw[if_pos (by decide)];omega
 ·rfl
theorem z9d(s:St)(ao:Option Addr)(sb so c v:Nat)(w:World)(S:z1R w ao sb so s.W)(hg:z0j s=true)(l:v<6)(hd:(s.V v).dead=false) :
  Calls prog 98 #[J4 (stC s (J1 ao s.W.length c)),J I (v:Int),J I 2] w fun e w'=>∃ A C,e=.returned (.tuple #[J4 (stC (z2V s v true true) (J1 A s.W.length C)),J I 0])/\z1k w.heap.size w' A C s.W/\Bl w w':=by
 have r:=(SAt.new w (stC s (J1 ao s.W.length c))).alloc (J5 Z63 32);have z:=SAt.new2 w (J5 (stC s (J1 ao s.W.length c)) 32) Z63;have B:Hid (Bl w ((w.alloc (J5 (stC s (J1 ao s.W.length c)) 32)).alloc (J5 Z63 32))):=(znw w _).alloc (by simp) _
 have T:=J6 S;have D:=J6 hd;clear hd;have E:=z1X hg l;have a0:(v:Int)<6:=by omega
 have a1:(0:Int)<=(v:Int):=by omega
 have g:=fun w h=>z4Z s ao sb so c 0 v w h;rw[z6F]at g;clear S
 go_enter func98,ntmps98
 go_upto_region 1 with fail
 change Code.wp prog _ _ _ ((w.alloc (J5 (stC s (J1 ao s.W.length c)) 32)).alloc (J5 Z63 32));generalize (w.alloc (J5 (stC s (J1 ao s.W.length c)) 32)).alloc (J5 Z63 32)=w0 at *;apply wp_region_lit;refine wpList_load_mid rfl 32 _ rfl _ 0 rfl _ _ r.range underlying32 rfl (by rw[z0l];rfl) ?_
 go_upto_region 4 with (go_at_call 140;refine (g _ (by exact T.out.over B.out)).mono ?_;rintro e w1⟨rfl,h1⟩)
 have m:=J6 (zbt B.out h1);have F:=r.later h1 r.lt;have G:=z.later h1 z.lt;have a2:w.heap.size+1<w1.heap.size:=G.lt;obtain⟨c0,c1,c2,c3,U⟩:=F.val v l;clear r z h1 B g E
 go_upto_region 5 with fail
 have t:VAt (w1.alloc (J5 #[J I (s.V v).tok,J I (s.V v).sh,J I (s.V v).lost,J3 (s.V v).jail,J3 (s.V v).dead] 26)) w1.heap.size (s.V v):=heap_alloc_new _ _;have u:=F.alloc (J5 #[J I (s.V v).tok,J I (s.V v).sh,J I (s.V v).lost,J3 (s.V v).jail,J3 (s.V v).dead] 26);have x:=G.alloc (J5 #[J I (s.V v).tok,J I (s.V v).sh,J I (s.V v).lost,J3 (s.V v).jail,J3 (s.V v).dead] 26);have i:=J6 (m.out.alloc (by omega) (J5 #[J I (s.V v).tok,J I (s.V v).sh,J I (s.V v).lost,J3 (s.V v).jail,J3 (s.V v).dead] 26))
 generalize w1.alloc (J5 #[J I (s.V v).tok,J I (s.V v).sh,J I (s.V v).lost,J3 (s.V v).jail,J3 (s.V v).dead] 26)=w2 at *;clear F G m c0 c1 c2 c3 U;have a3:w.heap.size+1<w2.heap.size:=x.lt;have a4:w1.heap.size<w2.heap.size:=t.lt;apply wp_region_lit;refine wpList_load_mid rfl 32 _ rfl _ 0 rfl _ _ u.range underlying32 rfl (by rw[z0l];rfl) ?_
 go_step
 go_step
 refine (z3u s ao sb so c _ (by exact T.out.over i.out)).mono ?_
 rintro e w6⟨A,C,rfl,n,o⟩;dsimp only;have H:=x.later o x.lt;have y:=t.later o t.lt;have X:=u.later o u.lt;have p:=J6 (zbt i.out o);have a5:w.heap.size+1<w6.heap.size:=H.lt;have a6:w1.heap.size<w6.heap.size:=y.lt;have d:=fun k f=>World.ownsRow.lt n k f
 iterate 4 go_step
 refine wpList_store_mid rfl 32 _ _ rfl _ 0 (stC s (J1 A s.W.length C)) rfl rfl ((SAt.new w6 Z63).there 0 _ (by rw[z0p,z0d];omega)) (by rw[z0l];rfl) (z0q _ _ _ _) ?_
 change wpList prog _ _ _ _ ((w6.alloc (J5 Z63 32)).setCells w6.heap.size 0 (stC s (J1 A s.W.length C)).toList);have j:=(SAt.new w6 Z63).z0C (ds:=stC s (J1 A s.W.length C)) rfl;have R7:SAt ((w6.alloc (J5 Z63 32)).setCells w6.heap.size 0 (stC s (J1 A s.W.length C)).toList) (w.heap.size+1) Z63:=(z0f (by omega) _ _ _).trans (H.alloc _)
 have K:SAt ((w6.alloc (J5 Z63 32)).setCells w6.heap.size 0 (stC s (J1 A s.W.length C)).toList) w.heap.size (stC s (J1 ao s.W.length c)):=(z0f (by omega) _ _ _).trans (X.alloc _)
 have Y:VAt ((w6.alloc (J5 Z63 32)).setCells w6.heap.size 0 (stC s (J1 A s.W.length C)).toList) w1.heap.size (s.V v):=(z0f (by omega) _ _ _).trans (y.later (znw w6 _) y.lt)
 have L:=J6 (z0b (b:=w6.heap.size) (by omega) (stC s (J1 A s.W.length C)).toList 0 _ (p.out.alloc (by omega) (J5 Z63 32)))
 have Z:z1k (w2.heap.size+2) ((w6.alloc (J5 Z63 32)).setCells w6.heap.size 0 (stC s (J1 A s.W.length C)).toList) A C s.W:=z0n n fun k f=>(z0f (by have:=(d k f).2;omega) _ _ _).trans (Below.heap_alloc _ _ _ (d k f).2)
 generalize (w6.alloc (J5 Z63 32)).setCells w6.heap.size 0 (stC s (J1 A s.W.length C)).toList=w7 at *;clear u x t H y X i p o;obtain⟨_,_,_,e3,e4⟩:=Y.cells;obtain⟨_,_,_,c3,U⟩:=j.val v l;have f0:=j.free (7+v * 5+3);have f1:=j.free (7+v * 5+4);have a7:w6.heap.size<w7.heap.size:=j.lt;rw[D.out]at e4
 go_upto_region 12 with fail
 have M:=j.set (7+v * 5+3) (J3 true);rw[q4P _ _ v l]at M;have N:=M.set (7+v * 5+4) (J3 true);rw[q8b _ _ v l]at N;have P:=J6 N;have a:=((But.refl w6.heap.size w7).set (7+v * 5+3) (J3 true)).set (7+v * 5+4) (J3 true);have q:=J6 (a.z0I (by omega) R7)
 have Q:=J6 (z0n Z (fun k f=>a.block k (by have:=(d k f).2;omega)))
 have R:=J6 (L.out.trans (a.below (by omega)))
 clear j M N K Y e3 e4 a Z
 go_upto_region 14 with fail
 generalize ((w7.setCell ⟨w6.heap.size,7+v * 5+3,none⟩ (J3 true)).setCell ⟨w6.heap.size,7+v * 5+4,none⟩ (J3 true))=w9 at *;apply wp_region_lit;refine wpList_load_mid rfl 32 _ rfl _ 0 rfl _ _ P.out.range underlying32 rfl (by rw[z0l];rfl) ?_
 refine wpList_store_mid rfl 32 _ _ rfl _ 0 (stC (z2V s v true true) (J1 A s.W.length C)) rfl rfl (q.out.there 0 _ (by rw[z0p,z0d];omega)) (by rw[z0l];rfl) (z0q _ _ _ _) ?_
 go_wp2;have R3:=q.out.z0C (ds:=stC (z2V s v true true) (J1 A s.W.length C)) rfl;exact bodyPost_ret (v:=.tuple #[J4 (stC (z2V s v true true) (J1 A s.W.length C)),J I 0]) (z2D results98 _ _ _ _ _ rfl rfl R3 rfl) rfl ⟨A,C,rfl,Ln.z0U (z0n Q.out fun k f=>z0f (by have:=(d k f).1;omega) _ _ _) (by omega),z0b (Nat.le_succ _) _ _ _ R.out⟩
theorem z9s(s:St)(ao:Option Addr)(sb so c v:Nat)(w:World)(S:z1R w ao sb so s.W)(hg:z0j s=true)(l:v<6)(hd:(s.V v).jail=false) :
  Calls prog 98 #[J4 (stC s (J1 ao s.W.length c)),J I (v:Int),J I 0] w fun e w'=>∃ A C,e=.returned (.tuple #[J4 (stC (z2V s v true false) (J1 A s.W.length C)),J I 0])/\z1k w.heap.size w' A C s.W/\Bl w w':=by
 have r:=(SAt.new w (stC s (J1 ao s.W.length c))).alloc (J5 Z63 32);have z:=SAt.new2 w (J5 (stC s (J1 ao s.W.length c)) 32) Z63;have B:Hid (Bl w ((w.alloc (J5 (stC s (J1 ao s.W.length c)) 32)).alloc (J5 Z63 32))):=(znw w _).alloc (by simp) _
 have T:=J6 S;have D:=J6 hd;clear hd;have E:=z1X hg l;have a0:(v:Int)<6:=by omega
 have a1:(0:Int)<=(v:Int):=by omega
 have g:=fun w h=>z4Z s ao sb so c 0 v w h;rw[z6F]at g;clear S
 go_enter func98,ntmps98
 go_upto_region 1 with fail
 change Code.wp prog _ _ _ ((w.alloc (J5 (stC s (J1 ao s.W.length c)) 32)).alloc (J5 Z63 32));generalize (w.alloc (J5 (stC s (J1 ao s.W.length c)) 32)).alloc (J5 Z63 32)=w0 at *;apply wp_region_lit;refine wpList_load_mid rfl 32 _ rfl _ 0 rfl _ _ r.range underlying32 rfl (by rw[z0l];rfl) ?_
 go_upto_region 4 with (go_at_call 140;refine (g _ (by exact T.out.over B.out)).mono ?_;rintro e w1⟨rfl,h1⟩)
 have m:=J6 (zbt B.out h1);have F:=r.later h1 r.lt;have G:=z.later h1 z.lt;have a2:w.heap.size+1<w1.heap.size:=G.lt;obtain⟨c0,c1,c2,c3,U⟩:=F.val v l;clear r z h1 B g E
 go_upto_region 5 with fail
 have t:VAt (w1.alloc (J5 #[J I (s.V v).tok,J I (s.V v).sh,J I (s.V v).lost,J3 (s.V v).jail,J3 (s.V v).dead] 26)) w1.heap.size (s.V v):=heap_alloc_new _ _;have u:=F.alloc (J5 #[J I (s.V v).tok,J I (s.V v).sh,J I (s.V v).lost,J3 (s.V v).jail,J3 (s.V v).dead] 26);have x:=G.alloc (J5 #[J I (s.V v).tok,J I (s.V v).sh,J I (s.V v).lost,J3 (s.V v).jail,J3 (s.V v).dead] 26);have i:=J6 (m.out.alloc (by omega) (J5 #[J I (s.V v).tok,J I (s.V v).sh,J I (s.V v).lost,J3 (s.V v).jail,J3 (s.V v).dead] 26))
 generalize w1.alloc (J5 #[J I (s.V v).tok,J I (s.V v).sh,J I (s.V v).lost,J3 (s.V v).jail,J3 (s.V v).dead] 26)=w2 at *;clear F G m c0 c1 c2 c3 U;have a3:w.heap.size+1<w2.heap.size:=x.lt;have a4:w1.heap.size<w2.heap.size:=t.lt;apply wp_region_lit;refine wpList_load_mid rfl 32 _ rfl _ 0 rfl _ _ u.range underlying32 rfl (by rw[z0l];rfl) ?_
 go_step
 go_step
 refine (z3u s ao sb so c _ (by exact T.out.over i.out)).mono ?_
 rintro e w6⟨A,C,rfl,n,o⟩;dsimp only;have H:=x.later o x.lt;have y:=t.later o t.lt;have X:=u.later o u.lt;have p:=J6 (zbt i.out o);have a5:w.heap.size+1<w6.heap.size:=H.lt;have a6:w1.heap.size<w6.heap.size:=y.lt;have d:=fun k f=>World.ownsRow.lt n k f
 iterate 4 go_step
 refine wpList_store_mid rfl 32 _ _ rfl _ 0 (stC s (J1 A s.W.length C)) rfl rfl ((SAt.new w6 Z63).there 0 _ (by rw[z0p,z0d];omega)) (by rw[z0l];rfl) (z0q _ _ _ _) ?_
 change wpList prog _ _ _ _ ((w6.alloc (J5 Z63 32)).setCells w6.heap.size 0 (stC s (J1 A s.W.length C)).toList);have j:=(SAt.new w6 Z63).z0C (ds:=stC s (J1 A s.W.length C)) rfl;have R7:SAt ((w6.alloc (J5 Z63 32)).setCells w6.heap.size 0 (stC s (J1 A s.W.length C)).toList) (w.heap.size+1) Z63:=(z0f (by omega) _ _ _).trans (H.alloc _)
 have K:SAt ((w6.alloc (J5 Z63 32)).setCells w6.heap.size 0 (stC s (J1 A s.W.length C)).toList) w.heap.size (stC s (J1 ao s.W.length c)):=(z0f (by omega) _ _ _).trans (X.alloc _)
 have Y:VAt ((w6.alloc (J5 Z63 32)).setCells w6.heap.size 0 (stC s (J1 A s.W.length C)).toList) w1.heap.size (s.V v):=(z0f (by omega) _ _ _).trans (y.later (znw w6 _) y.lt)
 have L:=J6 (z0b (b:=w6.heap.size) (by omega) (stC s (J1 A s.W.length C)).toList 0 _ (p.out.alloc (by omega) (J5 Z63 32)))
 have Z:z1k (w2.heap.size+2) ((w6.alloc (J5 Z63 32)).setCells w6.heap.size 0 (stC s (J1 A s.W.length C)).toList) A C s.W:=z0n n fun k f=>(z0f (by have:=(d k f).2;omega) _ _ _).trans (Below.heap_alloc _ _ _ (d k f).2)
 generalize (w6.alloc (J5 Z63 32)).setCells w6.heap.size 0 (stC s (J1 A s.W.length C)).toList=w7 at *;clear u x t H y X i p o;obtain⟨_,_,_,e3,e4⟩:=Y.cells;obtain⟨_,_,_,c3,U⟩:=j.val v l;have f0:=j.free (7+v * 5+3);have f1:=j.free (7+v * 5+4);have a7:w6.heap.size<w7.heap.size:=j.lt;rw[D.out]at e3
 go_upto_region 12 with fail
 have M:=j.set (7+v * 5+3) (J3 true);rw[q4P _ _ v l]at M;have N:=M.set (7+v * 5+4) (J3 false);rw[q8b _ _ v l]at N;have P:=J6 N;have a:=((But.refl w6.heap.size w7).set (7+v * 5+3) (J3 true)).set (7+v * 5+4) (J3 false);have q:=J6 (a.z0I (by omega) R7)
 have Q:=J6 (z0n Z (fun k f=>a.block k (by have:=(d k f).2;omega)))
 have R:=J6 (L.out.trans (a.below (by omega)))
 clear j M N K Y e3 e4 a Z
 go_upto_region 14 with fail
 generalize ((w7.setCell ⟨w6.heap.size,7+v * 5+3,none⟩ (J3 true)).setCell ⟨w6.heap.size,7+v * 5+4,none⟩ (J3 false))=w9 at *;apply wp_region_lit;refine wpList_load_mid rfl 32 _ rfl _ 0 rfl _ _ P.out.range underlying32 rfl (by rw[z0l];rfl) ?_
 refine wpList_store_mid rfl 32 _ _ rfl _ 0 (stC (z2V s v true false) (J1 A s.W.length C)) rfl rfl (q.out.there 0 _ (by rw[z0p,z0d];omega)) (by rw[z0l];rfl) (z0q _ _ _ _) ?_
 go_wp2;have R3:=q.out.z0C (ds:=stC (z2V s v true false) (J1 A s.W.length C)) rfl;exact bodyPost_ret (v:=.tuple #[J4 (stC (z2V s v true false) (J1 A s.W.length C)),J I 0]) (z2D results98 _ _ _ _ _ rfl rfl R3 rfl) rfl ⟨A,C,rfl,Ln.z0U (z0n Q.out fun k f=>z0f (by have:=(d k f).1;omega) _ _ _) (by omega),z0b (Nat.le_succ _) _ _ _ R.out⟩
theorem q3O(s:St)(v:Int):z1i s 0 v=z4W s v:=by
 unfold z1i
 split
 ·rw[if_pos (by decide)];omega
 ·rfl
theorem z7T(n f:Int)(w:World):Calls prog 141 #[J I n,J I f] w fun e w'=>e=.returned (.tuple #[J I (ptN n f),J I (ptE n f)])/\Bl w w':=Ra.q9H n f w
theorem q8A(s:St)(ao:Option Addr)(sb so c:Nat)(v h f:Int)(w:World)(k:z1R w ao sb so s.W)(h0:z4W s v≠0) :
  Calls prog 97 #[J4 (stC s (J1 ao s.W.length c)),J I v,J I h,J I f] w fun e w'=>e=.returned (.tuple #[J4 (stC s (J1 ao s.W.length c)),J I 0,J I (z4W s v)])/\Bl w w':=by
 have b:=(SAt.new w (stC s (J1 ao s.W.length c))).alloc (J5 Z63 32);have d:=SAt.new2 w (J5 (stC s (J1 ao s.W.length c)) 32) Z63;have g:Hid (Bl w ((w.alloc (J5 (stC s (J1 ao s.W.length c)) 32)).alloc (J5 Z63 32))):=(znw w _).alloc (by simp) _
 have m:=J6 k;have a:=fun w h=>z4Z s ao sb so c 0 v w h;rw[q3O]at a;clear k
 go_enter func97,ntmps97
 go_upto_region 1 with fail
 change Code.wp prog _ _ _ ((w.alloc (J5 (stC s (J1 ao s.W.length c)) 32)).alloc (J5 Z63 32));generalize (w.alloc (J5 (stC s (J1 ao s.W.length c)) 32)).alloc (J5 Z63 32)=w0 at *;apply wp_region_lit;refine wpList_load_mid rfl 32 _ rfl _ 0 rfl _ _ b.range underlying32 rfl (by rw[z0l];rfl) ?_
 go_upto_region 3 with (go_at_call 140;refine (a _ (by exact m.out.over g.out)).mono ?_;rintro e w1⟨rfl,h1⟩)
 have i:=J6 (zbt g.out h1);have n:=b.later h1 b.lt;have j:=d.later h1 d.lt;have o:w.heap.size+1<w1.heap.size:=j.lt;have l:w.heap.size<w1.heap.size:=by omega
 clear b d h1 g a;apply wp_region_lit;refine wpList_load_mid rfl 32 _ rfl _ 0 rfl _ _ n.range underlying32 rfl (by rw[z0l];rfl) ?_
 refine z1O rfl _ rfl ?_;refine wpList_store_mid rfl 32 _ _ rfl _ 0 (stC s (J1 ao s.W.length c)) rfl rfl (j.there 0 _ (by rw[z0p,z0d];omega)) (by rw[z0l];rfl) (z0q _ _ _ _) ?_
 go_wp2;exact z2K results97 j rfl s _ _ _ _ ⟨rfl,z0b (by omega) _ _ _ i.out⟩ _ rfl rfl rfl rfl
structure RSl(s:St)(ao:Option Addr)(c:Nat)(v h f:Int)(B ob:Nat)(w:World)(A:Option Addr)(C k:Nat)(wl:World):Prop where
 own:z1k B wl A C (slW v h f (s.W.take k) ++ s.W.drop k)
 S:SAt wl w.heap.size (stC s (J1 ao s.W.length c))
 R:SAt wl (w.heap.size+1) Z63
 O:SAt wl ob (stC s (J1 A s.W.length C))
 below:Bl w wl
theorem RSl.over{s:St}{ao:Option Addr}{c:Nat}{v h f:Int}{B ob:Nat}{w:World}{A:Option Addr}{C k:Nat}{wl w':World}(H:RSl s ao c v h f B ob w A C k wl)(a:Bl wl w'):RSl s ao c v h f B ob w A C k w':=
 ⟨H.own.over a,H.S.later a H.S.lt,H.R.later a H.R.lt,H.O.later a H.O.lt,zbt H.below a⟩
theorem q0O(s:St)(ao:Option Addr)(sb so c v:Nat)(h f:Int)(w:World)(hW:z1R w ao sb so s.W)(hg:z0j s=true)(E:v<6)(hf:0<=f/\f<=1000) :
  Calls prog 97 #[J4 (stC s (J1 ao s.W.length c)),J I (v:Int),J I h,J I f] w fun e w'=>∃ A C,e=.returned (.tuple #[J4 (stC (z0Q s v h f) (J1 A (z0Q s v h f).W.length C)),J I (ptN (s.V v).tok f+slN v h f s.W),J I 0])/\z1k w.heap.size w' A C (z0Q s v h f).W/\Bl w w':=by
 have SS:=(SAt.new w (stC s (J1 ao s.W.length c))).alloc (J5 Z63 32);have RR:=SAt.new2 w (J5 (stC s (J1 ao s.W.length c)) 32) Z63;have HB:Hid (Bl w ((w.alloc (J5 (stC s (J1 ao s.W.length c)) 32)).alloc (J5 Z63 32))):=(znw w _).alloc (by simp) _
 have HW:=J6 hW;have N:=fun w h=>z4Z s ao sb so c 0 v w h;rw[q3O]at N;have e6:=z1X hg E;have e7:(v:Int)<6:=by omega
 have e8:(0:Int)<=(v:Int):=by omega
 obtain⟨n1,n2,n3,n4,n5,n6,n7,n8,n9,z,e9⟩:=z2H hg E h hf;obtain⟨b0,-⟩:=z3A hg E h hf;have hP:=z7T (s.V v).tok f;rw[n1]at hP;have D:=fun w=>q4f s.b (ptN (s.V v).tok f) (slN v h f s.W) w;rw[b0]at D
 have HN:Hid (∀ k,0<=slN v h f (s.W.take k)/\slN v h f (s.W.take k)<=400000):=fun k=>by
  have h1:=z9A (v:=v) (h:=h) hf (W:=s.W.take k) fun x hx=>z x (List.mem_of_mem_take hx);have e1:z1N s.W=z1N (s.W.take k)+z1N (s.W.drop k):=by rw[<- z2r,List.take_append_drop]
  have e2:=z2q (W:=s.W.drop k) fun y hy=>(z y (List.mem_of_mem_drop hy)).1;omega
 have eS:z0Q s v h f={ s with b:=(z0Y s.b (ptN (s.V v).tok f) (slN v h f s.W)).1,V:=z2a s.V v (z3H (s.V v) (ptN (s.V v).tok f) (slN v h f s.W)),W:=slW v h f s.W }:=rfl
 generalize (z0Y s.b (ptN (s.V v).tok f) (slN v h f s.W)).1=B at *;have a2:(z0Q s v h f).W=slW v h f s.W:=rfl;generalize z0Q s v h f=r at *;generalize ptN (s.V v).tok f=pb at *;rw[a2];obtain⟨f4,f5⟩:=n2;obtain⟨f6,f7⟩:=n3;obtain⟨f8,f9⟩:=n5;have g8:wrap64 (pb+slN v h f s.W)=pb+slN v h f s.W:=z0a (by omega) (by omega)
 have b6:=J6 eS;have HF:=J6 hf;have HA:=J6 z;clear hW hf hg n1 n9 z b0 eS a2
 go_enter func97,ntmps97
 go_upto_region 1 with fail
 change Code.wp prog _ _ _ ((w.alloc (J5 (stC s (J1 ao s.W.length c)) 32)).alloc (J5 Z63 32));generalize (w.alloc (J5 (stC s (J1 ao s.W.length c)) 32)).alloc (J5 Z63 32)=w0 at *;apply wp_region_lit;refine wpList_load_mid rfl 32 _ rfl _ 0 rfl _ _ SS.range underlying32 rfl (by rw[z0l];rfl) ?_
 go_upto_region 4 with (go_at_call 140;refine (N _ (by exact HW.out.over HB.out)).mono ?_;rintro e w1⟨rfl,h1⟩)
 have n:=J6 (zbt HB.out h1);have F:=SS.later h1 SS.lt;have G:=RR.later h1 RR.lt;have g9:w.heap.size+1<w1.heap.size:=G.lt;have d6:w.heap.size<w1.heap.size:=by omega
 clear SS RR h1 HB N;have c0:=(F.val v E).1
 go_upto_region 7 with (go_at_call 141;refine (hP _).mono ?_;rintro e w5⟨rfl,h2⟩)
 have P:=J6 (n.out.trans (h2.mono (by omega)))
 have S5:=F.later h2 F.lt;have R5:=G.later h2 G.lt;have h4:w.heap.size+1<w5.heap.size:=R5.lt;clear h2 F G n c0 hP;apply wp_region_lit;refine wpList_load_mid rfl 32 _ rfl _ 0 rfl _ _ S5.range underlying32 rfl (by rw[z0l];rfl) ?_
 go_step
 go_step
 refine (z3u s ao sb so c _ (by exact HW.out.over P.out)).mono ?_
 rintro e w6⟨A,C,rfl,Q,h6⟩;dsimp only;have S6:=S5.later h6 S5.lt;have R6:=R5.later h6 R5.lt;have a3:=J6 (P.out.trans (h6.mono (by omega)))
 have h5:w.heap.size+1<w6.heap.size:=R6.lt;have h7:w5.heap.size<=w6.heap.size:=h6.size;have a4:Hid (∀ k,A=some ⟨k,0,none⟩->w5.heap.size+2<=k/\k<w6.heap.size):=fun k o=>World.ownsRow.lt Q k (by rw[o];rfl)
 iterate 4 go_step
 refine wpList_store_mid rfl 32 _ _ rfl _ 0 (stC s (J1 A s.W.length C)) rfl rfl ((SAt.new w6 Z63).there 0 _ (by rw[z0p,z0d];omega)) (by rw[z0l];rfl) (z0q _ _ _ _) ?_
 change wpList prog _ _ _ _ ((w6.alloc (J5 Z63 32)).setCells w6.heap.size 0 (stC s (J1 A s.W.length C)).toList);have O7:=(SAt.new w6 Z63).z0C (ds:=(stC s (J1 A s.W.length C))) rfl;have S7:SAt ((w6.alloc (J5 Z63 32)).setCells w6.heap.size 0 (stC s (J1 A s.W.length C)).toList) w.heap.size (stC s (J1 ao s.W.length c)):=(z0f (by omega) _ _ _).trans (S6.alloc _)
 have R7:SAt ((w6.alloc (J5 Z63 32)).setCells w6.heap.size 0 (stC s (J1 A s.W.length C)).toList) (w.heap.size+1) Z63:=(z0f (by omega) _ _ _).trans (R6.alloc _)
 have a5:=J6 (z0b (b:=w6.heap.size) (by omega) (stC s (J1 A s.W.length C)).toList 0 _ (a3.out.alloc (by omega) (J5 Z63 32)))
 have a6:Hid (z1k (w5.heap.size+2) ((w6.alloc (J5 Z63 32)).setCells w6.heap.size 0 (stC s (J1 A s.W.length C)).toList) A C s.W):=Q.to fun k _ o=>(z0f (by omega) _ _ _).trans (Below.heap_alloc w6 _ k o)
 generalize (w6.alloc (J5 Z63 32)).setCells w6.heap.size 0 (stC s (J1 A s.W.length C)).toList=w7 at *;have h9:w6.heap.size<w7.heap.size:=O7.lt;have d7:w.heap.size<w7.heap.size:=by omega
 have a7:Hid (RSl s ao c v h f (w5.heap.size+2) w6.heap.size w A C 0 w7):=⟨a6.out,S7,R7,O7,a5.out⟩;have x7:=(z0g S7).2.2.2.2.2.2.2.1;clear S5 R5 P S6 R6 a3 h6 Q O7 R7 a6 a5 S7;have p:=HW.out.adr
 go_upto_region 10 with fail
 go_loopw [15,46] (fun al i wl=>∃ (k:Nat),k<=s.W.length/\i=J I (k:Int)/\al=J I (slN v h f (s.W.take k))/\Hid (RSl s ao c v h f (w5.heap.size+2) w6.heap.size w A C k wl)) (fun _ i _=>s.W.length - (intOf i).toNat)
 case atStart=>exact⟨0,Nat.zero_le _,rfl,rfl,a7⟩
 case round =>
  obtain⟨k,o,rfl,rfl,q⟩:=hrel;clear a7 x7;obtain⟨m0,m1⟩:=HN.out k
  by_cases b7:k<s.W.length
  ·obtain⟨x,hx,_⟩:=drop_at b7;obtain⟨e1,e2,T⟩:=q2Y v h f hx;obtain⟨m2,m3⟩:=HN.out (k+1);have b9:=HA.out x (by obtain⟨h1,h2⟩:=List.getElem?_eq_some_iff.1 hx;exact h2 ▸ List.getElem_mem h1)
   obtain⟨c0,c1,c2,c3,c4,c5,c6,c7⟩:=(HW.out.over q.out.below).cell k x hx;obtain rfl:=p (by omega)
   have H:(slW v h f (s.W.take k) ++ s.W.drop k).length=s.W.length:=by unfold slW;rw[List.length_append,List.length_map,<- List.length_append,List.take_append_drop]
   obtain⟨g,rfl,_,_,_⟩:=q.out.own.at0 (by omega)
   have i0:=a4.out g rfl;have U:=J6 e2;have t:=J6 e1;have X:=J6 H;clear e1 e2 hx H p D;have i1:=q.out.S.lt;have Yq:YAt (wr.alloc (J5 #[J I x.num,J I x.d,J I x.v,J I x.amt,J I x.hei,J I x.due,J I x.h0,J I x.h1] 127)) wr.heap.size x:=heap_alloc_new _ _;have Y:=J6 (q.out.over (znw wr (J5 #[J I x.num,J I x.d,J I x.v,J I x.amt,J I x.hei,J I x.due,J I x.h0,J I x.h1] 127)))
   go_upto_region 12 with fail
   generalize wr.alloc (J5 #[J I x.num,J I x.d,J I x.v,J I x.amt,J I x.hei,J I x.due,J I x.h0,J I x.h1] 127)=wq at *;clear c0 c1 c2 c3 c4 c5 c6 c7 q;have c2:=Yq.cells.2.2.1;have c3:=Yq.cells.2.2.2.1;have c4:=Yq.cells.2.2.2.2.1;have c8:=Yq.lt
   by_cases hh:x.v=v/\h<=x.hei
   ·have j:q1V v h x=true:=by simp[q1V,hh.1,hh.2]
    obtain⟨s1,s2⟩:=q6w (f:=f) j;obtain⟨p0,p1,p2⟩:=q5E b9 HF.out;rw[s1]at t;rw[s2]at T;have hP:=z7T x.amt f;rw[p0]at hP;obtain⟨c9,i2⟩:=hh;rw[c9]at c2;generalize ptN x.amt f=pn at *;have i3:wrap64 (x.amt - pn)=x.amt - pn:=z0a (by omega) (by omega)
    rw[T]at m2 m3;have Z:=J6 T;generalize slN v h f (s.W.take k)=sk at *;have i4:wrap64 (sk+pn)=sk+pn:=z0a (by omega) (by omega)
    clear j s1 s2 p0 T HN
    go_upto_region 14 with (go_at_call 141;refine (hP _).mono ?_;rintro e w2⟨rfl,h2⟩)
    have l:=J6 (Y.out.over h2);have Y2:=Yq.later h2 c8;clear c2 c3 c4 Y Yq h2;have c3:=Y2.cells.2.2.2.1;have i5:=Y2.lt;obtain⟨g',d0,_,d8,K⟩:=l.out.own.at0 (by have:=X.out;omega)
    cases d0;obtain⟨_,d3,_,d5⟩:=K k x U.out;have x7:=(z0g l.out.O).2.2.2.2.2.2.2.1;have d9:=l.out.O.lt;clear K;go_wp2;refine⟨⟨k+1,by omega,by go_num,by rw[Z.out],?_⟩,by simp[intOf];omega⟩
    have a:=(But.refl g w2).set (k * 8+3) (J I (x.amt - pn));exact⟨by rw[t.out];exact l.out.own.amt U.out _,a.z0I (by omega) l.out.S,a.z0I (by omega) l.out.R,a.z0I (by omega) l.out.O,l.out.below.trans (a.below (by omega))⟩
   ·have j:q1V v h x=false:=by
     simp only[q1V,Bool.and_eq_false_iff,decide_eq_false_iff_not]
     by_cases h1:x.v=v
     ·exact .inr (fun h2=>hh ⟨h1,h2⟩)
     ·exact .inl h1
    obtain⟨s1,s2⟩:=q4q (f:=f) j;rw[s1]at t;rw[s2]at T;have Z:=J6 T;have d1:Hid (slW v h f (s.W.take (k+1)) ++ s.W.drop (k+1)=slW v h f (s.W.take k) ++ s.W.drop k):=by show _=_;rw[t.out];exact z1U U.out
    have d2:Hid (RSl s (some ⟨sb,so,none⟩) c v h f (w5.heap.size+2) w6.heap.size w (some ⟨g,0,none⟩) C (k+1) wq):=⟨by rw[d1.out];exact Y.out.own,Y.out.S,Y.out.R,Y.out.O,Y.out.below⟩
    clear j s1 s2 T HN t;go_wp2
    all_goals first
     | (exact⟨⟨k+1,by omega,by go_num,by rw[Z.out,Int.add_zero],d2⟩,by simp[intOf];omega⟩)
     | (exfalso;exact hh ⟨by first | assumption | omega,by omega⟩)
  ·obtain rfl:k=s.W.length:=by omega
   have hO:z1k (w5.heap.size+2) wr A C (slW v h f s.W):=by have:=q.out.own;rwa [List.take_length,List.drop_length,List.append_nil]at this
   have HO:=J6 hO;have X:Hid ((slW v h f s.W).length=s.W.length):=by show _=_;unfold slW;rw[List.length_map]
   rw[List.take_length];have F:=q.out.S;have G:=q.out.R;have O1:=q.out.O;have n:=J6 q.out.below;clear q hO HN HA HF p m0 m1;obtain⟨x0,x1,x2,x3,x4,x5,x6,_,_⟩:=z0g F;have e0:w.heap.size<wr.heap.size:=F.lt;have e4:w6.heap.size<wr.heap.size:=O1.lt
   go_upto_region 18 with (go_at_call 142;refine (D _).mono ?_;rintro e w8⟨rfl,h8⟩;have R8:=G.later h8 G.lt;have u:=O1.later h8 O1.lt;have a8:=J6 (n.out.trans (h8.mono (by omega)));have a0:=J6 (HO.out.over h8);obtain⟨o0,o1,o2,o3,o4,o5,o6,_,_⟩:=z0g u;have g0:=u.free 0;have g1:=u.free 1;have g2:=u.free 2;have g3:=u.free 3;have g4:=u.free 4;have g5:=u.free 5;have g6:=u.free 6;have i6:=u.lt;clear h8)
   change Code.wp prog _ _ _ (z3F w8 w6.heap.size B);have S9:=z4a u B;have a:But w6.heap.size w8 (z3F w8 w6.heap.size B):=(((((((But.refl _ _).set 0 _).set 1 _).set 2 _).set 3 _).set 4 _).set 5 _).set 6 _;have a9:=J6 a;generalize z3F w8 w6.heap.size B=w9 at *;clear a x0 x1 x2 x3 x4 x5 x6 o0 o1 o2 o3 o4 o5 o6 g0 g1 g2 g3 g4 g5 g6 u O1 G F HO n D;have c0:=(S9.val v E).1;simp only at c0;have f0:=S9.free (7+v * 5);have i7:w6.heap.size<w9.heap.size:=S9.lt
   go_upto_region 19 with fail
   have m:=S9.set (7+v * 5) (J I ((s.V v).tok - pb));rw[z9u _ _ v E]at m;have L:=J6 (a9.out.set (7+v * 5) (J I ((s.V v).tok - pb)));generalize w9.setCell ⟨w6.heap.size,7+v * 5,none⟩ (J I ((s.V v).tok - pb))=w10 at *;clear c0 f0 S9 a9;have c2:=(m.val v E).2.2.1;simp only[z3k]at c2;have f0:=m.free (7+v * 5+2);have e5:w6.heap.size<w10.heap.size:=m.lt
   go_upto_region 20 with fail
   have a1:=m.set (7+v * 5+2) (J I ((s.V v).lost+(pb+(slN v h f s.W))));rw[z9Q _ _ v E]at a1;have a:=L.out.set (7+v * 5+2) (J I ((s.V v).lost+(pb+(slN v h f s.W))));have b4:=a.z0I (by omega) R8
   have M:Hid (z1k (w5.heap.size+2) (w10.setCell ⟨w6.heap.size,7+v * 5+2,none⟩ (J I ((s.V v).lost+(pb+(slN v h f s.W))))) A C (slW v h f s.W)):=z0n a0.out fun k' o=>a.block _ (by
    have h1:A=some ⟨k',0,none⟩:=by
     rcases a0.out.2 with⟨hv1,_⟩ | ⟨g,cap,cur,hv1,_⟩
     ·rw[hv1]at o;cases o
     ·rw[hv1]at o;cases o;cases hv1;rfl
    have:=(a4.out k' h1).2
    omega)
   have b5:=J6 (a8.out.trans (a.below (by omega)))
   generalize w10.setCell ⟨w6.heap.size,7+v * 5+2,none⟩ (J I ((s.V v).lost+(pb+(slN v h f s.W))))=w11 at *;clear c2 f0 m L a R8 a0 a8
   have d4:SAt w11 w6.heap.size (stC r (J1 A s.W.length C)):=by
    have e:stC r (J1 A s.W.length C)=stC { ({ ({ s with b:=B }:St) with V:=z2a (z2a s.V v { s.V v with tok:=(s.V v).tok - pb }) v { z2a s.V v { s.V v with tok:=(s.V v).tok - pb } v with lost:=(s.V v).lost+(pb+(slN v h f s.W)) } }:St) with b:=B } (J1 A s.W.length C):=by
     rw[b6.out,z3k]
     have hV:z2a (z2a s.V v { s.V v with tok:=(s.V v).tok - pb }) v { s.V v with tok:=(s.V v).tok - pb,lost:=(s.V v).lost+(pb+(slN v h f s.W)) }=z2a s.V v (z3H (s.V v) pb (slN v h f s.W)):=by
      funext i
      unfold z2a z3H
      split <;> rfl
     rw[hV];rfl
    rw[e];exact a1
   clear a1;apply wp_region_lit;refine wpList_load_mid rfl 32 _ rfl _ 0 rfl _ _ d4.range underlying32 rfl (by rw[z0l];rfl) ?_
   iterate 9 go_step
   refine wpList_store_mid rfl 32 _ _ rfl _ 0 (stC r (J1 A s.W.length C)) rfl rfl (b4.there 0 _ (by rw[z0p,z0d];omega)) (by rw[z0l];rfl) (z0q _ _ _ _) ?_
   go_wp2;exact z2K results97 b4 rfl r _ _ _ _ ⟨A,C,by rw[X.out];rfl,z0U (z0n M.out fun k' o=>z0f (by have:=(World.ownsRow.lt M.out k' o).1;omega) _ _ _) (by omega),z0b (by omega) _ _ _ b5.out⟩ _ rfl rfl rfl rfl
end
namespace Pv
open Go.RowKit
section
variable {P:Nat->Prop} {w:World} {s:St} {u:Value} (hu:Rep P w u 8 64 (wsL s.W))
include hu
theorem q6o(v:Nat)(h:Int)(a:z0j s=true)(c:v<6):Calls prog 97 #[J4 (stC s u),J I (v:Int),J I h,J I 50] w fun e w'=>∃ d x,e=.returned (.tuple #[J4 (stC (z0Q s v h 50) d),x,J I 0])/\Rep (fun b=>w.heap.size<=b) w' d 8 64 (wsL (z0Q s v h 50).W)/\Bl w w':=by
 obtain⟨A,C,b,o,rfl,W,-,-⟩:=hu.z8v;refine (q0O s A b o C v h 50 w W a c (by decide)).mono ?_
 rintro e w'⟨A',C',rfl,h1,g⟩;exact⟨_,_,rfl,z1k.rep h1 (z2T (z5i a (v:=v) c h (f:=50) (by decide)).good),g⟩
theorem q7J(v:Nat)(a:z0j s=true)(d:v<6)(hd:(s.V v).dead=false):Calls prog 98 #[J4 (stC s u),J I (v:Int),J I 2] w fun e w'=>∃ c,e=.returned (.tuple #[J4 (stC (z2V s v true true) c),J I 0])/\Rep (fun b=>w.heap.size<=b) w' c 8 64 (wsL s.W)/\Bl w w':=by
 obtain⟨A,C,b,o,rfl,W,-,-⟩:=hu.z8v;refine (z9d s A b o C v w W a d hd).mono ?_;rintro e w'⟨A',C',rfl,h1,f⟩;exact⟨_,rfl,z1k.rep h1 (z2T a),f⟩
theorem q8s(v:Nat)(a:z0j s=true)(d:v<6)(hd:(s.V v).jail=false):Calls prog 98 #[J4 (stC s u),J I (v:Int),J I 0] w fun e w'=>∃ c,e=.returned (.tuple #[J4 (stC (z2V s v true false) c),J I 0])/\Rep (fun b=>w.heap.size<=b) w' c 8 64 (wsL s.W)/\Bl w w':=by
 obtain⟨A,C,b,o,rfl,W,-,-⟩:=hu.z8v;refine (z9s s A b o C v w W a d hd).mono ?_;rintro e w'⟨A',C',rfl,h1,f⟩;exact⟨_,rfl,z1k.rep h1 (z2T a),f⟩
end
end Pv
end Go.Proofs.YtjghbciepinofaaGreat
