/- Parts of the proof. -/
import Derived.Test.YtddlhnoedldidaaGreatML
import Derived.Test.YtddlhnoedldidaaGreatMK30
set_option maxRecDepth 100000
set_option maxHeartbeats 16000000
namespace Go.Proofs.YtddlhnoedldidaaGreat
open Go.Proofs.Tryz
open Value renaming int->J,slice->J1,pointer->J2,bool->J3,agg->J4
open IntKind renaming i64->I
open Obj renaming cells->J5
section
open Go.RowKit
theorem q4u(f0 f1 f2 f3 bo wa bu n:Int)(c:Nat)(w:World)(hc:w.cell? ⟨c,0,none⟩=some (J I 0))(a:c<w.heap.size)(f:z1u f0 f1 f2 f3 bo wa bu=true)(b:0<=n)(d:n<=1125899906842624)(q:n<=wa) :
  Calls prog 145 #[J4 #[J I f0,J I f1,J I f2,J I f3,J I bo,J I wa,J I bu],(.func (.func 170) #[] #[]),(.func (.func 168) #[] #[J2 (some ⟨c,0,none⟩)]),J I n] w fun e w'=>e=.returned (.tuple #[J4 #[J I (f0+n),J I f1,J I f2,J I f3,J I bo,J I (wa - n),J I bu],J I 0])/\Bl w w':=by
 have l:=z0o f0 f1 f2 f3 bo wa bu;rw[f]at l;have m:=z1p n;rw[decide_eq_true ⟨b,d⟩]at m;unfold z1u at f;obtain⟨r,s,g2,t,g4,u,v,x⟩:=of_decide_eq_true f;clear f;have k1:wrap64 (wa - n)=wa - n:=z0g (by omega) (by omega)
 have y:wrap64 (f0+n)=f0+n:=z0g (by omega) (by omega)
 clear r s g2 t g4 u v x b d
 go_enter func145,ntmps145
 go_wp2_with fail
 refine (l _).mono ?_;rintro e w1⟨rfl,hb⟩;obtain⟨g,h,o⟩:=z1q hb;clear hb;have i:w1.cell? ⟨c,0,none⟩=some (J I 0):=(o.out.cell a).trans hc;have j:(w1.setCell ⟨w.heap.size,5,none⟩ (J I (wa - n))).cell? ⟨c,0,none⟩=some (J I 0):=(World.cell?_of_block (w:=w1) (Below.heap_setCell _ _ _ _ (by simp;omega))).trans i
 clear hc a;obtain⟨z,A,B,C,D,E,F⟩:=g.cells;have y0:=g.frees.2.2.2.2.2.1;have G:=g.frees.1;obtain⟨H,u1,u2,K,L,M,N⟩:=h.frees;obtain⟨v0,v1,v2,v3,P,Q,R⟩:=h.cells;have k:Hid (BAt w1 (w.heap.size+1) 0 0 0 0 0 0 0):=h;clear g h
 go_wp2_with (first
  | (go_at_call 142;refine (m _).mono ?_;rintro e p⟨rfl,rfl⟩)
  | (go_at_call 170;refine (z1i _ _).mono ?_;rintro e p⟨rfl,rfl⟩)
  | (go_at_call 168;refine (z1h _ c 0 _ (by exact j) (by decide) (by decide)).mono ?_;rintro e p⟨rfl,nq,rfl⟩))
 exact z0P (wq:=((w1.setCell ⟨w.heap.size,5,none⟩ (J I (wa - n))).drewN nq).setCell ⟨w.heap.size,0,none⟩ (J I (f0+n))) (BAt.other (w:=(w1.setCell ⟨w.heap.size,5,none⟩ (J I (wa - n))).drewN nq) (k.out.other (by omega) _) (by omega) _) ((below_drewN (o.out.setCell (by simp) _) nq).setCell (by simp) _) (f0+n) f1 f2 f3 bo (wa - n) bu 0 _ rfl rfl rfl
theorem q4j(f0 f1 f2 f3 bo wa bu n:Int)(c:Nat)(w:World)(hc:w.cell? ⟨c,0,none⟩=some (J I 1))(a:c<w.heap.size)(f:z1u f0 f1 f2 f3 bo wa bu=true)(b:0<=n)(d:n<=1125899906842624)(q:n<=wa) :
  Calls prog 145 #[J4 #[J I f0,J I f1,J I f2,J I f3,J I bo,J I wa,J I bu],(.func (.func 170) #[] #[]),(.func (.func 168) #[] #[J2 (some ⟨c,0,none⟩)]),J I n] w fun e w'=>e=.returned (.tuple #[J4 #[J I f0,J I (f1+n),J I f2,J I f3,J I bo,J I (wa - n),J I bu],J I 0])/\Bl w w':=by
 have l:=z0o f0 f1 f2 f3 bo wa bu;rw[f]at l;have m:=z1p n;rw[decide_eq_true ⟨b,d⟩]at m;unfold z1u at f;obtain⟨r,s,g2,t,g4,u,v,x⟩:=of_decide_eq_true f;clear f;have k1:wrap64 (wa - n)=wa - n:=z0g (by omega) (by omega)
 have y:wrap64 (f1+n)=f1+n:=z0g (by omega) (by omega)
 clear r s g2 t g4 u v x b d
 go_enter func145,ntmps145
 go_wp2_with fail
 refine (l _).mono ?_;rintro e w1⟨rfl,hb⟩;obtain⟨g,h,o⟩:=z1q hb;clear hb;have i:w1.cell? ⟨c,0,none⟩=some (J I 1):=(o.out.cell a).trans hc;have j:(w1.setCell ⟨w.heap.size,5,none⟩ (J I (wa - n))).cell? ⟨c,0,none⟩=some (J I 1):=(World.cell?_of_block (w:=w1) (Below.heap_setCell _ _ _ _ (by simp;omega))).trans i
 clear hc a;obtain⟨z,A,B,C,D,E,F⟩:=g.cells;have y0:=g.frees.2.2.2.2.2.1;have G:=g.frees.2.1;obtain⟨H,u1,u2,K,L,M,N⟩:=h.frees;obtain⟨v0,v1,v2,v3,P,Q,R⟩:=h.cells;have k:Hid (BAt w1 (w.heap.size+1) 0 0 0 0 0 0 0):=h;clear g h
 go_wp2_with (first
  | (go_at_call 142;refine (m _).mono ?_;rintro e p⟨rfl,rfl⟩)
  | (go_at_call 170;refine (z1i _ _).mono ?_;rintro e p⟨rfl,rfl⟩)
  | (go_at_call 168;refine (z1h _ c 1 _ (by exact j) (by decide) (by decide)).mono ?_;rintro e p⟨rfl,nq,rfl⟩))
 exact z0P (wq:=((w1.setCell ⟨w.heap.size,5,none⟩ (J I (wa - n))).drewN nq).setCell ⟨w.heap.size,1,none⟩ (J I (f1+n))) (BAt.other (w:=(w1.setCell ⟨w.heap.size,5,none⟩ (J I (wa - n))).drewN nq) (k.out.other (by omega) _) (by omega) _) ((below_drewN (o.out.setCell (by simp) _) nq).setCell (by simp) _) f0 (f1+n) f2 f3 bo (wa - n) bu 0 _ rfl rfl rfl
theorem q4V(f0 f1 f2 f3 bo wa bu n:Int)(c:Nat)(w:World)(hc:w.cell? ⟨c,0,none⟩=some (J I 2))(a:c<w.heap.size)(f:z1u f0 f1 f2 f3 bo wa bu=true)(b:0<=n)(d:n<=1125899906842624)(q:n<=wa) :
  Calls prog 145 #[J4 #[J I f0,J I f1,J I f2,J I f3,J I bo,J I wa,J I bu],(.func (.func 170) #[] #[]),(.func (.func 168) #[] #[J2 (some ⟨c,0,none⟩)]),J I n] w fun e w'=>e=.returned (.tuple #[J4 #[J I f0,J I f1,J I (f2+n),J I f3,J I bo,J I (wa - n),J I bu],J I 0])/\Bl w w':=by
 have l:=z0o f0 f1 f2 f3 bo wa bu;rw[f]at l;have m:=z1p n;rw[decide_eq_true ⟨b,d⟩]at m;unfold z1u at f;obtain⟨r,s,g2,t,g4,u,v,x⟩:=of_decide_eq_true f;clear f;have k1:wrap64 (wa - n)=wa - n:=z0g (by omega) (by omega)
 have y:wrap64 (f2+n)=f2+n:=z0g (by omega) (by omega)
 clear r s g2 t g4 u v x b d
 go_enter func145,ntmps145
 go_wp2_with fail
 refine (l _).mono ?_;rintro e w1⟨rfl,hb⟩;obtain⟨g,h,o⟩:=z1q hb;clear hb;have i:w1.cell? ⟨c,0,none⟩=some (J I 2):=(o.out.cell a).trans hc;have j:(w1.setCell ⟨w.heap.size,5,none⟩ (J I (wa - n))).cell? ⟨c,0,none⟩=some (J I 2):=(World.cell?_of_block (w:=w1) (Below.heap_setCell _ _ _ _ (by simp;omega))).trans i
 clear hc a;obtain⟨z,A,B,C,D,E,F⟩:=g.cells;have y0:=g.frees.2.2.2.2.2.1;have G:=g.frees.2.2.1;obtain⟨H,u1,u2,K,L,M,N⟩:=h.frees;obtain⟨v0,v1,v2,v3,P,Q,R⟩:=h.cells;have k:Hid (BAt w1 (w.heap.size+1) 0 0 0 0 0 0 0):=h;clear g h
 go_wp2_with (first
  | (go_at_call 142;refine (m _).mono ?_;rintro e p⟨rfl,rfl⟩)
  | (go_at_call 170;refine (z1i _ _).mono ?_;rintro e p⟨rfl,rfl⟩)
  | (go_at_call 168;refine (z1h _ c 2 _ (by exact j) (by decide) (by decide)).mono ?_;rintro e p⟨rfl,nq,rfl⟩))
 exact z0P (wq:=((w1.setCell ⟨w.heap.size,5,none⟩ (J I (wa - n))).drewN nq).setCell ⟨w.heap.size,2,none⟩ (J I (f2+n))) (BAt.other (w:=(w1.setCell ⟨w.heap.size,5,none⟩ (J I (wa - n))).drewN nq) (k.out.other (by omega) _) (by omega) _) ((below_drewN (o.out.setCell (by simp) _) nq).setCell (by simp) _) f0 f1 (f2+n) f3 bo (wa - n) bu 0 _ rfl rfl rfl
theorem q5I(f0 f1 f2 f3 bo wa bu n:Int)(c:Nat)(w:World)(hc:w.cell? ⟨c,0,none⟩=some (J I 3))(a:c<w.heap.size)(f:z1u f0 f1 f2 f3 bo wa bu=true)(b:0<=n)(d:n<=1125899906842624)(q:n<=wa) :
  Calls prog 145 #[J4 #[J I f0,J I f1,J I f2,J I f3,J I bo,J I wa,J I bu],(.func (.func 170) #[] #[]),(.func (.func 168) #[] #[J2 (some ⟨c,0,none⟩)]),J I n] w fun e w'=>e=.returned (.tuple #[J4 #[J I f0,J I f1,J I f2,J I (f3+n),J I bo,J I (wa - n),J I bu],J I 0])/\Bl w w':=by
 have l:=z0o f0 f1 f2 f3 bo wa bu;rw[f]at l;have m:=z1p n;rw[decide_eq_true ⟨b,d⟩]at m;unfold z1u at f;obtain⟨r,s,g2,t,g4,u,v,x⟩:=of_decide_eq_true f;clear f;have k1:wrap64 (wa - n)=wa - n:=z0g (by omega) (by omega)
 have y:wrap64 (f3+n)=f3+n:=z0g (by omega) (by omega)
 clear r s g2 t g4 u v x b d
 go_enter func145,ntmps145
 go_wp2_with fail
 refine (l _).mono ?_;rintro e w1⟨rfl,hb⟩;obtain⟨g,h,o⟩:=z1q hb;clear hb;have i:w1.cell? ⟨c,0,none⟩=some (J I 3):=(o.out.cell a).trans hc;have j:(w1.setCell ⟨w.heap.size,5,none⟩ (J I (wa - n))).cell? ⟨c,0,none⟩=some (J I 3):=(World.cell?_of_block (w:=w1) (Below.heap_setCell _ _ _ _ (by simp;omega))).trans i
 clear hc a;obtain⟨z,A,B,C,D,E,F⟩:=g.cells;have y0:=g.frees.2.2.2.2.2.1;have G:=g.frees.2.2.2.1;obtain⟨H,u1,u2,K,L,M,N⟩:=h.frees;obtain⟨v0,v1,v2,v3,P,Q,R⟩:=h.cells;have k:Hid (BAt w1 (w.heap.size+1) 0 0 0 0 0 0 0):=h;clear g h
 go_wp2_with (first
  | (go_at_call 142;refine (m _).mono ?_;rintro e p⟨rfl,rfl⟩)
  | (go_at_call 170;refine (z1i _ _).mono ?_;rintro e p⟨rfl,rfl⟩)
  | (go_at_call 168;refine (z1h _ c 3 _ (by exact j) (by decide) (by decide)).mono ?_;rintro e p⟨rfl,nq,rfl⟩))
 exact z0P (wq:=((w1.setCell ⟨w.heap.size,5,none⟩ (J I (wa - n))).drewN nq).setCell ⟨w.heap.size,3,none⟩ (J I (f3+n))) (BAt.other (w:=(w1.setCell ⟨w.heap.size,5,none⟩ (J I (wa - n))).drewN nq) (k.out.other (by omega) _) (by omega) _) ((below_drewN (o.out.setCell (by simp) _) nq).setCell (by simp) _) f0 f1 f2 (f3+n) bo (wa - n) bu 0 _ rfl rfl rfl
end
end Go.Proofs.YtddlhnoedldidaaGreat
