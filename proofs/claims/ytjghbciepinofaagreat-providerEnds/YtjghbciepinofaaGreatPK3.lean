/- Parts of the proof. -/
import Derived.Test.YtjghbciepinofaaGreatPL
import Derived.Test.YtjghbciepinofaaGreatPK22
set_option maxRecDepth 100000
set_option maxHeartbeats 16000000
namespace Go.Proofs.YtjghbciepinofaaGreat
open Go.Proofs.Tryz
open Value renaming int->J,slice->J1,pointer->J2,bool->J3,agg->J4
open IntKind renaming i64->I
open Obj renaming cells->J5
section
open Go.RowKit
theorem q1r(f0 f1 f2 f3 bo wa bu n:Int)(c:Nat)(w:World)(l:w.cell? ⟨c,0,none⟩=some (J I 0))(a:c<w.heap.size)(f:z0v f0 f1 f2 f3 bo wa bu=true)(b:0<=n)(d:n<=1125899906842624)(s:n<=wa) :
  Calls prog 114 #[J4 #[J I f0,J I f1,J I f2,J I f3,J I bo,J I wa,J I bu],(.func (.func 123) #[] #[]),(.func (.func 125) #[] #[J2 (some ⟨c,0,none⟩)]),J I n] w fun e w'=>e=.returned (.tuple #[J4 #[J I (f0+n),J I f1,J I f2,J I f3,J I bo,J I (wa - n),J I bu],J I 0])/\Bl w w':=by
 have m:=z0u f0 f1 f2 f3 bo wa bu;rw[f]at m;have o:=z1q n;rw[decide_eq_true ⟨b,d⟩]at o;unfold z0v at f;obtain⟨t,u,v,x,g4,y,z,A⟩:=of_decide_eq_true f;clear f;have B:wrap64 (wa - n)=wa - n:=z0a (by omega) (by omega)
 have C:wrap64 (f0+n)=f0+n:=z0a (by omega) (by omega)
 clear t u v x g4 y z A b d
 go_enter func114,ntmps114
 go_wp2_with fail
 refine (m _).mono ?_;rintro e w1⟨rfl,p⟩;obtain⟨g,h,q⟩:=z1r p;clear p;have i:w1.cell? ⟨c,0,none⟩=some (J I 0):=(q.out.cell a).trans l;have j:(w1.setCell ⟨w.heap.size,5,none⟩ (J I (wa - n))).cell? ⟨c,0,none⟩=some (J I 0):=(World.cell?_of_block (w:=w1) (Below.heap_setCell _ _ _ _ (by simp;omega))).trans i
 clear l a;obtain⟨D,E,F,G,H,K,L⟩:=g.cells;have y0:=g.frees.2.2.2.2.2.1;have y1:=g.frees.1;obtain⟨M,u1,u2,N,P,Q,R⟩:=h.frees;obtain⟨v0,v1,v2,v3,S,T,U⟩:=h.cells;have k:Hid (BAt w1 (w.heap.size+1) 0 0 0 0 0 0 0):=h;clear g h
 go_wp2_with (first
  | (go_at_call 121;refine (o _).mono ?_;rintro e r⟨rfl,rfl⟩)
  | (go_at_call 123;refine (z1b _ _).mono ?_;rintro e r⟨rfl,rfl⟩)
  | (go_at_call 125;refine (z1d _ c 0 _ (by exact j) (by decide) (by decide)).mono ?_;rintro e r⟨rfl,nq,rfl⟩))
 exact z0V (wq:=((w1.setCell ⟨w.heap.size,5,none⟩ (J I (wa - n))).drewN nq).setCell ⟨w.heap.size,0,none⟩ (J I (f0+n))) (BAt.other (w:=(w1.setCell ⟨w.heap.size,5,none⟩ (J I (wa - n))).drewN nq) (k.out.other (by omega) _) (by omega) _) ((below_drewN (q.out.setCell (by simp) _) nq).setCell (by simp) _) (f0+n) f1 f2 f3 bo (wa - n) bu 0 _ rfl rfl rfl
theorem q1t(f0 f1 f2 f3 bo wa bu n:Int)(c:Nat)(w:World)(l:w.cell? ⟨c,0,none⟩=some (J I 1))(a:c<w.heap.size)(f:z0v f0 f1 f2 f3 bo wa bu=true)(b:0<=n)(d:n<=1125899906842624)(s:n<=wa) :
  Calls prog 114 #[J4 #[J I f0,J I f1,J I f2,J I f3,J I bo,J I wa,J I bu],(.func (.func 123) #[] #[]),(.func (.func 125) #[] #[J2 (some ⟨c,0,none⟩)]),J I n] w fun e w'=>e=.returned (.tuple #[J4 #[J I f0,J I (f1+n),J I f2,J I f3,J I bo,J I (wa - n),J I bu],J I 0])/\Bl w w':=by
 have m:=z0u f0 f1 f2 f3 bo wa bu;rw[f]at m;have o:=z1q n;rw[decide_eq_true ⟨b,d⟩]at o;unfold z0v at f;obtain⟨t,u,v,x,g4,y,z,A⟩:=of_decide_eq_true f;clear f;have B:wrap64 (wa - n)=wa - n:=z0a (by omega) (by omega)
 have C:wrap64 (f1+n)=f1+n:=z0a (by omega) (by omega)
 clear t u v x g4 y z A b d
 go_enter func114,ntmps114
 go_wp2_with fail
 refine (m _).mono ?_;rintro e w1⟨rfl,p⟩;obtain⟨g,h,q⟩:=z1r p;clear p;have i:w1.cell? ⟨c,0,none⟩=some (J I 1):=(q.out.cell a).trans l;have j:(w1.setCell ⟨w.heap.size,5,none⟩ (J I (wa - n))).cell? ⟨c,0,none⟩=some (J I 1):=(World.cell?_of_block (w:=w1) (Below.heap_setCell _ _ _ _ (by simp;omega))).trans i
 clear l a;obtain⟨D,E,F,G,H,K,L⟩:=g.cells;have y0:=g.frees.2.2.2.2.2.1;have y1:=g.frees.2.1;obtain⟨M,u1,u2,N,P,Q,R⟩:=h.frees;obtain⟨v0,v1,v2,v3,S,T,U⟩:=h.cells;have k:Hid (BAt w1 (w.heap.size+1) 0 0 0 0 0 0 0):=h;clear g h
 go_wp2_with (first
  | (go_at_call 121;refine (o _).mono ?_;rintro e r⟨rfl,rfl⟩)
  | (go_at_call 123;refine (z1b _ _).mono ?_;rintro e r⟨rfl,rfl⟩)
  | (go_at_call 125;refine (z1d _ c 1 _ (by exact j) (by decide) (by decide)).mono ?_;rintro e r⟨rfl,nq,rfl⟩))
 exact z0V (wq:=((w1.setCell ⟨w.heap.size,5,none⟩ (J I (wa - n))).drewN nq).setCell ⟨w.heap.size,1,none⟩ (J I (f1+n))) (BAt.other (w:=(w1.setCell ⟨w.heap.size,5,none⟩ (J I (wa - n))).drewN nq) (k.out.other (by omega) _) (by omega) _) ((below_drewN (q.out.setCell (by simp) _) nq).setCell (by simp) _) f0 (f1+n) f2 f3 bo (wa - n) bu 0 _ rfl rfl rfl
theorem q1k(f0 f1 f2 f3 bo wa bu n:Int)(c:Nat)(w:World)(l:w.cell? ⟨c,0,none⟩=some (J I 2))(a:c<w.heap.size)(f:z0v f0 f1 f2 f3 bo wa bu=true)(b:0<=n)(d:n<=1125899906842624)(s:n<=wa) :
  Calls prog 114 #[J4 #[J I f0,J I f1,J I f2,J I f3,J I bo,J I wa,J I bu],(.func (.func 123) #[] #[]),(.func (.func 125) #[] #[J2 (some ⟨c,0,none⟩)]),J I n] w fun e w'=>e=.returned (.tuple #[J4 #[J I f0,J I f1,J I (f2+n),J I f3,J I bo,J I (wa - n),J I bu],J I 0])/\Bl w w':=by
 have m:=z0u f0 f1 f2 f3 bo wa bu;rw[f]at m;have o:=z1q n;rw[decide_eq_true ⟨b,d⟩]at o;unfold z0v at f;obtain⟨t,u,v,x,g4,y,z,A⟩:=of_decide_eq_true f;clear f;have B:wrap64 (wa - n)=wa - n:=z0a (by omega) (by omega)
 have C:wrap64 (f2+n)=f2+n:=z0a (by omega) (by omega)
 clear t u v x g4 y z A b d
 go_enter func114,ntmps114
 go_wp2_with fail
 refine (m _).mono ?_;rintro e w1⟨rfl,p⟩;obtain⟨g,h,q⟩:=z1r p;clear p;have i:w1.cell? ⟨c,0,none⟩=some (J I 2):=(q.out.cell a).trans l;have j:(w1.setCell ⟨w.heap.size,5,none⟩ (J I (wa - n))).cell? ⟨c,0,none⟩=some (J I 2):=(World.cell?_of_block (w:=w1) (Below.heap_setCell _ _ _ _ (by simp;omega))).trans i
 clear l a;obtain⟨D,E,F,G,H,K,L⟩:=g.cells;have y0:=g.frees.2.2.2.2.2.1;have y1:=g.frees.2.2.1;obtain⟨M,u1,u2,N,P,Q,R⟩:=h.frees;obtain⟨v0,v1,v2,v3,S,T,U⟩:=h.cells;have k:Hid (BAt w1 (w.heap.size+1) 0 0 0 0 0 0 0):=h;clear g h
 go_wp2_with (first
  | (go_at_call 121;refine (o _).mono ?_;rintro e r⟨rfl,rfl⟩)
  | (go_at_call 123;refine (z1b _ _).mono ?_;rintro e r⟨rfl,rfl⟩)
  | (go_at_call 125;refine (z1d _ c 2 _ (by exact j) (by decide) (by decide)).mono ?_;rintro e r⟨rfl,nq,rfl⟩))
 exact z0V (wq:=((w1.setCell ⟨w.heap.size,5,none⟩ (J I (wa - n))).drewN nq).setCell ⟨w.heap.size,2,none⟩ (J I (f2+n))) (BAt.other (w:=(w1.setCell ⟨w.heap.size,5,none⟩ (J I (wa - n))).drewN nq) (k.out.other (by omega) _) (by omega) _) ((below_drewN (q.out.setCell (by simp) _) nq).setCell (by simp) _) f0 f1 (f2+n) f3 bo (wa - n) bu 0 _ rfl rfl rfl
theorem q0E(f0 f1 f2 f3 bo wa bu n:Int)(c:Nat)(w:World)(l:w.cell? ⟨c,0,none⟩=some (J I 3))(a:c<w.heap.size)(f:z0v f0 f1 f2 f3 bo wa bu=true)(b:0<=n)(d:n<=1125899906842624)(s:n<=wa) :
  Calls prog 114 #[J4 #[J I f0,J I f1,J I f2,J I f3,J I bo,J I wa,J I bu],(.func (.func 123) #[] #[]),(.func (.func 125) #[] #[J2 (some ⟨c,0,none⟩)]),J I n] w fun e w'=>e=.returned (.tuple #[J4 #[J I f0,J I f1,J I f2,J I (f3+n),J I bo,J I (wa - n),J I bu],J I 0])/\Bl w w':=by
 have m:=z0u f0 f1 f2 f3 bo wa bu;rw[f]at m;have o:=z1q n;rw[decide_eq_true ⟨b,d⟩]at o;unfold z0v at f;obtain⟨t,u,v,x,g4,y,z,A⟩:=of_decide_eq_true f;clear f;have B:wrap64 (wa - n)=wa - n:=z0a (by omega) (by omega)
 have C:wrap64 (f3+n)=f3+n:=z0a (by omega) (by omega)
 clear t u v x g4 y z A b d
 go_enter func114,ntmps114
 go_wp2_with fail
 refine (m _).mono ?_;rintro e w1⟨rfl,p⟩;obtain⟨g,h,q⟩:=z1r p;clear p;have i:w1.cell? ⟨c,0,none⟩=some (J I 3):=(q.out.cell a).trans l;have j:(w1.setCell ⟨w.heap.size,5,none⟩ (J I (wa - n))).cell? ⟨c,0,none⟩=some (J I 3):=(World.cell?_of_block (w:=w1) (Below.heap_setCell _ _ _ _ (by simp;omega))).trans i
 clear l a;obtain⟨D,E,F,G,H,K,L⟩:=g.cells;have y0:=g.frees.2.2.2.2.2.1;have y1:=g.frees.2.2.2.1;obtain⟨M,u1,u2,N,P,Q,R⟩:=h.frees;obtain⟨v0,v1,v2,v3,S,T,U⟩:=h.cells;have k:Hid (BAt w1 (w.heap.size+1) 0 0 0 0 0 0 0):=h;clear g h
 go_wp2_with (first
  | (go_at_call 121;refine (o _).mono ?_;rintro e r⟨rfl,rfl⟩)
  | (go_at_call 123;refine (z1b _ _).mono ?_;rintro e r⟨rfl,rfl⟩)
  | (go_at_call 125;refine (z1d _ c 3 _ (by exact j) (by decide) (by decide)).mono ?_;rintro e r⟨rfl,nq,rfl⟩))
 exact z0V (wq:=((w1.setCell ⟨w.heap.size,5,none⟩ (J I (wa - n))).drewN nq).setCell ⟨w.heap.size,3,none⟩ (J I (f3+n))) (BAt.other (w:=(w1.setCell ⟨w.heap.size,5,none⟩ (J I (wa - n))).drewN nq) (k.out.other (by omega) _) (by omega) _) ((below_drewN (q.out.setCell (by simp) _) nq).setCell (by simp) _) f0 f1 f2 (f3+n) bo (wa - n) bu 0 _ rfl rfl rfl
end
end Go.Proofs.YtjghbciepinofaaGreat
