/- Parts of the proof. -/
import Derived.Test.YtjghbciepinofaaGreatPL
import Derived.Test.YtjghbciepinofaaGreatPK22
set_option maxRecDepth 100000
set_option maxHeartbeats 16000000
namespace Go.Proofs.YtjghbciepinofaaGreat
open Go.Proofs.Tryz
open Value renaming int->J,slice->J1,pointer->J2,bool->J3,agg->J4
open IntKind renaming i64->I
open Obj renaming cells->J5
section
open Go.RowKit
theorem q1a(f0 f1 f2 f3 bo wa bu n:Int)(c:Nat)(w:World)(k:w.cell? ⟨c,0,none⟩=some (J I 0))(a:c<w.heap.size)(f:z0v f0 f1 f2 f3 bo wa bu=true)(b:0<=n)(d:n<=1125899906842624)(r:n<=f0) :
  Calls prog 114 #[J4 #[J I f0,J I f1,J I f2,J I f3,J I bo,J I wa,J I bu],(.func (.func 125) #[] #[J2 (some ⟨c,0,none⟩)]),(.func (.func 122) #[] #[]),J I n] w fun e w'=>e=.returned (.tuple #[J4 #[J I (f0 - n),J I f1,J I f2,J I f3,J I (bo+n),J I wa,J I bu],J I 0])/\Bl w w':=by
 have l:=z0u f0 f1 f2 f3 bo wa bu;rw[f]at l;have m:=z1q n;rw[decide_eq_true ⟨b,d⟩]at m;unfold z0v at f;obtain⟨s,t,u,v,g4,x,y,z⟩:=of_decide_eq_true f;clear f;have A:wrap64 (f0 - n)=f0 - n:=z0a (by omega) (by omega)
 have B:wrap64 (bo+n)=bo+n:=z0a (by omega) (by omega)
 clear s t u v g4 x y z b d
 go_enter func114,ntmps114
 go_wp2_with fail
 refine (l _).mono ?_;rintro e w1⟨rfl,o⟩;obtain⟨g,h,p⟩:=z1r o;clear o;have i:w1.cell? ⟨c,0,none⟩=some (J I 0):=(p.out.cell a).trans k;skip;clear k a;obtain⟨C,D,E,F,G,H,K⟩:=g.cells;have y0:=g.frees.1;have y1:=g.frees.2.2.2.2.1;obtain⟨L,u1,u2,M,N,P,Q⟩:=h.frees;obtain⟨v0,v1,v2,v3,R,S,T⟩:=h.cells;have j:Hid (BAt w1 (w.heap.size+1) 0 0 0 0 0 0 0):=h;clear g h
 go_wp2_with (first
  | (go_at_call 121;refine (m _).mono ?_;rintro e q⟨rfl,rfl⟩)
  | (go_at_call 125;refine (z1d _ c 0 _ (by exact i) (by decide) (by decide)).mono ?_;rintro e q⟨rfl,nq,rfl⟩)
  | (go_at_call 122;refine (z1o _ _).mono ?_;rintro e q⟨rfl,rfl⟩))
 exact z0V (wq:=((w1.drewN _).setCell ⟨w.heap.size,0,none⟩ (J I (f0 - n))).setCell ⟨w.heap.size,4,none⟩ (J I (bo+n))) ((BAt.other (w:=w1.drewN _) j.out (by omega) _).other (by omega) _) (((below_drewN p.out _).setCell (by simp) _).setCell (by simp) _) (f0 - n) f1 f2 f3 (bo+n) wa bu 0 _ rfl rfl rfl
theorem q0T(f0 f1 f2 f3 bo wa bu n:Int)(c:Nat)(w:World)(k:w.cell? ⟨c,0,none⟩=some (J I 1))(a:c<w.heap.size)(f:z0v f0 f1 f2 f3 bo wa bu=true)(b:0<=n)(d:n<=1125899906842624)(r:n<=f1) :
  Calls prog 114 #[J4 #[J I f0,J I f1,J I f2,J I f3,J I bo,J I wa,J I bu],(.func (.func 125) #[] #[J2 (some ⟨c,0,none⟩)]),(.func (.func 122) #[] #[]),J I n] w fun e w'=>e=.returned (.tuple #[J4 #[J I f0,J I (f1 - n),J I f2,J I f3,J I (bo+n),J I wa,J I bu],J I 0])/\Bl w w':=by
 have l:=z0u f0 f1 f2 f3 bo wa bu;rw[f]at l;have m:=z1q n;rw[decide_eq_true ⟨b,d⟩]at m;unfold z0v at f;obtain⟨s,t,u,v,g4,x,y,z⟩:=of_decide_eq_true f;clear f;have A:wrap64 (f1 - n)=f1 - n:=z0a (by omega) (by omega)
 have B:wrap64 (bo+n)=bo+n:=z0a (by omega) (by omega)
 clear s t u v g4 x y z b d
 go_enter func114,ntmps114
 go_wp2_with fail
 refine (l _).mono ?_;rintro e w1⟨rfl,o⟩;obtain⟨g,h,p⟩:=z1r o;clear o;have i:w1.cell? ⟨c,0,none⟩=some (J I 1):=(p.out.cell a).trans k;skip;clear k a;obtain⟨C,D,E,F,G,H,K⟩:=g.cells;have y0:=g.frees.2.1;have y1:=g.frees.2.2.2.2.1;obtain⟨L,u1,u2,M,N,P,Q⟩:=h.frees;obtain⟨v0,v1,v2,v3,R,S,T⟩:=h.cells;have j:Hid (BAt w1 (w.heap.size+1) 0 0 0 0 0 0 0):=h;clear g h
 go_wp2_with (first
  | (go_at_call 121;refine (m _).mono ?_;rintro e q⟨rfl,rfl⟩)
  | (go_at_call 125;refine (z1d _ c 1 _ (by exact i) (by decide) (by decide)).mono ?_;rintro e q⟨rfl,nq,rfl⟩)
  | (go_at_call 122;refine (z1o _ _).mono ?_;rintro e q⟨rfl,rfl⟩))
 exact z0V (wq:=((w1.drewN _).setCell ⟨w.heap.size,1,none⟩ (J I (f1 - n))).setCell ⟨w.heap.size,4,none⟩ (J I (bo+n))) ((BAt.other (w:=w1.drewN _) j.out (by omega) _).other (by omega) _) (((below_drewN p.out _).setCell (by simp) _).setCell (by simp) _) f0 (f1 - n) f2 f3 (bo+n) wa bu 0 _ rfl rfl rfl
theorem q1s(f0 f1 f2 f3 bo wa bu n:Int)(c:Nat)(w:World)(k:w.cell? ⟨c,0,none⟩=some (J I 2))(a:c<w.heap.size)(f:z0v f0 f1 f2 f3 bo wa bu=true)(b:0<=n)(d:n<=1125899906842624)(r:n<=f2) :
  Calls prog 114 #[J4 #[J I f0,J I f1,J I f2,J I f3,J I bo,J I wa,J I bu],(.func (.func 125) #[] #[J2 (some ⟨c,0,none⟩)]),(.func (.func 122) #[] #[]),J I n] w fun e w'=>e=.returned (.tuple #[J4 #[J I f0,J I f1,J I (f2 - n),J I f3,J I (bo+n),J I wa,J I bu],J I 0])/\Bl w w':=by
 have l:=z0u f0 f1 f2 f3 bo wa bu;rw[f]at l;have m:=z1q n;rw[decide_eq_true ⟨b,d⟩]at m;unfold z0v at f;obtain⟨s,t,u,v,g4,x,y,z⟩:=of_decide_eq_true f;clear f;have A:wrap64 (f2 - n)=f2 - n:=z0a (by omega) (by omega)
 have B:wrap64 (bo+n)=bo+n:=z0a (by omega) (by omega)
 clear s t u v g4 x y z b d
 go_enter func114,ntmps114
 go_wp2_with fail
 refine (l _).mono ?_;rintro e w1⟨rfl,o⟩;obtain⟨g,h,p⟩:=z1r o;clear o;have i:w1.cell? ⟨c,0,none⟩=some (J I 2):=(p.out.cell a).trans k;skip;clear k a;obtain⟨C,D,E,F,G,H,K⟩:=g.cells;have y0:=g.frees.2.2.1;have y1:=g.frees.2.2.2.2.1;obtain⟨L,u1,u2,M,N,P,Q⟩:=h.frees;obtain⟨v0,v1,v2,v3,R,S,T⟩:=h.cells;have j:Hid (BAt w1 (w.heap.size+1) 0 0 0 0 0 0 0):=h;clear g h
 go_wp2_with (first
  | (go_at_call 121;refine (m _).mono ?_;rintro e q⟨rfl,rfl⟩)
  | (go_at_call 125;refine (z1d _ c 2 _ (by exact i) (by decide) (by decide)).mono ?_;rintro e q⟨rfl,nq,rfl⟩)
  | (go_at_call 122;refine (z1o _ _).mono ?_;rintro e q⟨rfl,rfl⟩))
 exact z0V (wq:=((w1.drewN _).setCell ⟨w.heap.size,2,none⟩ (J I (f2 - n))).setCell ⟨w.heap.size,4,none⟩ (J I (bo+n))) ((BAt.other (w:=w1.drewN _) j.out (by omega) _).other (by omega) _) (((below_drewN p.out _).setCell (by simp) _).setCell (by simp) _) f0 f1 (f2 - n) f3 (bo+n) wa bu 0 _ rfl rfl rfl
theorem q1f(f0 f1 f2 f3 bo wa bu n:Int)(c:Nat)(w:World)(k:w.cell? ⟨c,0,none⟩=some (J I 3))(a:c<w.heap.size)(f:z0v f0 f1 f2 f3 bo wa bu=true)(b:0<=n)(d:n<=1125899906842624)(r:n<=f3) :
  Calls prog 114 #[J4 #[J I f0,J I f1,J I f2,J I f3,J I bo,J I wa,J I bu],(.func (.func 125) #[] #[J2 (some ⟨c,0,none⟩)]),(.func (.func 122) #[] #[]),J I n] w fun e w'=>e=.returned (.tuple #[J4 #[J I f0,J I f1,J I f2,J I (f3 - n),J I (bo+n),J I wa,J I bu],J I 0])/\Bl w w':=by
 have l:=z0u f0 f1 f2 f3 bo wa bu;rw[f]at l;have m:=z1q n;rw[decide_eq_true ⟨b,d⟩]at m;unfold z0v at f;obtain⟨s,t,u,v,g4,x,y,z⟩:=of_decide_eq_true f;clear f;have A:wrap64 (f3 - n)=f3 - n:=z0a (by omega) (by omega)
 have B:wrap64 (bo+n)=bo+n:=z0a (by omega) (by omega)
 clear s t u v g4 x y z b d
 go_enter func114,ntmps114
 go_wp2_with fail
 refine (l _).mono ?_;rintro e w1⟨rfl,o⟩;obtain⟨g,h,p⟩:=z1r o;clear o;have i:w1.cell? ⟨c,0,none⟩=some (J I 3):=(p.out.cell a).trans k;skip;clear k a;obtain⟨C,D,E,F,G,H,K⟩:=g.cells;have y0:=g.frees.2.2.2.1;have y1:=g.frees.2.2.2.2.1;obtain⟨L,u1,u2,M,N,P,Q⟩:=h.frees;obtain⟨v0,v1,v2,v3,R,S,T⟩:=h.cells;have j:Hid (BAt w1 (w.heap.size+1) 0 0 0 0 0 0 0):=h;clear g h
 go_wp2_with (first
  | (go_at_call 121;refine (m _).mono ?_;rintro e q⟨rfl,rfl⟩)
  | (go_at_call 125;refine (z1d _ c 3 _ (by exact i) (by decide) (by decide)).mono ?_;rintro e q⟨rfl,nq,rfl⟩)
  | (go_at_call 122;refine (z1o _ _).mono ?_;rintro e q⟨rfl,rfl⟩))
 exact z0V (wq:=((w1.drewN _).setCell ⟨w.heap.size,3,none⟩ (J I (f3 - n))).setCell ⟨w.heap.size,4,none⟩ (J I (bo+n))) ((BAt.other (w:=w1.drewN _) j.out (by omega) _).other (by omega) _) (((below_drewN p.out _).setCell (by simp) _).setCell (by simp) _) f0 f1 f2 (f3 - n) (bo+n) wa bu 0 _ rfl rfl rfl
end
end Go.Proofs.YtjghbciepinofaaGreat
