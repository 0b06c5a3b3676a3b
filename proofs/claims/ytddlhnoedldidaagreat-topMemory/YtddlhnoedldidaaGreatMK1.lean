/- Parts of the proof. -/
import Derived.Test.YtddlhnoedldidaaGreatML
import Derived.Test.YtddlhnoedldidaaGreatMK30
set_option maxRecDepth 100000
set_option maxHeartbeats 16000000
namespace Go.Proofs.YtddlhnoedldidaaGreat
open Go.Proofs.Tryz
open Value renaming int->J,slice->J1,pointer->J2,bool->J3,agg->J4
open IntKind renaming i64->I
open Obj renaming cells->J5
section
open Go.RowKit
theorem q5k(f0 f1 f2 f3 bo wa bu n:Int)(c:Nat)(w:World)(hc:w.cell? ⟨c,0,none⟩=some (J I 0))(a:c<w.heap.size)(f:z1u f0 f1 f2 f3 bo wa bu=true)(b:0<=n)(d:n<=1125899906842624)(p:n<=f0) :
  Calls prog 145 #[J4 #[J I f0,J I f1,J I f2,J I f3,J I bo,J I wa,J I bu],(.func (.func 168) #[] #[J2 (some ⟨c,0,none⟩)]),(.func (.func 169) #[] #[]),J I n] w fun e w'=>e=.returned (.tuple #[J4 #[J I (f0 - n),J I f1,J I f2,J I f3,J I (bo+n),J I wa,J I bu],J I 0])/\Bl w w':=by
 have k:=z0o f0 f1 f2 f3 bo wa bu;rw[f]at k;have l:=z1p n;rw[decide_eq_true ⟨b,d⟩]at l;unfold z1u at f;obtain⟨q,r,g2,s,g4,t,u,v⟩:=of_decide_eq_true f;clear f;have k1:wrap64 (f0 - n)=f0 - n:=z0g (by omega) (by omega)
 have x:wrap64 (bo+n)=bo+n:=z0g (by omega) (by omega)
 clear q r g2 s g4 t u v b d
 go_enter func145,ntmps145
 go_wp2_with fail
 refine (k _).mono ?_;rintro e w1⟨rfl,hb⟩;obtain⟨g,h,m⟩:=z1q hb;clear hb;have i:w1.cell? ⟨c,0,none⟩=some (J I 0):=(m.out.cell a).trans hc;skip;clear hc a;obtain⟨y,z,A,B,C,D,E⟩:=g.cells;have y0:=g.frees.1;have F:=g.frees.2.2.2.2.1;obtain⟨G,u1,u2,H,K,L,M⟩:=h.frees;obtain⟨v0,v1,v2,v3,N,P,Q⟩:=h.cells;have j:Hid (BAt w1 (w.heap.size+1) 0 0 0 0 0 0 0):=h;clear g h
 go_wp2_with (first
  | (go_at_call 142;refine (l _).mono ?_;rintro e o⟨rfl,rfl⟩)
  | (go_at_call 168;refine (z1h _ c 0 _ (by exact i) (by decide) (by decide)).mono ?_;rintro e o⟨rfl,nq,rfl⟩)
  | (go_at_call 169;refine (z1o _ _).mono ?_;rintro e o⟨rfl,rfl⟩))
 exact z0P (wq:=((w1.drewN _).setCell ⟨w.heap.size,0,none⟩ (J I (f0 - n))).setCell ⟨w.heap.size,4,none⟩ (J I (bo+n))) ((BAt.other (w:=w1.drewN _) j.out (by omega) _).other (by omega) _) (((below_drewN m.out _).setCell (by simp) _).setCell (by simp) _) (f0 - n) f1 f2 f3 (bo+n) wa bu 0 _ rfl rfl rfl
theorem q4l(f0 f1 f2 f3 bo wa bu n:Int)(c:Nat)(w:World)(hc:w.cell? ⟨c,0,none⟩=some (J I 1))(a:c<w.heap.size)(f:z1u f0 f1 f2 f3 bo wa bu=true)(b:0<=n)(d:n<=1125899906842624)(p:n<=f1) :
  Calls prog 145 #[J4 #[J I f0,J I f1,J I f2,J I f3,J I bo,J I wa,J I bu],(.func (.func 168) #[] #[J2 (some ⟨c,0,none⟩)]),(.func (.func 169) #[] #[]),J I n] w fun e w'=>e=.returned (.tuple #[J4 #[J I f0,J I (f1 - n),J I f2,J I f3,J I (bo+n),J I wa,J I bu],J I 0])/\Bl w w':=by
 have k:=z0o f0 f1 f2 f3 bo wa bu;rw[f]at k;have l:=z1p n;rw[decide_eq_true ⟨b,d⟩]at l;unfold z1u at f;obtain⟨q,r,g2,s,g4,t,u,v⟩:=of_decide_eq_true f;clear f;have k1:wrap64 (f1 - n)=f1 - n:=z0g (by omega) (by omega)
 have x:wrap64 (bo+n)=bo+n:=z0g (by omega) (by omega)
 clear q r g2 s g4 t u v b d
 go_enter func145,ntmps145
 go_wp2_with fail
 refine (k _).mono ?_;rintro e w1⟨rfl,hb⟩;obtain⟨g,h,m⟩:=z1q hb;clear hb;have i:w1.cell? ⟨c,0,none⟩=some (J I 1):=(m.out.cell a).trans hc;skip;clear hc a;obtain⟨y,z,A,B,C,D,E⟩:=g.cells;have y0:=g.frees.2.1;have F:=g.frees.2.2.2.2.1;obtain⟨G,u1,u2,H,K,L,M⟩:=h.frees;obtain⟨v0,v1,v2,v3,N,P,Q⟩:=h.cells;have j:Hid (BAt w1 (w.heap.size+1) 0 0 0 0 0 0 0):=h;clear g h
 go_wp2_with (first
  | (go_at_call 142;refine (l _).mono ?_;rintro e o⟨rfl,rfl⟩)
  | (go_at_call 168;refine (z1h _ c 1 _ (by exact i) (by decide) (by decide)).mono ?_;rintro e o⟨rfl,nq,rfl⟩)
  | (go_at_call 169;refine (z1o _ _).mono ?_;rintro e o⟨rfl,rfl⟩))
 exact z0P (wq:=((w1.drewN _).setCell ⟨w.heap.size,1,none⟩ (J I (f1 - n))).setCell ⟨w.heap.size,4,none⟩ (J I (bo+n))) ((BAt.other (w:=w1.drewN _) j.out (by omega) _).other (by omega) _) (((below_drewN m.out _).setCell (by simp) _).setCell (by simp) _) f0 (f1 - n) f2 f3 (bo+n) wa bu 0 _ rfl rfl rfl
theorem q5h(f0 f1 f2 f3 bo wa bu n:Int)(c:Nat)(w:World)(hc:w.cell? ⟨c,0,none⟩=some (J I 2))(a:c<w.heap.size)(f:z1u f0 f1 f2 f3 bo wa bu=true)(b:0<=n)(d:n<=1125899906842624)(p:n<=f2) :
  Calls prog 145 #[J4 #[J I f0,J I f1,J I f2,J I f3,J I bo,J I wa,J I bu],(.func (.func 168) #[] #[J2 (some ⟨c,0,none⟩)]),(.func (.func 169) #[] #[]),J I n] w fun e w'=>e=.returned (.tuple #[J4 #[J I f0,J I f1,J I (f2 - n),J I f3,J I (bo+n),J I wa,J I bu],J I 0])/\Bl w w':=by
 have k:=z0o f0 f1 f2 f3 bo wa bu;rw[f]at k;have l:=z1p n;rw[decide_eq_true ⟨b,d⟩]at l;unfold z1u at f;obtain⟨q,r,g2,s,g4,t,u,v⟩:=of_decide_eq_true f;clear f;have k1:wrap64 (f2 - n)=f2 - n:=z0g (by omega) (by omega)
 have x:wrap64 (bo+n)=bo+n:=z0g (by omega) (by omega)
 clear q r g2 s g4 t u v b d
 go_enter func145,ntmps145
 go_wp2_with fail
 refine (k _).mono ?_;rintro e w1⟨rfl,hb⟩;obtain⟨g,h,m⟩:=z1q hb;clear hb;have i:w1.cell? ⟨c,0,none⟩=some (J I 2):=(m.out.cell a).trans hc;skip;clear hc a;obtain⟨y,z,A,B,C,D,E⟩:=g.cells;have y0:=g.frees.2.2.1;have F:=g.frees.2.2.2.2.1;obtain⟨G,u1,u2,H,K,L,M⟩:=h.frees;obtain⟨v0,v1,v2,v3,N,P,Q⟩:=h.cells;have j:Hid (BAt w1 (w.heap.size+1) 0 0 0 0 0 0 0):=h;clear g h
 go_wp2_with (first
  | (go_at_call 142;refine (l _).mono ?_;rintro e o⟨rfl,rfl⟩)
  | (go_at_call 168;refine (z1h _ c 2 _ (by exact i) (by decide) (by decide)).mono ?_;rintro e o⟨rfl,nq,rfl⟩)
  | (go_at_call 169;refine (z1o _ _).mono ?_;rintro e o⟨rfl,rfl⟩))
 exact z0P (wq:=((w1.drewN _).setCell ⟨w.heap.size,2,none⟩ (J I (f2 - n))).setCell ⟨w.heap.size,4,none⟩ (J I (bo+n))) ((BAt.other (w:=w1.drewN _) j.out (by omega) _).other (by omega) _) (((below_drewN m.out _).setCell (by simp) _).setCell (by simp) _) f0 f1 (f2 - n) f3 (bo+n) wa bu 0 _ rfl rfl rfl
theorem q4p(f0 f1 f2 f3 bo wa bu n:Int)(c:Nat)(w:World)(hc:w.cell? ⟨c,0,none⟩=some (J I 3))(a:c<w.heap.size)(f:z1u f0 f1 f2 f3 bo wa bu=true)(b:0<=n)(d:n<=1125899906842624)(p:n<=f3) :
  Calls prog 145 #[J4 #[J I f0,J I f1,J I f2,J I f3,J I bo,J I wa,J I bu],(.func (.func 168) #[] #[J2 (some ⟨c,0,none⟩)]),(.func (.func 169) #[] #[]),J I n] w fun e w'=>e=.returned (.tuple #[J4 #[J I f0,J I f1,J I f2,J I (f3 - n),J I (bo+n),J I wa,J I bu],J I 0])/\Bl w w':=by
 have k:=z0o f0 f1 f2 f3 bo wa bu;rw[f]at k;have l:=z1p n;rw[decide_eq_true ⟨b,d⟩]at l;unfold z1u at f;obtain⟨q,r,g2,s,g4,t,u,v⟩:=of_decide_eq_true f;clear f;have k1:wrap64 (f3 - n)=f3 - n:=z0g (by omega) (by omega)
 have x:wrap64 (bo+n)=bo+n:=z0g (by omega) (by omega)
 clear q r g2 s g4 t u v b d
 go_enter func145,ntmps145
 go_wp2_with fail
 refine (k _).mono ?_;rintro e w1⟨rfl,hb⟩;obtain⟨g,h,m⟩:=z1q hb;clear hb;have i:w1.cell? ⟨c,0,none⟩=some (J I 3):=(m.out.cell a).trans hc;skip;clear hc a;obtain⟨y,z,A,B,C,D,E⟩:=g.cells;have y0:=g.frees.2.2.2.1;have F:=g.frees.2.2.2.2.1;obtain⟨G,u1,u2,H,K,L,M⟩:=h.frees;obtain⟨v0,v1,v2,v3,N,P,Q⟩:=h.cells;have j:Hid (BAt w1 (w.heap.size+1) 0 0 0 0 0 0 0):=h;clear g h
 go_wp2_with (first
  | (go_at_call 142;refine (l _).mono ?_;rintro e o⟨rfl,rfl⟩)
  | (go_at_call 168;refine (z1h _ c 3 _ (by exact i) (by decide) (by decide)).mono ?_;rintro e o⟨rfl,nq,rfl⟩)
  | (go_at_call 169;refine (z1o _ _).mono ?_;rintro e o⟨rfl,rfl⟩))
 exact z0P (wq:=((w1.drewN _).setCell ⟨w.heap.size,3,none⟩ (J I (f3 - n))).setCell ⟨w.heap.size,4,none⟩ (J I (bo+n))) ((BAt.other (w:=w1.drewN _) j.out (by omega) _).other (by omega) _) (((below_drewN m.out _).setCell (by simp) _).setCell (by simp) _) f0 f1 f2 (f3 - n) (bo+n) wa bu 0 _ rfl rfl rfl
end
end Go.Proofs.YtddlhnoedldidaaGreat
