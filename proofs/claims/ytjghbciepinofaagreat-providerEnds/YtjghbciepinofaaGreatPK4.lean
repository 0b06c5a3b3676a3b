/- Parts of the proof. -/
import Derived.Test.YtjghbciepinofaaGreatPL
import Derived.Test.YtjghbciepinofaaGreatPK22
set_option maxRecDepth 100000
set_option maxHeartbeats 16000000
namespace Go.Proofs.YtjghbciepinofaaGreat
open Go.Proofs.Tryz
open Value renaming int->J,slice->J1,pointer->J2,bool->J3,agg->J4
open IntKind renaming i64->I
open Obj renaming cells->J5
section
open Go.RowKit
theorem q1B(f0 f1 f2 f3 bo wa bu n:Int)(w:World)(c:z0v f0 f1 f2 f3 bo wa bu=true)(a:0<=n)(b:n<=1125899906842624)(l:n<=bo) :
  Calls prog 114 #[J4 #[J I f0,J I f1,J I f2,J I f3,J I bo,J I wa,J I bu],(.func (.func 122) #[] #[]),(.func (.func 123) #[] #[]),J I n] w fun e w'=>e=.returned (.tuple #[J4 #[J I f0,J I f1,J I f2,J I f3,J I (bo - n),J I (wa+n),J I bu],J I 0])/\Bl w w':=by
 have h:=z0u f0 f1 f2 f3 bo wa bu;rw[c]at h;have i:=z1q n;rw[decide_eq_true ⟨a,b⟩]at i;unfold z0v at c;obtain⟨m,o,p,q,g4,r,s,t⟩:=of_decide_eq_true c;clear c;have v:wrap64 (bo - n)=bo - n:=z0a (by omega) (by omega)
 have x:wrap64 (wa+n)=wa+n:=z0a (by omega) (by omega)
 clear m o p q g4 r s t a b
 go_enter func114,ntmps114
 go_wp2_with fail
 refine (h _).mono ?_;rintro e w1⟨rfl,j⟩;obtain⟨d,f,u⟩:=z1r j;clear j;obtain⟨y,z,A,B,C,D,E⟩:=d.cells;have y0:=d.frees.2.2.2.2.1;have y1:=d.frees.2.2.2.2.2.1;obtain⟨F,u1,u2,G,H,K,L⟩:=f.frees;obtain⟨v0,v1,v2,v3,M,N,P⟩:=f.cells;have g:Hid (BAt w1 (w.heap.size+1) 0 0 0 0 0 0 0):=f;clear d f
 go_wp2_with (first
  | (go_at_call 121;refine (i _).mono ?_;rintro e k⟨rfl,rfl⟩)
  | (go_at_call 122;refine (z1o _ _).mono ?_;rintro e k⟨rfl,rfl⟩)
  | (go_at_call 123;refine (z1b _ _).mono ?_;rintro e k⟨rfl,rfl⟩))
 exact z0V ((g.out.other (by omega) _).other (by omega) _) ((u.out.setCell (by simp) _).setCell (by simp) _) f0 f1 f2 f3 (bo - n) (wa+n) bu 0 _ rfl rfl rfl
theorem q1D(f0 f1 f2 f3 bo wa bu n:Int)(w:World)(c:z0v f0 f1 f2 f3 bo wa bu=true)(a:0<=n)(b:n<=1125899906842624)(l:n<=bo) :
  Calls prog 114 #[J4 #[J I f0,J I f1,J I f2,J I f3,J I bo,J I wa,J I bu],(.func (.func 122) #[] #[]),(.func (.func 124) #[] #[]),J I n] w fun e w'=>e=.returned (.tuple #[J4 #[J I f0,J I f1,J I f2,J I f3,J I (bo - n),J I wa,J I (bu+n)],J I 0])/\Bl w w':=by
 have h:=z0u f0 f1 f2 f3 bo wa bu;rw[c]at h;have i:=z1q n;rw[decide_eq_true ⟨a,b⟩]at i;unfold z0v at c;obtain⟨m,o,p,q,g4,r,s,t⟩:=of_decide_eq_true c;clear c;have v:wrap64 (bo - n)=bo - n:=z0a (by omega) (by omega)
 have x:wrap64 (bu+n)=bu+n:=z0a (by omega) (by omega)
 clear m o p q g4 r s t a b
 go_enter func114,ntmps114
 go_wp2_with fail
 refine (h _).mono ?_;rintro e w1⟨rfl,j⟩;obtain⟨d,f,u⟩:=z1r j;clear j;obtain⟨y,z,A,B,C,D,E⟩:=d.cells;have y0:=d.frees.2.2.2.2.1;have y1:=d.frees.2.2.2.2.2.2;obtain⟨F,u1,u2,G,H,K,L⟩:=f.frees;obtain⟨v0,v1,v2,v3,M,N,P⟩:=f.cells;have g:Hid (BAt w1 (w.heap.size+1) 0 0 0 0 0 0 0):=f;clear d f
 go_wp2_with (first
  | (go_at_call 121;refine (i _).mono ?_;rintro e k⟨rfl,rfl⟩)
  | (go_at_call 122;refine (z1o _ _).mono ?_;rintro e k⟨rfl,rfl⟩)
  | (go_at_call 124;refine (z3x _ _).mono ?_;rintro e k⟨rfl,rfl⟩))
 exact z0V ((g.out.other (by omega) _).other (by omega) _) ((u.out.setCell (by simp) _).setCell (by simp) _) f0 f1 f2 f3 (bo - n) wa (bu+n) 0 _ rfl rfl rfl
theorem q0D(f0 f1 f2 f3 bo wa bu n:Int)(w:World)(c:z0v f0 f1 f2 f3 bo wa bu=true)(a:0<=n)(b:n<=1125899906842624)(l:n<=wa) :
  Calls prog 114 #[J4 #[J I f0,J I f1,J I f2,J I f3,J I bo,J I wa,J I bu],(.func (.func 123) #[] #[]),(.func (.func 124) #[] #[]),J I n] w fun e w'=>e=.returned (.tuple #[J4 #[J I f0,J I f1,J I f2,J I f3,J I bo,J I (wa - n),J I (bu+n)],J I 0])/\Bl w w':=by
 have h:=z0u f0 f1 f2 f3 bo wa bu;rw[c]at h;have i:=z1q n;rw[decide_eq_true ⟨a,b⟩]at i;unfold z0v at c;obtain⟨m,o,p,q,g4,r,s,t⟩:=of_decide_eq_true c;clear c;have v:wrap64 (wa - n)=wa - n:=z0a (by omega) (by omega)
 have x:wrap64 (bu+n)=bu+n:=z0a (by omega) (by omega)
 clear m o p q g4 r s t a b
 go_enter func114,ntmps114
 go_wp2_with fail
 refine (h _).mono ?_;rintro e w1⟨rfl,j⟩;obtain⟨d,f,u⟩:=z1r j;clear j;obtain⟨y,z,A,B,C,D,E⟩:=d.cells;have y0:=d.frees.2.2.2.2.2.1;have y1:=d.frees.2.2.2.2.2.2;obtain⟨F,u1,u2,G,H,K,L⟩:=f.frees;obtain⟨v0,v1,v2,v3,M,N,P⟩:=f.cells;have g:Hid (BAt w1 (w.heap.size+1) 0 0 0 0 0 0 0):=f;clear d f
 go_wp2_with (first
  | (go_at_call 121;refine (i _).mono ?_;rintro e k⟨rfl,rfl⟩)
  | (go_at_call 123;refine (z1b _ _).mono ?_;rintro e k⟨rfl,rfl⟩)
  | (go_at_call 124;refine (z3x _ _).mono ?_;rintro e k⟨rfl,rfl⟩))
 exact z0V ((g.out.other (by omega) _).other (by omega) _) ((u.out.setCell (by simp) _).setCell (by simp) _) f0 f1 f2 f3 bo (wa - n) (bu+n) 0 _ rfl rfl rfl
end
end Go.Proofs.YtjghbciepinofaaGreat
