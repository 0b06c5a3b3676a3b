/- Parts of the proof. -/
import Derived.Test.YtjghbciepinofaaGreatPL
import Derived.Test.YtjghbciepinofaaGreatPK22
set_option maxRecDepth 100000
set_option maxHeartbeats 16000000
namespace Go.Proofs.YtjghbciepinofaaGreat
open Go.Proofs.Tryz
open Value renaming int->J,slice->J1,pointer->J2,bool->J3,agg->J4
open IntKind renaming i64->I
open Obj renaming cells->J5
section
open Go.RowKit
theorem z7F(f0 f1 f2 f3 bo wa bu n:Int)(c:Nat)(q:Value)(w:World)(i:w.cell? ⟨c,0,none⟩=some (J I 0))(a:c<w.heap.size)(j:z0v f0 f1 f2 f3 bo wa bu=true)(b:0<=n)(d:n<=1125899906842624)(r:f0<n) :
  Calls prog 114 #[J4 #[J I f0,J I f1,J I f2,J I f3,J I bo,J I wa,J I bu],(.func (.func 125) #[] #[J2 (some ⟨c,0,none⟩)]),q,J I n] w fun e w'=>e=.returned (.tuple #[J4 #[J I f0,J I f1,J I f2,J I f3,J I bo,J I wa,J I bu],J I 7])/\Bl w w':=by
 have k:=z0u f0 f1 f2 f3 bo wa bu;rw[j]at k;have l:=z1q n;rw[decide_eq_true ⟨b,d⟩]at l;clear j b d
 go_enter func114,ntmps114
 go_wp2_with fail
 refine (k _).mono ?_;rintro e w1⟨rfl,m⟩;obtain⟨o,f,p⟩:=z1r m;clear m;have g:w1.cell? ⟨c,0,none⟩=some (J I 0):=(p.out.cell a).trans i;clear i a;obtain⟨t,u,v,x,y,z,A⟩:=o.cells;obtain⟨B,u1,u2,C,D,E,F⟩:=f.frees;obtain⟨v0,v1,v2,v3,G,H,K⟩:=f.cells;have h:Hid (BAt w1 (w.heap.size+1) 0 0 0 0 0 0 0):=f;clear o f
 go_wp2_with (first
  | (go_at_call 121;refine (l _).mono ?_;rintro e s⟨rfl,rfl⟩)
  | (go_at_call 125;refine (z1d _ c 0 _ (by exact g) (by decide) (by decide)).mono ?_;rintro e s⟨rfl,nq,rfl⟩))
 exact z0V (wq:=w1.drewN _) h.out (below_drewN p.out _) f0 f1 f2 f3 bo wa bu 7 _ rfl rfl rfl
theorem z8t(f0 f1 f2 f3 bo wa bu n:Int)(c:Nat)(q:Value)(w:World)(i:w.cell? ⟨c,0,none⟩=some (J I 1))(a:c<w.heap.size)(j:z0v f0 f1 f2 f3 bo wa bu=true)(b:0<=n)(d:n<=1125899906842624)(r:f1<n) :
  Calls prog 114 #[J4 #[J I f0,J I f1,J I f2,J I f3,J I bo,J I wa,J I bu],(.func (.func 125) #[] #[J2 (some ⟨c,0,none⟩)]),q,J I n] w fun e w'=>e=.returned (.tuple #[J4 #[J I f0,J I f1,J I f2,J I f3,J I bo,J I wa,J I bu],J I 7])/\Bl w w':=by
 have k:=z0u f0 f1 f2 f3 bo wa bu;rw[j]at k;have l:=z1q n;rw[decide_eq_true ⟨b,d⟩]at l;clear j b d
 go_enter func114,ntmps114
 go_wp2_with fail
 refine (k _).mono ?_;rintro e w1⟨rfl,m⟩;obtain⟨o,f,p⟩:=z1r m;clear m;have g:w1.cell? ⟨c,0,none⟩=some (J I 1):=(p.out.cell a).trans i;clear i a;obtain⟨t,u,v,x,y,z,A⟩:=o.cells;obtain⟨B,u1,u2,C,D,E,F⟩:=f.frees;obtain⟨v0,v1,v2,v3,G,H,K⟩:=f.cells;have h:Hid (BAt w1 (w.heap.size+1) 0 0 0 0 0 0 0):=f;clear o f
 go_wp2_with (first
  | (go_at_call 121;refine (l _).mono ?_;rintro e s⟨rfl,rfl⟩)
  | (go_at_call 125;refine (z1d _ c 1 _ (by exact g) (by decide) (by decide)).mono ?_;rintro e s⟨rfl,nq,rfl⟩))
 exact z0V (wq:=w1.drewN _) h.out (below_drewN p.out _) f0 f1 f2 f3 bo wa bu 7 _ rfl rfl rfl
theorem z7G(f0 f1 f2 f3 bo wa bu n:Int)(c:Nat)(q:Value)(w:World)(i:w.cell? ⟨c,0,none⟩=some (J I 2))(a:c<w.heap.size)(j:z0v f0 f1 f2 f3 bo wa bu=true)(b:0<=n)(d:n<=1125899906842624)(r:f2<n) :
  Calls prog 114 #[J4 #[J I f0,J I f1,J I f2,J I f3,J I bo,J I wa,J I bu],(.func (.func 125) #[] #[J2 (some ⟨c,0,none⟩)]),q,J I n] w fun e w'=>e=.returned (.tuple #[J4 #[J I f0,J I f1,J I f2,J I f3,J I bo,J I wa,J I bu],J I 7])/\Bl w w':=by
 have k:=z0u f0 f1 f2 f3 bo wa bu;rw[j]at k;have l:=z1q n;rw[decide_eq_true ⟨b,d⟩]at l;clear j b d
 go_enter func114,ntmps114
 go_wp2_with fail
 refine (k _).mono ?_;rintro e w1⟨rfl,m⟩;obtain⟨o,f,p⟩:=z1r m;clear m;have g:w1.cell? ⟨c,0,none⟩=some (J I 2):=(p.out.cell a).trans i;clear i a;obtain⟨t,u,v,x,y,z,A⟩:=o.cells;obtain⟨B,u1,u2,C,D,E,F⟩:=f.frees;obtain⟨v0,v1,v2,v3,G,H,K⟩:=f.cells;have h:Hid (BAt w1 (w.heap.size+1) 0 0 0 0 0 0 0):=f;clear o f
 go_wp2_with (first
  | (go_at_call 121;refine (l _).mono ?_;rintro e s⟨rfl,rfl⟩)
  | (go_at_call 125;refine (z1d _ c 2 _ (by exact g) (by decide) (by decide)).mono ?_;rintro e s⟨rfl,nq,rfl⟩))
 exact z0V (wq:=w1.drewN _) h.out (below_drewN p.out _) f0 f1 f2 f3 bo wa bu 7 _ rfl rfl rfl
theorem z7N(f0 f1 f2 f3 bo wa bu n:Int)(c:Nat)(q:Value)(w:World)(i:w.cell? ⟨c,0,none⟩=some (J I 3))(a:c<w.heap.size)(j:z0v f0 f1 f2 f3 bo wa bu=true)(b:0<=n)(d:n<=1125899906842624)(r:f3<n) :
  Calls prog 114 #[J4 #[J I f0,J I f1,J I f2,J I f3,J I bo,J I wa,J I bu],(.func (.func 125) #[] #[J2 (some ⟨c,0,none⟩)]),q,J I n] w fun e w'=>e=.returned (.tuple #[J4 #[J I f0,J I f1,J I f2,J I f3,J I bo,J I wa,J I bu],J I 7])/\Bl w w':=by
 have k:=z0u f0 f1 f2 f3 bo wa bu;rw[j]at k;have l:=z1q n;rw[decide_eq_true ⟨b,d⟩]at l;clear j b d
 go_enter func114,ntmps114
 go_wp2_with fail
 refine (k _).mono ?_;rintro e w1⟨rfl,m⟩;obtain⟨o,f,p⟩:=z1r m;clear m;have g:w1.cell? ⟨c,0,none⟩=some (J I 3):=(p.out.cell a).trans i;clear i a;obtain⟨t,u,v,x,y,z,A⟩:=o.cells;obtain⟨B,u1,u2,C,D,E,F⟩:=f.frees;obtain⟨v0,v1,v2,v3,G,H,K⟩:=f.cells;have h:Hid (BAt w1 (w.heap.size+1) 0 0 0 0 0 0 0):=f;clear o f
 go_wp2_with (first
  | (go_at_call 121;refine (l _).mono ?_;rintro e s⟨rfl,rfl⟩)
  | (go_at_call 125;refine (z1d _ c 3 _ (by exact g) (by decide) (by decide)).mono ?_;rintro e s⟨rfl,nq,rfl⟩))
 exact z0V (wq:=w1.drewN _) h.out (below_drewN p.out _) f0 f1 f2 f3 bo wa bu 7 _ rfl rfl rfl
theorem z4S(f0 f1 f2 f3 bo wa bu n:Int)(k:Value)(w:World)(f:z0v f0 f1 f2 f3 bo wa bu=true)(a:0<=n)(b:n<=1125899906842624)(l:bo<n) :
  Calls prog 114 #[J4 #[J I f0,J I f1,J I f2,J I f3,J I bo,J I wa,J I bu],(.func (.func 122) #[] #[]),k,J I n] w fun e w'=>e=.returned (.tuple #[J4 #[J I f0,J I f1,J I f2,J I f3,J I bo,J I wa,J I bu],J I 7])/\Bl w w':=by
 have g:=z0u f0 f1 f2 f3 bo wa bu;rw[f]at g;have h:=z1q n;rw[decide_eq_true ⟨a,b⟩]at h;clear f a b
 go_enter func114,ntmps114
 go_wp2_with fail
 refine (g _).mono ?_;rintro e w1⟨rfl,i⟩;obtain⟨j,c,m⟩:=z1r i;clear i;obtain⟨p,q,r,s,t,u,v⟩:=j.cells;obtain⟨x,u1,u2,y,z,A,B⟩:=c.frees;obtain⟨v0,v1,v2,v3,C,D,E⟩:=c.cells;have d:Hid (BAt w1 (w.heap.size+1) 0 0 0 0 0 0 0):=c;clear j c
 go_wp2_with (first
  | (go_at_call 121;refine (h _).mono ?_;rintro e o⟨rfl,rfl⟩)
  | (go_at_call 122;refine (z1o _ _).mono ?_;rintro e o⟨rfl,rfl⟩))
 exact z0V d.out m.out f0 f1 f2 f3 bo wa bu 7 _ rfl rfl rfl
theorem z1V(f0 f1 f2 f3 bo wa bu n:Int)(k:Value)(w:World)(f:z0v f0 f1 f2 f3 bo wa bu=true)(a:0<=n)(b:n<=1125899906842624)(l:wa<n) :
  Calls prog 114 #[J4 #[J I f0,J I f1,J I f2,J I f3,J I bo,J I wa,J I bu],(.func (.func 123) #[] #[]),k,J I n] w fun e w'=>e=.returned (.tuple #[J4 #[J I f0,J I f1,J I f2,J I f3,J I bo,J I wa,J I bu],J I 7])/\Bl w w':=by
 have g:=z0u f0 f1 f2 f3 bo wa bu;rw[f]at g;have h:=z1q n;rw[decide_eq_true ⟨a,b⟩]at h;clear f a b
 go_enter func114,ntmps114
 go_wp2_with fail
 refine (g _).mono ?_;rintro e w1⟨rfl,i⟩;obtain⟨j,c,m⟩:=z1r i;clear i;obtain⟨p,q,r,s,t,u,v⟩:=j.cells;obtain⟨x,u1,u2,y,z,A,B⟩:=c.frees;obtain⟨v0,v1,v2,v3,C,D,E⟩:=c.cells;have d:Hid (BAt w1 (w.heap.size+1) 0 0 0 0 0 0 0):=c;clear j c
 go_wp2_with (first
  | (go_at_call 121;refine (h _).mono ?_;rintro e o⟨rfl,rfl⟩)
  | (go_at_call 123;refine (z1b _ _).mono ?_;rintro e o⟨rfl,rfl⟩))
 exact z0V d.out m.out f0 f1 f2 f3 bo wa bu 7 _ rfl rfl rfl
theorem z0x(f0 f1 f2 f3 bo wa bu n:Int)(h i:Value)(w:World)(c:z0v f0 f1 f2 f3 bo wa bu=false) :
  Calls prog 114 #[J4 #[J I f0,J I f1,J I f2,J I f3,J I bo,J I wa,J I bu],h,i,J I n] w fun e w'=>e=.returned (.tuple #[J4 #[J I f0,J I f1,J I f2,J I f3,J I bo,J I wa,J I bu],J I 2])/\Bl w w':=by
 have d:=z0u f0 f1 f2 f3 bo wa bu;rw[c]at d;clear c
 go_enter func114,ntmps114
 go_wp2_with fail
 refine (d _).mono ?_;rintro e w1⟨rfl,f⟩;obtain⟨g,a,j⟩:=z1r f;clear f;obtain⟨k,l,m,o,p,q,r⟩:=g.cells;obtain⟨s,u1,u2,t,u,v,x⟩:=a.frees;obtain⟨v0,v1,v2,v3,y,z,A⟩:=a.cells;have b:Hid (BAt w1 (w.heap.size+1) 0 0 0 0 0 0 0):=a;clear g a;go_wp2;exact z0V b.out j.out f0 f1 f2 f3 bo wa bu 2 _ rfl rfl rfl
theorem z0B(f0 f1 f2 f3 bo wa bu n:Int)(j k:Value)(w:World)(c:z0v f0 f1 f2 f3 bo wa bu=true)(d:¬ (0<=n/\n<=1125899906842624)) :
  Calls prog 114 #[J4 #[J I f0,J I f1,J I f2,J I f3,J I bo,J I wa,J I bu],j,k,J I n] w fun e w'=>e=.returned (.tuple #[J4 #[J I f0,J I f1,J I f2,J I f3,J I bo,J I wa,J I bu],J I 2])/\Bl w w':=by
 have f:=z0u f0 f1 f2 f3 bo wa bu;rw[c]at f;clear c;have g:=z1q n;rw[decide_eq_false d]at g;clear d
 go_enter func114,ntmps114
 go_wp2_with fail
 refine (f _).mono ?_;rintro e w1⟨rfl,h⟩;obtain⟨i,a,l⟩:=z1r h;clear h;obtain⟨m,o,p,q,r,s,t⟩:=i.cells;obtain⟨u,u1,u2,v,x,y,z⟩:=a.frees;obtain⟨v0,v1,v2,v3,A,B,C⟩:=a.cells;have b:Hid (BAt w1 (w.heap.size+1) 0 0 0 0 0 0 0):=a;clear i a
 go_wp2_with (go_at_call 121;refine (g _).mono ?_;rintro e D⟨rfl,rfl⟩)
 exact z0V b.out l.out f0 f1 f2 f3 bo wa bu 2 _ rfl rfl rfl
end
end Go.Proofs.YtjghbciepinofaaGreat
