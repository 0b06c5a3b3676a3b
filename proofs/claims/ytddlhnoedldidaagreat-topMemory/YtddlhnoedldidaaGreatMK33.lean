/- Parts of the proof. -/
import Derived.Test.YtddlhnoedldidaaGreatML
import Derived.Test.YtddlhnoedldidaaGreatMK30
set_option maxRecDepth 100000
set_option maxHeartbeats 16000000
namespace Go.Proofs.YtddlhnoedldidaaGreat
open Go.Proofs.Tryz
open Value renaming int->J,slice->J1,pointer->J2,bool->J3,agg->J4
open IntKind renaming i64->I
open Obj renaming cells->J5
section
open Go.RowKit
theorem q0g(f0 f1 f2 f3 bo wa bu n:Int)(c:Nat)(o:Value)(w:World)(hc:w.cell? ⟨c,0,none⟩=some (J I 0))(a:c<w.heap.size)(i:z1u f0 f1 f2 f3 bo wa bu=true)(b:0<=n)(d:n<=1125899906842624)(p:f0<n) :
  Calls prog 145 #[J4 #[J I f0,J I f1,J I f2,J I f3,J I bo,J I wa,J I bu],(.func (.func 168) #[] #[J2 (some ⟨c,0,none⟩)]),o,J I n] w fun e w'=>e=.returned (.tuple #[J4 #[J I f0,J I f1,J I f2,J I f3,J I bo,J I wa,J I bu],J I 7])/\Bl w w':=by
 have j:=z0o f0 f1 f2 f3 bo wa bu;rw[i]at j;have k:=z1p n;rw[decide_eq_true ⟨b,d⟩]at k;clear i b d
 go_enter func145,ntmps145
 go_wp2_with fail
 refine (j _).mono ?_;rintro e w1⟨rfl,hb⟩;obtain⟨l,f,m⟩:=z1q hb;clear hb;have g:w1.cell? ⟨c,0,none⟩=some (J I 0):=(m.out.cell a).trans hc;clear hc a;obtain⟨r,s,t,u,v,x,y⟩:=l.cells;obtain⟨z,u1,u2,A,B,C,D⟩:=f.frees;obtain⟨v0,v1,v2,v3,E,F,G⟩:=f.cells;have h:Hid (BAt w1 (w.heap.size+1) 0 0 0 0 0 0 0):=f;clear l f
 go_wp2_with (first
  | (go_at_call 142;refine (k _).mono ?_;rintro e q⟨rfl,rfl⟩)
  | (go_at_call 168;refine (z1h _ c 0 _ (by exact g) (by decide) (by decide)).mono ?_;rintro e q⟨rfl,nq,rfl⟩))
 exact z0P (wq:=w1.drewN _) h.out (below_drewN m.out _) f0 f1 f2 f3 bo wa bu 7 _ rfl rfl rfl
theorem q0O(f0 f1 f2 f3 bo wa bu n:Int)(c:Nat)(o:Value)(w:World)(hc:w.cell? ⟨c,0,none⟩=some (J I 1))(a:c<w.heap.size)(i:z1u f0 f1 f2 f3 bo wa bu=true)(b:0<=n)(d:n<=1125899906842624)(p:f1<n) :
  Calls prog 145 #[J4 #[J I f0,J I f1,J I f2,J I f3,J I bo,J I wa,J I bu],(.func (.func 168) #[] #[J2 (some ⟨c,0,none⟩)]),o,J I n] w fun e w'=>e=.returned (.tuple #[J4 #[J I f0,J I f1,J I f2,J I f3,J I bo,J I wa,J I bu],J I 7])/\Bl w w':=by
 have j:=z0o f0 f1 f2 f3 bo wa bu;rw[i]at j;have k:=z1p n;rw[decide_eq_true ⟨b,d⟩]at k;clear i b d
 go_enter func145,ntmps145
 go_wp2_with fail
 refine (j _).mono ?_;rintro e w1⟨rfl,hb⟩;obtain⟨l,f,m⟩:=z1q hb;clear hb;have g:w1.cell? ⟨c,0,none⟩=some (J I 1):=(m.out.cell a).trans hc;clear hc a;obtain⟨r,s,t,u,v,x,y⟩:=l.cells;obtain⟨z,u1,u2,A,B,C,D⟩:=f.frees;obtain⟨v0,v1,v2,v3,E,F,G⟩:=f.cells;have h:Hid (BAt w1 (w.heap.size+1) 0 0 0 0 0 0 0):=f;clear l f
 go_wp2_with (first
  | (go_at_call 142;refine (k _).mono ?_;rintro e q⟨rfl,rfl⟩)
  | (go_at_call 168;refine (z1h _ c 1 _ (by exact g) (by decide) (by decide)).mono ?_;rintro e q⟨rfl,nq,rfl⟩))
 exact z0P (wq:=w1.drewN _) h.out (below_drewN m.out _) f0 f1 f2 f3 bo wa bu 7 _ rfl rfl rfl
theorem q0j(f0 f1 f2 f3 bo wa bu n:Int)(c:Nat)(o:Value)(w:World)(hc:w.cell? ⟨c,0,none⟩=some (J I 2))(a:c<w.heap.size)(i:z1u f0 f1 f2 f3 bo wa bu=true)(b:0<=n)(d:n<=1125899906842624)(p:f2<n) :
  Calls prog 145 #[J4 #[J I f0,J I f1,J I f2,J I f3,J I bo,J I wa,J I bu],(.func (.func 168) #[] #[J2 (some ⟨c,0,none⟩)]),o,J I n] w fun e w'=>e=.returned (.tuple #[J4 #[J I f0,J I f1,J I f2,J I f3,J I bo,J I wa,J I bu],J I 7])/\Bl w w':=by
 have j:=z0o f0 f1 f2 f3 bo wa bu;rw[i]at j;have k:=z1p n;rw[decide_eq_true ⟨b,d⟩]at k;clear i b d
 go_enter func145,ntmps145
 go_wp2_with fail
 refine (j _).mono ?_;rintro e w1⟨rfl,hb⟩;obtain⟨l,f,m⟩:=z1q hb;clear hb;have g:w1.cell? ⟨c,0,none⟩=some (J I 2):=(m.out.cell a).trans hc;clear hc a;obtain⟨r,s,t,u,v,x,y⟩:=l.cells;obtain⟨z,u1,u2,A,B,C,D⟩:=f.frees;obtain⟨v0,v1,v2,v3,E,F,G⟩:=f.cells;have h:Hid (BAt w1 (w.heap.size+1) 0 0 0 0 0 0 0):=f;clear l f
 go_wp2_with (first
  | (go_at_call 142;refine (k _).mono ?_;rintro e q⟨rfl,rfl⟩)
  | (go_at_call 168;refine (z1h _ c 2 _ (by exact g) (by decide) (by decide)).mono ?_;rintro e q⟨rfl,nq,rfl⟩))
 exact z0P (wq:=w1.drewN _) h.out (below_drewN m.out _) f0 f1 f2 f3 bo wa bu 7 _ rfl rfl rfl
theorem q0b(f0 f1 f2 f3 bo wa bu n:Int)(c:Nat)(o:Value)(w:World)(hc:w.cell? ⟨c,0,none⟩=some (J I 3))(a:c<w.heap.size)(i:z1u f0 f1 f2 f3 bo wa bu=true)(b:0<=n)(d:n<=1125899906842624)(p:f3<n) :
  Calls prog 145 #[J4 #[J I f0,J I f1,J I f2,J I f3,J I bo,J I wa,J I bu],(.func (.func 168) #[] #[J2 (some ⟨c,0,none⟩)]),o,J I n] w fun e w'=>e=.returned (.tuple #[J4 #[J I f0,J I f1,J I f2,J I f3,J I bo,J I wa,J I bu],J I 7])/\Bl w w':=by
 have j:=z0o f0 f1 f2 f3 bo wa bu;rw[i]at j;have k:=z1p n;rw[decide_eq_true ⟨b,d⟩]at k;clear i b d
 go_enter func145,ntmps145
 go_wp2_with fail
 refine (j _).mono ?_;rintro e w1⟨rfl,hb⟩;obtain⟨l,f,m⟩:=z1q hb;clear hb;have g:w1.cell? ⟨c,0,none⟩=some (J I 3):=(m.out.cell a).trans hc;clear hc a;obtain⟨r,s,t,u,v,x,y⟩:=l.cells;obtain⟨z,u1,u2,A,B,C,D⟩:=f.frees;obtain⟨v0,v1,v2,v3,E,F,G⟩:=f.cells;have h:Hid (BAt w1 (w.heap.size+1) 0 0 0 0 0 0 0):=f;clear l f
 go_wp2_with (first
  | (go_at_call 142;refine (k _).mono ?_;rintro e q⟨rfl,rfl⟩)
  | (go_at_call 168;refine (z1h _ c 3 _ (by exact g) (by decide) (by decide)).mono ?_;rintro e q⟨rfl,nq,rfl⟩))
 exact z0P (wq:=w1.drewN _) h.out (below_drewN m.out _) f0 f1 f2 f3 bo wa bu 7 _ rfl rfl rfl
theorem z6w(f0 f1 f2 f3 bo wa bu n:Int)(j:Value)(w:World)(f:z1u f0 f1 f2 f3 bo wa bu=true)(a:0<=n)(b:n<=1125899906842624)(k:bo<n) :
  Calls prog 145 #[J4 #[J I f0,J I f1,J I f2,J I f3,J I bo,J I wa,J I bu],(.func (.func 169) #[] #[]),j,J I n] w fun e w'=>e=.returned (.tuple #[J4 #[J I f0,J I f1,J I f2,J I f3,J I bo,J I wa,J I bu],J I 7])/\Bl w w':=by
 have g:=z0o f0 f1 f2 f3 bo wa bu;rw[f]at g;have h:=z1p n;rw[decide_eq_true ⟨a,b⟩]at h;clear f a b
 go_enter func145,ntmps145
 go_wp2_with fail
 refine (g _).mono ?_;rintro e w1⟨rfl,hb⟩;obtain⟨i,c,l⟩:=z1q hb;clear hb;obtain⟨o,p,q,r,s,t,u⟩:=i.cells;obtain⟨v,u1,u2,x,y,z,A⟩:=c.frees;obtain⟨v0,v1,v2,v3,B,C,D⟩:=c.cells;have d:Hid (BAt w1 (w.heap.size+1) 0 0 0 0 0 0 0):=c;clear i c
 go_wp2_with (first
  | (go_at_call 142;refine (h _).mono ?_;rintro e m⟨rfl,rfl⟩)
  | (go_at_call 169;refine (z1o _ _).mono ?_;rintro e m⟨rfl,rfl⟩))
 exact z0P d.out l.out f0 f1 f2 f3 bo wa bu 7 _ rfl rfl rfl
theorem z2B(f0 f1 f2 f3 bo wa bu n:Int)(j:Value)(w:World)(f:z1u f0 f1 f2 f3 bo wa bu=true)(a:0<=n)(b:n<=1125899906842624)(k:wa<n) :
  Calls prog 145 #[J4 #[J I f0,J I f1,J I f2,J I f3,J I bo,J I wa,J I bu],(.func (.func 170) #[] #[]),j,J I n] w fun e w'=>e=.returned (.tuple #[J4 #[J I f0,J I f1,J I f2,J I f3,J I bo,J I wa,J I bu],J I 7])/\Bl w w':=by
 have g:=z0o f0 f1 f2 f3 bo wa bu;rw[f]at g;have h:=z1p n;rw[decide_eq_true ⟨a,b⟩]at h;clear f a b
 go_enter func145,ntmps145
 go_wp2_with fail
 refine (g _).mono ?_;rintro e w1⟨rfl,hb⟩;obtain⟨i,c,l⟩:=z1q hb;clear hb;obtain⟨o,p,q,r,s,t,u⟩:=i.cells;obtain⟨v,u1,u2,x,y,z,A⟩:=c.frees;obtain⟨v0,v1,v2,v3,B,C,D⟩:=c.cells;have d:Hid (BAt w1 (w.heap.size+1) 0 0 0 0 0 0 0):=c;clear i c
 go_wp2_with (first
  | (go_at_call 142;refine (h _).mono ?_;rintro e m⟨rfl,rfl⟩)
  | (go_at_call 170;refine (z1i _ _).mono ?_;rintro e m⟨rfl,rfl⟩))
 exact z0P d.out l.out f0 f1 f2 f3 bo wa bu 7 _ rfl rfl rfl
theorem z0z(f0 f1 f2 f3 bo wa bu n:Int)(g h:Value)(w:World)(c:z1u f0 f1 f2 f3 bo wa bu=false) :
  Calls prog 145 #[J4 #[J I f0,J I f1,J I f2,J I f3,J I bo,J I wa,J I bu],g,h,J I n] w fun e w'=>e=.returned (.tuple #[J4 #[J I f0,J I f1,J I f2,J I f3,J I bo,J I wa,J I bu],J I 2])/\Bl w w':=by
 have d:=z0o f0 f1 f2 f3 bo wa bu;rw[c]at d;clear c
 go_enter func145,ntmps145
 go_wp2_with fail
 refine (d _).mono ?_;rintro e w1⟨rfl,hb⟩;obtain⟨f,a,i⟩:=z1q hb;clear hb;obtain⟨j,k,l,m,o,p,q⟩:=f.cells;obtain⟨r,u1,u2,s,t,u,v⟩:=a.frees;obtain⟨v0,v1,v2,v3,x,y,z⟩:=a.cells;have b:Hid (BAt w1 (w.heap.size+1) 0 0 0 0 0 0 0):=a;clear f a;go_wp2;exact z0P b.out i.out f0 f1 f2 f3 bo wa bu 2 _ rfl rfl rfl
theorem z0E(f0 f1 f2 f3 bo wa bu n:Int)(i j:Value)(w:World)(c:z1u f0 f1 f2 f3 bo wa bu=true)(d:¬ (0<=n/\n<=1125899906842624)) :
  Calls prog 145 #[J4 #[J I f0,J I f1,J I f2,J I f3,J I bo,J I wa,J I bu],i,j,J I n] w fun e w'=>e=.returned (.tuple #[J4 #[J I f0,J I f1,J I f2,J I f3,J I bo,J I wa,J I bu],J I 2])/\Bl w w':=by
 have f:=z0o f0 f1 f2 f3 bo wa bu;rw[c]at f;clear c;have g:=z1p n;rw[decide_eq_false d]at g;clear d
 go_enter func145,ntmps145
 go_wp2_with fail
 refine (f _).mono ?_;rintro e w1⟨rfl,hb⟩;obtain⟨h,a,k⟩:=z1q hb;clear hb;obtain⟨l,m,o,p,q,r,s⟩:=h.cells;obtain⟨t,u1,u2,u,v,x,y⟩:=a.frees;obtain⟨v0,v1,v2,v3,z,A,B⟩:=a.cells;have b:Hid (BAt w1 (w.heap.size+1) 0 0 0 0 0 0 0):=a;clear h a
 go_wp2_with (go_at_call 142;refine (g _).mono ?_;rintro e C⟨rfl,rfl⟩)
 exact z0P b.out k.out f0 f1 f2 f3 bo wa bu 2 _ rfl rfl rfl
theorem q3n{w wq:World}(R:BAt wq (w.heap.size+1) 0 0 0 0 0 0 0)(H:Bl w wq)(a r1 r2 c d f g h:Int)(act:Act)
  (k:act.tmps.getD 6 undef=J2 (some ⟨w.heap.size+1,0,none⟩)) (l:act.tmps.getD 7 undef=J I h) (hd:act.defers=[]) :
  bodyPost prog f101 (fun e w'=>e=.returned (.tuple #[J4 #[J I a,J I r1,J I r2,J I c,J I d,J I f,J I g],J I h])/\Bl w w') Exit.ret act
   (z6s wq (w.heap.size+1) a r1 r2 c d f g):=by
 have m:=R.z6s a r1 r2 c d f g;have n:=z2Q (b:=w.heap.size+1) H (by omega) a r1 r2 c d f g
 generalize z6s wq (w.heap.size+1) a r1 r2 c d f g=w9 at *;obtain⟨o,u1,u2,p,q,r,s⟩:=m.cells;have i:act.tmps[6]?.getD undef=J2 (some ⟨w.heap.size+1,0,none⟩):=by simpa using k
 have j:act.tmps[7]?.getD undef=J I h:=by simpa using l
 exact bodyPost_ret (v:=.tuple #[J4 #[J I a,J I r1,J I r2,J I c,J I d,J I f,J I g],J I h]) (by simp[results,results101,go_sem,i,j,o,u1,u2,p,q,r,s]) hd ⟨rfl,n⟩
theorem q5Y(f0 f1 f2 f3 bo wa bu d n f r1 r2 g h i j k:Int)(w:World)(h0:0<=d)(h1:d<4)
  (l:∀ (c:Nat) (w:World),w.cell? ⟨c,0,none⟩=some (J I d)->c<w.heap.size->Calls prog 145 #[J4 #[J I f0,J I f1,J I f2,J I f3,J I bo,J I wa,J I bu],.func (.func 168) #[] #[J2 (some ⟨c,0,none⟩)],.func (.func 169) #[] #[],J I n] w
   fun e w'=>e=.returned (.tuple #[J4 #[J I f,J I r1,J I r2,J I g,J I h,J I i,J I j],J I k])/\Bl w w') :
  Calls prog 101 #[J4 #[J I f0,J I f1,J I f2,J I f3,J I bo,J I wa,J I bu],J I d,J I n] w
   fun e w'=>e=.returned (.tuple #[J4 #[J I f,J I r1,J I r2,J I g,J I h,J I i,J I j],J I k])/\Bl w w':=by
 have q:=z5w d;rw[decide_eq_true ⟨h0,h1⟩]at q
 go_enter func101,ntmps101
 go_wp2_with (go_at_call 144;refine (q _).mono ?_;rintro e r⟨rfl,rfl⟩)
 have R0:BAt ((w.alloc (J5 #[J I f0,J I f1,J I f2,J I f3,J I bo,J I wa,J I bu] 35)).alloc (J5 #[J I 0,J I 0,J I 0,J I 0,J I 0,J I 0,J I 0] 35)) (w.heap.size+1) 0 0 0 0 0 0 0:=by
  have:=BAt.new (w.alloc (J5 #[J I f0,J I f1,J I f2,J I f3,J I bo,J I wa,J I bu] 35)) 0 0 0 0 0 0 0
  simpa using this
 have B0:=((BAt.new w f0 f1 f2 f3 bo wa bu).alloc (J5 #[J I 0,J I 0,J I 0,J I 0,J I 0,J I 0,J I 0] 35));have s:Hid (Bl w ((w.alloc (J5 #[J I f0,J I f1,J I f2,J I f3,J I bo,J I wa,J I bu] 35)).alloc (J5 #[J I 0,J I 0,J I 0,J I 0,J I 0,J I 0,J I 0] 35))):=((znw w _).alloc (by simp) _)
 generalize (w.alloc (J5 #[J I f0,J I f1,J I f2,J I f3,J I bo,J I wa,J I bu] 35)).alloc (J5 #[J I 0,J I 0,J I 0,J I 0,J I 0,J I 0,J I 0] 35)=w0 at *;obtain⟨u,v,x,y,z,A,B⟩:=B0.cells;have m:w.heap.size<w0.heap.size:=B0.lt;have t:w.heap.size+1<w0.heap.size:=R0.lt;clear B0
 go_region_with (first
  | (go_at_call 146;refine (z6d _ _).mono ?_;rintro e r⟨rfl,rfl⟩)
  | (go_at_call 147;refine (z4s _).mono ?_;rintro e r⟨rfl,rfl⟩)
  | (go_at_call 145;refine (l w0.heap.size _ (by simp) (by simp)).mono ?_;rintro e w5⟨rfl,a⟩;have b:BAt w5 (w.heap.size+1) 0 0 0 0 0 0 0:=(a.block _ (by simp;omega)).trans (R0.alloc (J5 #[J I d] 3));have o:Hid (Bl w w5):=((s.out.alloc (Nat.le_of_lt m) (J5 #[J I d] 3)).drew).trans (a.mono (by simp;omega));obtain⟨C,u1,u2,D,E,F,G⟩:=b.frees;obtain⟨v0,v1,v2,v3,H,K,L⟩:=b.cells;have p:Hid (BAt w5 (w.heap.size+1) 0 0 0 0 0 0 0):=b;clear b a))
 all_goals
  go_wp2;exact q3n p.out o.out f r1 r2 g h i j k _ rfl rfl rfl
theorem j3e(f0 f1 f2 f3 bo wa bu d n:Int)(w:World)(h:¬ (0<=d/\d<4)) :
  Calls prog 101 #[J4 #[J I f0,J I f1,J I f2,J I f3,J I bo,J I wa,J I bu],J I d,J I n] w
   fun e w'=>e=.returned (.tuple #[J4 #[J I f0,J I f1,J I f2,J I f3,J I bo,J I wa,J I bu],J I 4])/\Bl w w':=by
 have b:=z5w d;rw[decide_eq_false h]at b;clear h
 go_enter func101,ntmps101
 go_wp2_with fail
 have R0:BAt ((w.alloc (J5 #[J I f0,J I f1,J I f2,J I f3,J I bo,J I wa,J I bu] 35)).alloc (J5 #[J I 0,J I 0,J I 0,J I 0,J I 0,J I 0,J I 0] 35)) (w.heap.size+1) 0 0 0 0 0 0 0:=by
  have:=BAt.new (w.alloc (J5 #[J I f0,J I f1,J I f2,J I f3,J I bo,J I wa,J I bu] 35)) 0 0 0 0 0 0 0
  simpa using this
 have B0:=((BAt.new w f0 f1 f2 f3 bo wa bu).alloc (J5 #[J I 0,J I 0,J I 0,J I 0,J I 0,J I 0,J I 0] 35));have c:Hid (Bl w ((w.alloc (J5 #[J I f0,J I f1,J I f2,J I f3,J I bo,J I wa,J I bu] 35)).alloc (J5 #[J I 0,J I 0,J I 0,J I 0,J I 0,J I 0,J I 0] 35))):=((znw w _).alloc (by simp) _)
 generalize (w.alloc (J5 #[J I f0,J I f1,J I f2,J I f3,J I bo,J I wa,J I bu] 35)).alloc (J5 #[J I 0,J I 0,J I 0,J I 0,J I 0,J I 0,J I 0] 35)=w0 at *;obtain⟨i,j,k,l,m,o,p⟩:=B0.cells;have f:w.heap.size<w0.heap.size:=B0.lt;have g:w.heap.size+1<w0.heap.size:=R0.lt;obtain⟨q,u1,u2,r,s,t,u⟩:=R0.frees;obtain⟨v0,v1,v2,v3,v,x,y⟩:=R0.cells;have a:Hid (BAt w0 (w.heap.size+1) 0 0 0 0 0 0 0):=R0;clear B0 R0
 go_wp2_with (go_at_call 144;refine (b _).mono ?_;rintro e z⟨rfl,rfl⟩)
 exact q3n a.out c.out f0 f1 f2 f3 bo wa bu 4 _ rfl rfl rfl
end
end Go.Proofs.YtddlhnoedldidaaGreat
