/- Parts of the proof. -/
import Derived.Test.YtjghbciepinofaaGreatPL
import Derived.Test.YtjghbciepinofaaGreatPK22
set_option maxRecDepth 100000
set_option maxHeartbeats 16000000
namespace Go.Proofs.YtjghbciepinofaaGreat
open Go.Proofs.Tryz
open Value renaming int->J,slice->J1,pointer->J2,bool->J3,agg->J4
open IntKind renaming i64->I
open Obj renaming cells->J5
section
open Go.RowKit
theorem q3T{w wq:World}(R:BAt wq (w.heap.size+1) 0 0 0 0 0 0 0)(H:Bl w wq)(a r1 r2 c d f g h:Int)(act:Act)
  (k:act.tmps.getD 6 undef=J2 (some ⟨w.heap.size+1,0,none⟩)) (l:act.tmps.getD 7 undef=J I h) (hd:act.defers=[]) :
  bodyPost prog f69 (fun e w'=>e=.returned (.tuple #[J4 #[J I a,J I r1,J I r2,J I c,J I d,J I f,J I g],J I h])/\Bl w w') Exit.ret act
   (z2C wq (w.heap.size+1) a r1 r2 c d f g):=by
 have m:=R.z2C a r1 r2 c d f g;have n:=z0G (b:=w.heap.size+1) H (by omega) a r1 r2 c d f g
 generalize z2C wq (w.heap.size+1) a r1 r2 c d f g=w9 at *;obtain⟨o,u1,u2,p,q,r,s⟩:=m.cells;have i:act.tmps[6]?.getD undef=J2 (some ⟨w.heap.size+1,0,none⟩):=by simpa using k
 have j:act.tmps[7]?.getD undef=J I h:=by simpa using l
 exact bodyPost_ret (v:=.tuple #[J4 #[J I a,J I r1,J I r2,J I c,J I d,J I f,J I g],J I h]) (by simp[results,results69,go_sem,i,j,o,u1,u2,p,q,r,s]) hd ⟨rfl,n⟩
theorem q5r(f0 f1 f2 f3 bo wa bu d n f r1 r2 g h i j k:Int)(w:World)(h0:0<=d)(h1:d<4)
  (l:∀ (c:Nat) (w:World),w.cell? ⟨c,0,none⟩=some (J I d)->c<w.heap.size->Calls prog 114 #[J4 #[J I f0,J I f1,J I f2,J I f3,J I bo,J I wa,J I bu],.func (.func 123) #[] #[],.func (.func 125) #[] #[J2 (some ⟨c,0,none⟩)],J I n] w
   fun e w'=>e=.returned (.tuple #[J4 #[J I f,J I r1,J I r2,J I g,J I h,J I i,J I j],J I k])/\Bl w w') :
  Calls prog 69 #[J4 #[J I f0,J I f1,J I f2,J I f3,J I bo,J I wa,J I bu],J I d,J I n] w
   fun e w'=>e=.returned (.tuple #[J4 #[J I f,J I r1,J I r2,J I g,J I h,J I i,J I j],J I k])/\Bl w w':=by
 have r:=z4k d;rw[decide_eq_true ⟨h0,h1⟩]at r
 go_enter func69,ntmps69
 go_wp2_with (go_at_call 113;refine (r _).mono ?_;rintro e s⟨rfl,rfl⟩)
 have t:BAt ((w.alloc (J5 #[J I f0,J I f1,J I f2,J I f3,J I bo,J I wa,J I bu] 24)).alloc (J5 #[J I 0,J I 0,J I 0,J I 0,J I 0,J I 0,J I 0] 24)) (w.heap.size+1) 0 0 0 0 0 0 0:=by
  have:=BAt.new (w.alloc (J5 #[J I f0,J I f1,J I f2,J I f3,J I bo,J I wa,J I bu] 24)) 0 0 0 0 0 0 0
  simpa using this
 have m:=((BAt.new w f0 f1 f2 f3 bo wa bu).alloc (J5 #[J I 0,J I 0,J I 0,J I 0,J I 0,J I 0,J I 0] 24));have u:Hid (Bl w ((w.alloc (J5 #[J I f0,J I f1,J I f2,J I f3,J I bo,J I wa,J I bu] 24)).alloc (J5 #[J I 0,J I 0,J I 0,J I 0,J I 0,J I 0,J I 0] 24))):=((znw w _).alloc (by simp) _)
 generalize (w.alloc (J5 #[J I f0,J I f1,J I f2,J I f3,J I bo,J I wa,J I bu] 24)).alloc (J5 #[J I 0,J I 0,J I 0,J I 0,J I 0,J I 0,J I 0] 24)=w0 at *;obtain⟨x,y,z,A,B,C,D⟩:=m.cells;have o:w.heap.size<w0.heap.size:=m.lt;have v:w.heap.size+1<w0.heap.size:=t.lt;clear m
 go_region_with (first
  | (go_at_call 83;refine (z3L _).mono ?_;rintro e s⟨rfl,rfl⟩)
  | (go_at_call 85;refine (z4F _ _).mono ?_;rintro e s⟨rfl,rfl⟩)
  | (go_at_call 114;refine (l w0.heap.size _ (by simp) (by simp)).mono ?_;rintro e w5⟨rfl,a⟩;have b:BAt w5 (w.heap.size+1) 0 0 0 0 0 0 0:=(a.block _ (by simp;omega)).trans (t.alloc (J5 #[J I d] 3));have p:Hid (Bl w w5):=((u.out.alloc (Nat.le_of_lt o) (J5 #[J I d] 3)).drew).trans (a.mono (by simp;omega));obtain⟨E,u1,u2,F,G,H,K⟩:=b.frees;obtain⟨v0,v1,v2,v3,L,M,N⟩:=b.cells;have q:Hid (BAt w5 (w.heap.size+1) 0 0 0 0 0 0 0):=b;clear b a))
 all_goals
  go_wp2;exact q3T q.out p.out f r1 r2 g h i j k _ rfl rfl rfl
theorem q9v(f0 f1 f2 f3 bo wa bu d n:Int)(w:World)(h:¬ (0<=d/\d<4)) :
  Calls prog 69 #[J4 #[J I f0,J I f1,J I f2,J I f3,J I bo,J I wa,J I bu],J I d,J I n] w
   fun e w'=>e=.returned (.tuple #[J4 #[J I f0,J I f1,J I f2,J I f3,J I bo,J I wa,J I bu],J I 4])/\Bl w w':=by
 have f:=z4k d;rw[decide_eq_false h]at f;clear h
 go_enter func69,ntmps69
 go_wp2_with fail
 have a:BAt ((w.alloc (J5 #[J I f0,J I f1,J I f2,J I f3,J I bo,J I wa,J I bu] 24)).alloc (J5 #[J I 0,J I 0,J I 0,J I 0,J I 0,J I 0,J I 0] 24)) (w.heap.size+1) 0 0 0 0 0 0 0:=by
  have:=BAt.new (w.alloc (J5 #[J I f0,J I f1,J I f2,J I f3,J I bo,J I wa,J I bu] 24)) 0 0 0 0 0 0 0
  simpa using this
 have b:=((BAt.new w f0 f1 f2 f3 bo wa bu).alloc (J5 #[J I 0,J I 0,J I 0,J I 0,J I 0,J I 0,J I 0] 24));have g:Hid (Bl w ((w.alloc (J5 #[J I f0,J I f1,J I f2,J I f3,J I bo,J I wa,J I bu] 24)).alloc (J5 #[J I 0,J I 0,J I 0,J I 0,J I 0,J I 0,J I 0] 24))):=((znw w _).alloc (by simp) _)
 generalize (w.alloc (J5 #[J I f0,J I f1,J I f2,J I f3,J I bo,J I wa,J I bu] 24)).alloc (J5 #[J I 0,J I 0,J I 0,J I 0,J I 0,J I 0,J I 0] 24)=w0 at *;obtain⟨k,l,m,o,p,q,r⟩:=b.cells;have i:w.heap.size<w0.heap.size:=b.lt;have j:w.heap.size+1<w0.heap.size:=a.lt;obtain⟨s,u1,u2,t,u,v,x⟩:=a.frees;obtain⟨v0,v1,v2,v3,y,z,A⟩:=a.cells;have c:Hid (BAt w0 (w.heap.size+1) 0 0 0 0 0 0 0):=a;clear b a
 go_wp2_with (go_at_call 113;refine (f _).mono ?_;rintro e B⟨rfl,rfl⟩)
 exact q3T c.out g.out f0 f1 f2 f3 bo wa bu 4 _ rfl rfl rfl
end
end Go.Proofs.YtjghbciepinofaaGreat
