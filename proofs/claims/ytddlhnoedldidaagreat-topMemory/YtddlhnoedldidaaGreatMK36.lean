/- Parts of the proof. -/
import Derived.Test.YtddlhnoedldidaaGreatML
import Derived.Test.YtddlhnoedldidaaGreatMK30
set_option maxRecDepth 100000
set_option maxHeartbeats 16000000
namespace Go.Proofs.YtddlhnoedldidaaGreat
open Go.Proofs.Tryz
open Value renaming int->J,slice->J1,pointer->J2,bool->J3,agg->J4
open IntKind renaming i64->I
open Obj renaming cells->J5
section
open Go.RowKit
theorem q4Z(f0 f1 f2 f3 bo wa bu n:Int)(w:World)(c:z1u f0 f1 f2 f3 bo wa bu=true)(a:0<=n)(b:n<=1125899906842624)(k:n<=bo) :
  Calls prog 145 #[J4 #[J I f0,J I f1,J I f2,J I f3,J I bo,J I wa,J I bu],(.func (.func 169) #[] #[]),(.func (.func 170) #[] #[]),J I n] w fun e w'=>e=.returned (.tuple #[J4 #[J I f0,J I f1,J I f2,J I f3,J I (bo - n),J I (wa+n),J I bu],J I 0])/\Bl w w':=by
 have h:=z0o f0 f1 f2 f3 bo wa bu;rw[c]at h;have i:=z1p n;rw[decide_eq_true ⟨a,b⟩]at i;unfold z1u at c;obtain⟨l,m,g2,o,g4,p,q,r⟩:=of_decide_eq_true c;clear c;have k1:wrap64 (bo - n)=bo - n:=z0g (by omega) (by omega)
 have t:wrap64 (wa+n)=wa+n:=z0g (by omega) (by omega)
 clear l m g2 o g4 p q r a b
 go_enter func145,ntmps145
 go_wp2_with fail
 refine (h _).mono ?_;rintro e w1⟨rfl,hb⟩;obtain⟨d,f,s⟩:=z1q hb;clear hb;obtain⟨u,v,x,y,z,A,B⟩:=d.cells;have y0:=d.frees.2.2.2.2.1;have C:=d.frees.2.2.2.2.2.1;obtain⟨D,u1,u2,E,F,G,H⟩:=f.frees;obtain⟨v0,v1,v2,v3,K,L,M⟩:=f.cells;have g:Hid (BAt w1 (w.heap.size+1) 0 0 0 0 0 0 0):=f;clear d f
 go_wp2_with (first
  | (go_at_call 142;refine (i _).mono ?_;rintro e j⟨rfl,rfl⟩)
  | (go_at_call 169;refine (z1o _ _).mono ?_;rintro e j⟨rfl,rfl⟩)
  | (go_at_call 170;refine (z1i _ _).mono ?_;rintro e j⟨rfl,rfl⟩))
 exact z0P ((g.out.other (by omega) _).other (by omega) _) ((s.out.setCell (by simp) _).setCell (by simp) _) f0 f1 f2 f3 (bo - n) (wa+n) bu 0 _ rfl rfl rfl
theorem q4G(f0 f1 f2 f3 bo wa bu n:Int)(w:World)(c:z1u f0 f1 f2 f3 bo wa bu=true)(a:0<=n)(b:n<=1125899906842624)(k:n<=bo) :
  Calls prog 145 #[J4 #[J I f0,J I f1,J I f2,J I f3,J I bo,J I wa,J I bu],(.func (.func 169) #[] #[]),(.func (.func 192) #[] #[]),J I n] w fun e w'=>e=.returned (.tuple #[J4 #[J I f0,J I f1,J I f2,J I f3,J I (bo - n),J I wa,J I (bu+n)],J I 0])/\Bl w w':=by
 have h:=z0o f0 f1 f2 f3 bo wa bu;rw[c]at h;have i:=z1p n;rw[decide_eq_true ⟨a,b⟩]at i;unfold z1u at c;obtain⟨l,m,g2,o,g4,p,q,r⟩:=of_decide_eq_true c;clear c;have k1:wrap64 (bo - n)=bo - n:=z0g (by omega) (by omega)
 have t:wrap64 (bu+n)=bu+n:=z0g (by omega) (by omega)
 clear l m g2 o g4 p q r a b
 go_enter func145,ntmps145
 go_wp2_with fail
 refine (h _).mono ?_;rintro e w1⟨rfl,hb⟩;obtain⟨d,f,s⟩:=z1q hb;clear hb;obtain⟨u,v,x,y,z,A,B⟩:=d.cells;have y0:=d.frees.2.2.2.2.1;have C:=d.frees.2.2.2.2.2.2;obtain⟨D,u1,u2,E,F,G,H⟩:=f.frees;obtain⟨v0,v1,v2,v3,K,L,M⟩:=f.cells;have g:Hid (BAt w1 (w.heap.size+1) 0 0 0 0 0 0 0):=f;clear d f
 go_wp2_with (first
  | (go_at_call 142;refine (i _).mono ?_;rintro e j⟨rfl,rfl⟩)
  | (go_at_call 169;refine (z1o _ _).mono ?_;rintro e j⟨rfl,rfl⟩)
  | (go_at_call 192;refine (z4x _ _).mono ?_;rintro e j⟨rfl,rfl⟩))
 exact z0P ((g.out.other (by omega) _).other (by omega) _) ((s.out.setCell (by simp) _).setCell (by simp) _) f0 f1 f2 f3 (bo - n) wa (bu+n) 0 _ rfl rfl rfl
theorem q5x(f0 f1 f2 f3 bo wa bu n:Int)(w:World)(c:z1u f0 f1 f2 f3 bo wa bu=true)(a:0<=n)(b:n<=1125899906842624)(k:n<=wa) :
  Calls prog 145 #[J4 #[J I f0,J I f1,J I f2,J I f3,J I bo,J I wa,J I bu],(.func (.func 170) #[] #[]),(.func (.func 192) #[] #[]),J I n] w fun e w'=>e=.returned (.tuple #[J4 #[J I f0,J I f1,J I f2,J I f3,J I bo,J I (wa - n),J I (bu+n)],J I 0])/\Bl w w':=by
 have h:=z0o f0 f1 f2 f3 bo wa bu;rw[c]at h;have i:=z1p n;rw[decide_eq_true ⟨a,b⟩]at i;unfold z1u at c;obtain⟨l,m,g2,o,g4,p,q,r⟩:=of_decide_eq_true c;clear c;have k1:wrap64 (wa - n)=wa - n:=z0g (by omega) (by omega)
 have t:wrap64 (bu+n)=bu+n:=z0g (by omega) (by omega)
 clear l m g2 o g4 p q r a b
 go_enter func145,ntmps145
 go_wp2_with fail
 refine (h _).mono ?_;rintro e w1⟨rfl,hb⟩;obtain⟨d,f,s⟩:=z1q hb;clear hb;obtain⟨u,v,x,y,z,A,B⟩:=d.cells;have y0:=d.frees.2.2.2.2.2.1;have C:=d.frees.2.2.2.2.2.2;obtain⟨D,u1,u2,E,F,G,H⟩:=f.frees;obtain⟨v0,v1,v2,v3,K,L,M⟩:=f.cells;have g:Hid (BAt w1 (w.heap.size+1) 0 0 0 0 0 0 0):=f;clear d f
 go_wp2_with (first
  | (go_at_call 142;refine (i _).mono ?_;rintro e j⟨rfl,rfl⟩)
  | (go_at_call 170;refine (z1i _ _).mono ?_;rintro e j⟨rfl,rfl⟩)
  | (go_at_call 192;refine (z4x _ _).mono ?_;rintro e j⟨rfl,rfl⟩))
 exact z0P ((g.out.other (by omega) _).other (by omega) _) ((s.out.setCell (by simp) _).setCell (by simp) _) f0 f1 f2 f3 bo (wa - n) (bu+n) 0 _ rfl rfl rfl
theorem q9u{w wq:World}(R:BAt wq (w.heap.size+1) 0 0 0 0 0 0 0)(H:Bl w wq)(a r1 r2 c d f g h:Int)(act:Act)
  (k:act.tmps.getD 6 undef=J2 (some ⟨w.heap.size+1,0,none⟩)) (l:act.tmps.getD 7 undef=J I h) (hd:act.defers=[]) :
  bodyPost prog f111 (fun e w'=>e=.returned (.tuple #[J4 #[J I a,J I r1,J I r2,J I c,J I d,J I f,J I g],J I h])/\Bl w w') Exit.ret act
   (z6s wq (w.heap.size+1) a r1 r2 c d f g):=by
 have m:=R.z6s a r1 r2 c d f g;have n:=z2Q (b:=w.heap.size+1) H (by omega) a r1 r2 c d f g
 generalize z6s wq (w.heap.size+1) a r1 r2 c d f g=w9 at *;obtain⟨o,u1,u2,p,q,r,s⟩:=m.cells;have i:act.tmps[6]?.getD undef=J2 (some ⟨w.heap.size+1,0,none⟩):=by simpa using k
 have j:act.tmps[7]?.getD undef=J I h:=by simpa using l
 exact bodyPost_ret (v:=.tuple #[J4 #[J I a,J I r1,J I r2,J I c,J I d,J I f,J I g],J I h]) (by simp[results,results111,go_sem,i,j,o,u1,u2,p,q,r,s]) hd ⟨rfl,n⟩
theorem j0r(f0 f1 f2 f3 bo wa bu d n f r1 r2 g h i j k:Int)(w:World)(h0:0<=d)(h1:d<4)
  (l:∀ (c:Nat) (w:World),w.cell? ⟨c,0,none⟩=some (J I d)->c<w.heap.size->Calls prog 145 #[J4 #[J I f0,J I f1,J I f2,J I f3,J I bo,J I wa,J I bu],.func (.func 170) #[] #[],.func (.func 168) #[] #[J2 (some ⟨c,0,none⟩)],J I n] w
   fun e w'=>e=.returned (.tuple #[J4 #[J I f,J I r1,J I r2,J I g,J I h,J I i,J I j],J I k])/\Bl w w') :
  Calls prog 111 #[J4 #[J I f0,J I f1,J I f2,J I f3,J I bo,J I wa,J I bu],J I d,J I n] w
   fun e w'=>e=.returned (.tuple #[J4 #[J I f,J I r1,J I r2,J I g,J I h,J I i,J I j],J I k])/\Bl w w':=by
 have q:=z5w d;rw[decide_eq_true ⟨h0,h1⟩]at q
 go_enter func111,ntmps111
 go_wp2_with (go_at_call 144;refine (q _).mono ?_;rintro e r⟨rfl,rfl⟩)
 have R0:BAt ((w.alloc (J5 #[J I f0,J I f1,J I f2,J I f3,J I bo,J I wa,J I bu] 35)).alloc (J5 #[J I 0,J I 0,J I 0,J I 0,J I 0,J I 0,J I 0] 35)) (w.heap.size+1) 0 0 0 0 0 0 0:=by
  have:=BAt.new (w.alloc (J5 #[J I f0,J I f1,J I f2,J I f3,J I bo,J I wa,J I bu] 35)) 0 0 0 0 0 0 0
  simpa using this
 have B0:=((BAt.new w f0 f1 f2 f3 bo wa bu).alloc (J5 #[J I 0,J I 0,J I 0,J I 0,J I 0,J I 0,J I 0] 35));have s:Hid (Bl w ((w.alloc (J5 #[J I f0,J I f1,J I f2,J I f3,J I bo,J I wa,J I bu] 35)).alloc (J5 #[J I 0,J I 0,J I 0,J I 0,J I 0,J I 0,J I 0] 35))):=((znw w _).alloc (by simp) _)
 generalize (w.alloc (J5 #[J I f0,J I f1,J I f2,J I f3,J I bo,J I wa,J I bu] 35)).alloc (J5 #[J I 0,J I 0,J I 0,J I 0,J I 0,J I 0,J I 0] 35)=w0 at *;obtain⟨u,v,x,y,z,A,B⟩:=B0.cells;have m:w.heap.size<w0.heap.size:=B0.lt;have t:w.heap.size+1<w0.heap.size:=R0.lt;clear B0
 go_region_with (first
  | (go_at_call 148;refine (z3K _).mono ?_;rintro e r⟨rfl,rfl⟩)
  | (go_at_call 146;refine (z6d _ _).mono ?_;rintro e r⟨rfl,rfl⟩)
  | (go_at_call 145;refine (l w0.heap.size _ (by simp) (by simp)).mono ?_;rintro e w5⟨rfl,a⟩;have b:BAt w5 (w.heap.size+1) 0 0 0 0 0 0 0:=(a.block _ (by simp;omega)).trans (R0.alloc (J5 #[J I d] 3));have o:Hid (Bl w w5):=((s.out.alloc (Nat.le_of_lt m) (J5 #[J I d] 3)).drew).trans (a.mono (by simp;omega));obtain⟨C,u1,u2,D,E,F,G⟩:=b.frees;obtain⟨v0,v1,v2,v3,H,K,L⟩:=b.cells;have p:Hid (BAt w5 (w.heap.size+1) 0 0 0 0 0 0 0):=b;clear b a))
 all_goals
  go_wp2;exact q9u p.out o.out f r1 r2 g h i j k _ rfl rfl rfl
theorem j6R(f0 f1 f2 f3 bo wa bu d n:Int)(w:World)(h:¬ (0<=d/\d<4)) :
  Calls prog 111 #[J4 #[J I f0,J I f1,J I f2,J I f3,J I bo,J I wa,J I bu],J I d,J I n] w
   fun e w'=>e=.returned (.tuple #[J4 #[J I f0,J I f1,J I f2,J I f3,J I bo,J I wa,J I bu],J I 4])/\Bl w w':=by
 have b:=z5w d;rw[decide_eq_false h]at b;clear h
 go_enter func111,ntmps111
 go_wp2_with fail
 have R0:BAt ((w.alloc (J5 #[J I f0,J I f1,J I f2,J I f3,J I bo,J I wa,J I bu] 35)).alloc (J5 #[J I 0,J I 0,J I 0,J I 0,J I 0,J I 0,J I 0] 35)) (w.heap.size+1) 0 0 0 0 0 0 0:=by
  have:=BAt.new (w.alloc (J5 #[J I f0,J I f1,J I f2,J I f3,J I bo,J I wa,J I bu] 35)) 0 0 0 0 0 0 0
  simpa using this
 have B0:=((BAt.new w f0 f1 f2 f3 bo wa bu).alloc (J5 #[J I 0,J I 0,J I 0,J I 0,J I 0,J I 0,J I 0] 35));have c:Hid (Bl w ((w.alloc (J5 #[J I f0,J I f1,J I f2,J I f3,J I bo,J I wa,J I bu] 35)).alloc (J5 #[J I 0,J I 0,J I 0,J I 0,J I 0,J I 0,J I 0] 35))):=((znw w _).alloc (by simp) _)
 generalize (w.alloc (J5 #[J I f0,J I f1,J I f2,J I f3,J I bo,J I wa,J I bu] 35)).alloc (J5 #[J I 0,J I 0,J I 0,J I 0,J I 0,J I 0,J I 0] 35)=w0 at *;obtain⟨i,j,k,l,m,o,p⟩:=B0.cells;have f:w.heap.size<w0.heap.size:=B0.lt;have g:w.heap.size+1<w0.heap.size:=R0.lt;obtain⟨q,u1,u2,r,s,t,u⟩:=R0.frees;obtain⟨v0,v1,v2,v3,v,x,y⟩:=R0.cells;have a:Hid (BAt w0 (w.heap.size+1) 0 0 0 0 0 0 0):=R0;clear B0 R0
 go_wp2_with (go_at_call 144;refine (b _).mono ?_;rintro e z⟨rfl,rfl⟩)
 exact q9u a.out c.out f0 f1 f2 f3 bo wa bu 4 _ rfl rfl rfl
end
end Go.Proofs.YtddlhnoedldidaaGreat
