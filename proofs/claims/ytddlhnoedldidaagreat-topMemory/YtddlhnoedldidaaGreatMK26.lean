/- Parts of the proof. -/
import Derived.Test.YtddlhnoedldidaaGreatML
import Derived.Test.YtddlhnoedldidaaGreatMK30
set_option maxRecDepth 100000
set_option maxHeartbeats 16000000
namespace Go.Proofs.YtddlhnoedldidaaGreat
open Go.Proofs.Tryz
open Value renaming int->J,slice->J1,pointer->J2,bool->J3,agg->J4
open IntKind renaming i64->I
open Obj renaming cells->J5
section
open Go.RowKit
theorem q3U{w wq:World}(R:BAt wq (w.heap.size+1) 0 0 0 0 0 0 0)(H:Bl w wq)(a r1 r2 c d f g h:Int)(act:Act)
  (k:act.tmps.getD 4 undef=J2 (some ⟨w.heap.size+1,0,none⟩)) (l:act.tmps.getD 5 undef=J I h) (hd:act.defers=[]) :
  bodyPost prog f104 (fun e w'=>e=.returned (.tuple #[J4 #[J I a,J I r1,J I r2,J I c,J I d,J I f,J I g],J I h])/\Bl w w') Exit.ret act
   (z6s wq (w.heap.size+1) a r1 r2 c d f g):=by
 have m:=R.z6s a r1 r2 c d f g;have n:=z2Q (b:=w.heap.size+1) H (by omega) a r1 r2 c d f g
 generalize z6s wq (w.heap.size+1) a r1 r2 c d f g=w9 at *;obtain⟨o,u1,u2,p,q,r,s⟩:=m.cells;have i:act.tmps[4]?.getD undef=J2 (some ⟨w.heap.size+1,0,none⟩):=by simpa using k
 have j:act.tmps[5]?.getD undef=J I h:=by simpa using l
 exact bodyPost_ret (v:=.tuple #[J4 #[J I a,J I r1,J I r2,J I c,J I d,J I f,J I g],J I h]) (by simp[results,results104,go_sem,i,j,o,u1,u2,p,q,r,s]) hd ⟨rfl,n⟩
theorem q1U(f0 f1 f2 f3 bo wa bu n c r1 r2 d f g h i:Int)(w:World)
  (j:∀ w:World,Calls prog 145 #[J4 #[J I f0,J I f1,J I f2,J I f3,J I bo,J I wa,J I bu],.func (.func 169) #[] #[],.func (.func 170) #[] #[],J I n] w
   fun e w'=>e=.returned (.tuple #[J4 #[J I c,J I r1,J I r2,J I d,J I f,J I g,J I h],J I i])/\Bl w w') :
  Calls prog 104 #[J4 #[J I f0,J I f1,J I f2,J I f3,J I bo,J I wa,J I bu],J I n] w
   fun e w'=>e=.returned (.tuple #[J4 #[J I c,J I r1,J I r2,J I d,J I f,J I g,J I h],J I i])/\Bl w w':=by
 go_enter func104,ntmps104
 go_wp2_with fail
 have R0:BAt ((w.alloc (J5 #[J I f0,J I f1,J I f2,J I f3,J I bo,J I wa,J I bu] 35)).alloc (J5 #[J I 0,J I 0,J I 0,J I 0,J I 0,J I 0,J I 0] 35)) (w.heap.size+1) 0 0 0 0 0 0 0:=by
  have:=BAt.new (w.alloc (J5 #[J I f0,J I f1,J I f2,J I f3,J I bo,J I wa,J I bu] 35)) 0 0 0 0 0 0 0
  simpa using this
 have B0:=((BAt.new w f0 f1 f2 f3 bo wa bu).alloc (J5 #[J I 0,J I 0,J I 0,J I 0,J I 0,J I 0,J I 0] 35));have m:Hid (Bl w ((w.alloc (J5 #[J I f0,J I f1,J I f2,J I f3,J I bo,J I wa,J I bu] 35)).alloc (J5 #[J I 0,J I 0,J I 0,J I 0,J I 0,J I 0,J I 0] 35))):=((znw w _).alloc (by simp) _)
 generalize (w.alloc (J5 #[J I f0,J I f1,J I f2,J I f3,J I bo,J I wa,J I bu] 35)).alloc (J5 #[J I 0,J I 0,J I 0,J I 0,J I 0,J I 0,J I 0] 35)=w0 at *;obtain⟨r,s,t,u,v,x,y⟩:=B0.cells;have o:w.heap.size<w0.heap.size:=B0.lt;have p:w.heap.size+1<w0.heap.size:=R0.lt;clear B0
 go_region_with (first
  | (go_at_call 147;refine (z4s _).mono ?_;rintro e q⟨rfl,rfl⟩)
  | (go_at_call 148;refine (z3K _).mono ?_;rintro e q⟨rfl,rfl⟩)
  | (go_at_call 145;refine (j _).mono ?_;rintro e w5⟨rfl,a⟩;have b:BAt w5 (w.heap.size+1) 0 0 0 0 0 0 0:=(a.block _ (by simp;omega)).trans R0;have k:Hid (Bl w w5):=m.out.drew.trans (a.mono (by simp;omega));obtain⟨z,u1,u2,A,B,C,D⟩:=b.frees;obtain⟨v0,v1,v2,v3,E,F,G⟩:=b.cells;have l:Hid (BAt w5 (w.heap.size+1) 0 0 0 0 0 0 0):=b;clear b a))
 all_goals
  go_wp2;exact q3U l.out k.out c r1 r2 d f g h i _ rfl rfl rfl
theorem z9w{w wq:World}(R:BAt wq (w.heap.size+1) 0 0 0 0 0 0 0)(H:Bl w wq)(a r1 r2 c d f g h:Int)(act:Act)
  (k:act.tmps.getD 6 undef=J2 (some ⟨w.heap.size+1,0,none⟩)) (l:act.tmps.getD 7 undef=J I h) (hd:act.defers=[]) :
  bodyPost prog f151 (fun e w'=>e=.returned (.tuple #[J4 #[J I a,J I r1,J I r2,J I c,J I d,J I f,J I g],J I h])/\Bl w w') Exit.ret act
   (z6s wq (w.heap.size+1) a r1 r2 c d f g):=by
 have m:=R.z6s a r1 r2 c d f g;have n:=z2Q (b:=w.heap.size+1) H (by omega) a r1 r2 c d f g
 generalize z6s wq (w.heap.size+1) a r1 r2 c d f g=w9 at *;obtain⟨o,u1,u2,p,q,r,s⟩:=m.cells;have i:act.tmps[6]?.getD undef=J2 (some ⟨w.heap.size+1,0,none⟩):=by simpa using k
 have j:act.tmps[7]?.getD undef=J I h:=by simpa using l
 exact bodyPost_ret (v:=.tuple #[J4 #[J I a,J I r1,J I r2,J I c,J I d,J I f,J I g],J I h]) (by simp[results,results151,go_sem,i,j,o,u1,u2,p,q,r,s]) hd ⟨rfl,n⟩
theorem z3N{f:Nat}{args:Array Value}{w0 w:World}{b:Nat}{v:Value}{f0 f1 f2 f3 bo wa bu:Int}(h:Calls prog f args w fun e w'=>e=.returned v/\Bl w w')
  (hb:b<w0.heap.size) (d:w.cell? ⟨b,0,none⟩=some (J I f0)/\w.cell? ⟨b,1,none⟩=some (J I f1)/\w.cell? ⟨b,2,none⟩=some (J I f2)/\w.cell? ⟨b,3,none⟩=some (J I f3)/\w.cell? ⟨b,4,none⟩=some (J I bo)/\w.cell? ⟨b,5,none⟩=some (J I wa)/\w.cell? ⟨b,6,none⟩=some (J I bu)/\Bl w0 w) :
  Calls prog f args w fun e w'=>e=.returned v/\(w'.cell? ⟨b,0,none⟩=some (J I f0)/\w'.cell? ⟨b,1,none⟩=some (J I f1)/\w'.cell? ⟨b,2,none⟩=some (J I f2)/\w'.cell? ⟨b,3,none⟩=some (J I f3)/\w'.cell? ⟨b,4,none⟩=some (J I bo)/\w'.cell? ⟨b,5,none⟩=some (J I wa)/\w'.cell? ⟨b,6,none⟩=some (J I bu)/\Bl w0 w')/\Bl w w':=by
 refine h.mono ?_;rintro e w'⟨rfl,a⟩;obtain⟨h0,h1,h2,h3,g,i,j,c⟩:=d;have k:∀ o,w'.cell? ⟨b,o,none⟩=w.cell? ⟨b,o,none⟩:=fun o=>a.cell (Nat.lt_of_lt_of_le hb c.size);exact⟨rfl,⟨(k 0).trans h0,(k 1).trans h1,(k 2).trans h2,(k 3).trans h3,(k 4).trans g,(k 5).trans i,(k 6).trans j,c.trans (a.mono c.size)⟩,a⟩
theorem q6j(f0 f1 f2 f3 bo wa bu n m t r1 r2 u x y z A H K L M N P Q es t0 t1 t2 t3 t4 t5 t6 et:Int)(w:World)
  (l:(A≠0/\f0=t0/\f1=t1/\f2=t2/\f3=t3/\bo=t4/\wa=t5/\bu=t6/\A=et)∨(A=0/\es≠0/\f0=t0/\f1=t1/\f2=t2/\f3=t3/\bo=t4/\wa=t5/\bu=t6/\es=et)∨(A=0/\es=0/\H=t0/\K=t1/\L=t2/\M=t3/\N=t4/\P=t5/\Q=t6/\0=et))
  (R:∀ w:World,Calls prog 145 #[J4 #[J I f0,J I f1,J I f2,J I f3,J I bo,J I wa,J I bu],.func (.func 169) #[] #[],.func (.func 192) #[] #[],J I n] w fun e w'=>e=.returned (.tuple #[J4 #[J I t,J I r1,J I r2,J I u,J I x,J I y,J I z],J I A])/\Bl w w')
  (V:∀ w:World,Calls prog 145 #[J4 #[J I t,J I r1,J I r2,J I u,J I x,J I y,J I z],.func (.func 170) #[] #[],.func (.func 192) #[] #[],J I m] w fun e w'=>e=.returned (.tuple #[J4 #[J I H,J I K,J I L,J I M,J I N,J I P,J I Q],J I es])/\Bl w w') :
  Calls prog 151 #[J4 #[J I f0,J I f1,J I f2,J I f3,J I bo,J I wa,J I bu],J I n,J I m] w
   fun e w'=>e=.returned (.tuple #[J4 #[J I t0,J I t1,J I t2,J I t3,J I t4,J I t5,J I t6],J I et])/\Bl w w':=by
 go_enter func151,ntmps151
 go_wp2_with fail
 have R0:BAt ((w.alloc (J5 #[J I f0,J I f1,J I f2,J I f3,J I bo,J I wa,J I bu] 35)).alloc (J5 #[J I 0,J I 0,J I 0,J I 0,J I 0,J I 0,J I 0] 35)) (w.heap.size+1) 0 0 0 0 0 0 0:=by
  have:=BAt.new (w.alloc (J5 #[J I f0,J I f1,J I f2,J I f3,J I bo,J I wa,J I bu] 35)) 0 0 0 0 0 0 0
  simpa using this
 have B0:=((BAt.new w f0 f1 f2 f3 bo wa bu).alloc (J5 #[J I 0,J I 0,J I 0,J I 0,J I 0,J I 0,J I 0] 35));have HB:Hid (Bl w ((w.alloc (J5 #[J I f0,J I f1,J I f2,J I f3,J I bo,J I wa,J I bu] 35)).alloc (J5 #[J I 0,J I 0,J I 0,J I 0,J I 0,J I 0,J I 0] 35))):=((znw w _).alloc (by simp) _)
 generalize (w.alloc (J5 #[J I f0,J I f1,J I f2,J I f3,J I bo,J I wa,J I bu] 35)).alloc (J5 #[J I 0,J I 0,J I 0,J I 0,J I 0,J I 0,J I 0] 35)=w0 at *;obtain⟨x0,x1,x2,x3,x4,x5,x6⟩:=B0.cells;have g:w.heap.size<w0.heap.size:=B0.lt;have S:w.heap.size+1<w0.heap.size:=R0.lt
 go_cut [8,9] (fun p e wc=>∃ pb,p=J2 (some ⟨pb,0,none⟩)/\e=J I A/\w0.heap.size<=pb/\BAt wc pb t r1 r2 u x y z/\Bl w0 wc)
 case first =>
  clear B0;have a1:Bl w0 w0.drew:=(Below.refl _ _).drew;have a2:∀ (a:World) (o:Obj),Bl w0 a->Bl w0 (a.alloc o):=fun a o h=>h.alloc h.size o;have a3:∀ (a:World),Bl w0 a->Bl w0 a.drew:=fun a h=>h.drew;have a4:Bl w0 w0:=Below.refl _ _;have T:∀ (a:World) (v0 v1 v2 v3 q r s:Int),Bl w0 a->Bl w0 (((((((a.setCell ⟨w0.heap.size,0,none⟩ (J I v0)).setCell ⟨w0.heap.size,1,none⟩ (J I v1)).setCell ⟨w0.heap.size,2,none⟩ (J I v2)).setCell ⟨w0.heap.size,3,none⟩ (J I v3)).setCell ⟨w0.heap.size,4,none⟩ (J I q)).setCell ⟨w0.heap.size,5,none⟩ (J I r)).setCell ⟨w0.heap.size,6,none⟩ (J I s)):=fun a v0 v1 v2 v3 q r s h=>((((((h.setCell (Nat.le_refl _) _).setCell (Nat.le_refl _) _).setCell (Nat.le_refl _) _).setCell (Nat.le_refl _) _).setCell (Nat.le_refl _) _).setCell (Nat.le_refl _) _).setCell (Nat.le_refl _) _;have a5:∀ (a:World) (o k:Nat) (v:Value),(a.setCell ⟨w0.heap.size,o,none⟩ v).cell? ⟨w.heap.size,k,none⟩=a.cell? ⟨w.heap.size,k,none⟩:=fun a o k v=>World.cell?_of_block (w:=a) (Below.heap_setCell _ _ _ _ (by simp;omega))
  go_region_held3 (fun w'=>w'.cell? ⟨w.heap.size,0,none⟩=some (J I f0)/\w'.cell? ⟨w.heap.size,1,none⟩=some (J I f1)/\w'.cell? ⟨w.heap.size,2,none⟩=some (J I f2)/\w'.cell? ⟨w.heap.size,3,none⟩=some (J I f3)/\w'.cell? ⟨w.heap.size,4,none⟩=some (J I bo)/\w'.cell? ⟨w.heap.size,5,none⟩=some (J I wa)/\w'.cell? ⟨w.heap.size,6,none⟩=some (J I bu)/\Bl w0 w') (go_keep)
   (first
    | (go_at_call 147;refine (z4s _).mono ?_;rintro e w2⟨rfl,rfl⟩)
    | (go_at_call 171;refine (z7x _).mono ?_;rintro e w2⟨rfl,rfl⟩)
    | (go_at_call 145;refine (z3N (f0:=f0) (f1:=f1) (f2:=f2) (f3:=f3) (bo:=bo) (wa:=wa) (bu:=bu) (R _) g ?_).mono ?_;(simp[*]);rintro e b⟨rfl,i,B⟩;have d:w0.heap.size<=b.heap.size:=i.2.2.2.2.2.2.2.size;have f:Bl w0 b:=i.2.2.2.2.2.2.2;have c:BAt b w0.heap.size 0 0 0 0 0 0 0:=(B.block _ (by simp)).trans (BAt.new w0 0 0 0 0 0 0 0);obtain⟨u0,u1,u2,u3,u4,u5,u6⟩:=c.frees;obtain⟨v0,v1,v2,v3,q,r,s⟩:=c.cells;have HZ:Hid (BAt b w0.heap.size 0 0 0 0 0 0 0):=c;clear B c)
    | (go_at_call 145;refine (z3N (f0:=f0) (f1:=f1) (f2:=f2) (f3:=f3) (bo:=bo) (wa:=wa) (bu:=bu) (R _) g ?_).mono ?_;(simp[*]);rintro e b⟨rfl,i,B⟩;have d:w0.heap.size<=b.heap.size:=i.2.2.2.2.2.2.2.size;have f:Bl w0 b:=i.2.2.2.2.2.2.2;clear B))
  all_goals
   clear i
   go_wp2_with fail
   go_meet
   case rel=>first | exact⟨w0.heap.size,rfl,rfl,Nat.le_refl _,HZ.out.z6s t r1 r2 u x y z,T b t r1 r2 u x y z f⟩ | exact⟨b.heap.size,rfl,rfl,d,BAt.new b t r1 r2 u x y z,f.alloc d _⟩
 case rest =>
  obtain⟨pb,rfl,rfl,a6,G,j⟩:=hcut
  rename World=>wb
  clear x0 x1 x2 x3 x4 x5 x6;have W:=B0.later j g;have R1:=R0.later j S;have C:Hid (Bl w wb):=HB.out.trans (j.mono (Nat.le_of_lt g));have U:w.heap.size<wb.heap.size:=Nat.lt_of_lt_of_le g j.size;have X:w.heap.size+1<wb.heap.size:=Nat.lt_of_lt_of_le S j.size;clear B0 R0 HB j g S R;obtain⟨u0,u1,u2,u3,u4,u5,u6⟩:=R1.frees;obtain⟨v0,v1,v2,v3,q,r,s⟩:=R1.cells;have D:Hid (BAt wb (w.heap.size+1) 0 0 0 0 0 0 0):=R1;clear R1
  by_cases E:A=0
  ·subst E;have Y:pb<wb.heap.size:=G.lt;obtain⟨y0,y1,y2,y3,y4,y5,y6⟩:=G.cells;clear G u0 u1 u2 u3 u4 u5 u6 v0 v1 v2 v3 q r s
   go_wp2_with fail
   go_cut [10,9] (fun p e wd=>∃ pc,p=J2 (some ⟨pc,0,none⟩)/\e=J I es/\wb.heap.size<=pc/\BAt wd pc H K L M N P Q/\Bl wb wd)
   case first =>
    clear W D l C U X;have a1:Bl wb wb.drew:=(Below.refl _ _).drew;have a2:∀ (a:World) (o:Obj),Bl wb a->Bl wb (a.alloc o):=fun a o h=>h.alloc h.size o;have a3:∀ (a:World),Bl wb a->Bl wb a.drew:=fun a h=>h.drew;have a4:Bl wb wb:=Below.refl _ _;have T:∀ (a:World) (v0 v1 v2 v3 q r s:Int),Bl wb a->Bl wb (((((((a.setCell ⟨wb.heap.size,0,none⟩ (J I v0)).setCell ⟨wb.heap.size,1,none⟩ (J I v1)).setCell ⟨wb.heap.size,2,none⟩ (J I v2)).setCell ⟨wb.heap.size,3,none⟩ (J I v3)).setCell ⟨wb.heap.size,4,none⟩ (J I q)).setCell ⟨wb.heap.size,5,none⟩ (J I r)).setCell ⟨wb.heap.size,6,none⟩ (J I s)):=fun a v0 v1 v2 v3 q r s h=>((((((h.setCell (Nat.le_refl _) _).setCell (Nat.le_refl _) _).setCell (Nat.le_refl _) _).setCell (Nat.le_refl _) _).setCell (Nat.le_refl _) _).setCell (Nat.le_refl _) _).setCell (Nat.le_refl _) _;have a5:∀ (a:World) (o k:Nat) (v:Value),(a.setCell ⟨wb.heap.size,o,none⟩ v).cell? ⟨pb,k,none⟩=a.cell? ⟨pb,k,none⟩:=fun a o k v=>World.cell?_of_block (w:=a) (Below.heap_setCell _ _ _ _ (by simp;omega))
    go_region_held3 (fun w'=>w'.cell? ⟨pb,0,none⟩=some (J I t)/\w'.cell? ⟨pb,1,none⟩=some (J I r1)/\w'.cell? ⟨pb,2,none⟩=some (J I r2)/\w'.cell? ⟨pb,3,none⟩=some (J I u)/\w'.cell? ⟨pb,4,none⟩=some (J I x)/\w'.cell? ⟨pb,5,none⟩=some (J I y)/\w'.cell? ⟨pb,6,none⟩=some (J I z)/\Bl wb w') (go_keep)
     (first
      | (go_at_call 148;refine (z3K _).mono ?_;rintro e w2⟨rfl,rfl⟩)
      | (go_at_call 171;refine (z7x _).mono ?_;rintro e w2⟨rfl,rfl⟩)
      | (go_at_call 145;refine (z3N (f0:=t) (f1:=r1) (f2:=r2) (f3:=u) (bo:=x) (wa:=y) (bu:=z) (V _) Y ?_).mono ?_;(simp[*]);rintro e b⟨rfl,i,B⟩;have d:wb.heap.size<=b.heap.size:=i.2.2.2.2.2.2.2.size;have f:Bl wb b:=i.2.2.2.2.2.2.2;have c:BAt b wb.heap.size 0 0 0 0 0 0 0:=(B.block _ (by simp)).trans (BAt.new wb 0 0 0 0 0 0 0);obtain⟨u0,u1,u2,u3,u4,u5,u6⟩:=c.frees;obtain⟨v0,v1,v2,v3,q,r,s⟩:=c.cells;have HZ:Hid (BAt b wb.heap.size 0 0 0 0 0 0 0):=c;clear B c)
      | (go_at_call 145;refine (z3N (f0:=t) (f1:=r1) (f2:=r2) (f3:=u) (bo:=x) (wa:=y) (bu:=z) (V _) Y ?_).mono ?_;(simp[*]);rintro e b⟨rfl,i,B⟩;have d:wb.heap.size<=b.heap.size:=i.2.2.2.2.2.2.2.size;have f:Bl wb b:=i.2.2.2.2.2.2.2;clear B))
    all_goals
     clear i
     go_wp2_with fail
     go_meet
     case rel=>first | exact⟨wb.heap.size,rfl,rfl,Nat.le_refl _,HZ.out.z6s H K L M N P Q,T b H K L M N P Q f⟩ | exact⟨b.heap.size,rfl,rfl,d,BAt.new b H K L M N P Q,f.alloc d _⟩
   case rest =>
    obtain⟨pc,rfl,rfl,a7,G,F⟩:=hcut;clear y0 y1 y2 y3 y4 y5 y6;have B2:=W.later F U;have R2:=D.out.later F X;have Z:Hid (Bl w wc):=C.out.trans (F.mono (Nat.le_of_lt U));clear C F D W;obtain⟨u0,u1,u2,u3,u4,u5,u6⟩:=R2.frees;obtain⟨v0,v1,v2,v3,q,r,s⟩:=R2.cells;have a0:Hid (BAt wc (w.heap.size+1) 0 0 0 0 0 0 0):=R2;clear R2
    rcases l with⟨h,_⟩ | ⟨_,h,rfl,rfl,rfl,rfl,rfl,rfl,rfl,rfl⟩ | ⟨_,rfl,rfl,rfl,rfl,rfl,rfl,rfl,rfl,rfl⟩
    ·exact absurd rfl h
    ·have hb:(es != 0)=true:=by simpa using h
     obtain⟨x0,x1,x2,x3,x4,x5,x6⟩:=B2.cells;clear B2 G;go_wp2;exact z9w a0.out Z.out f0 f1 f2 f3 bo wa bu es _ rfl rfl rfl
    ·obtain⟨x0,x1,x2,x3,x4,x5,x6⟩:=G.cells;clear B2 G;go_wp2;exact z9w a0.out Z.out H K L M N P Q 0 _ rfl rfl rfl
  ·have hb:(A != 0)=true:=by simpa using E
   rcases l with⟨_,rfl,rfl,rfl,rfl,rfl,rfl,rfl,rfl⟩ | ⟨h,_⟩ | ⟨h,_⟩
   ·obtain⟨x0,x1,x2,x3,x4,x5,x6⟩:=W.cells;clear W G;go_wp2;exact z9w D.out C.out f0 f1 f2 f3 bo wa bu A _ rfl rfl rfl
   ·exact absurd h E
   ·exact absurd h E
end
end Go.Proofs.YtddlhnoedldidaaGreat
