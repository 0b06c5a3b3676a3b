/- Parts of the proof. -/
import Derived.Test.YtjghbciepinofaaGreatPL
import Derived.Test.YtjghbciepinofaaGreatPK22
set_option maxRecDepth 100000
set_option maxHeartbeats 16000000
namespace Go.Proofs.YtjghbciepinofaaGreat
open Go.Proofs.Tryz
open Value renaming int->J,slice->J1,pointer->J2,bool->J3,agg->J4
open IntKind renaming i64->I
open Obj renaming cells->J5
section
open Go.RowKit
theorem z6R{w wq:World}(R:BAt wq (w.heap.size+1) 0 0 0 0 0 0 0)(H:Bl w wq)(a r1 r2 c d f g h:Int)(act:Act)
  (k:act.tmps.getD 6 undef=J2 (some ⟨w.heap.size+1,0,none⟩)) (l:act.tmps.getD 7 undef=J I h) (hd:act.defers=[]) :
  bodyPost prog f166 (fun e w'=>e=.returned (.tuple #[J4 #[J I a,J I r1,J I r2,J I c,J I d,J I f,J I g],J I h])/\Bl w w') Exit.ret act
   (z2C wq (w.heap.size+1) a r1 r2 c d f g):=by
 have m:=R.z2C a r1 r2 c d f g;have n:=z0G (b:=w.heap.size+1) H (by omega) a r1 r2 c d f g
 generalize z2C wq (w.heap.size+1) a r1 r2 c d f g=w9 at *;obtain⟨o,u1,u2,p,q,r,s⟩:=m.cells;have i:act.tmps[6]?.getD undef=J2 (some ⟨w.heap.size+1,0,none⟩):=by simpa using k
 have j:act.tmps[7]?.getD undef=J I h:=by simpa using l
 exact bodyPost_ret (v:=.tuple #[J4 #[J I a,J I r1,J I r2,J I c,J I d,J I f,J I g],J I h]) (by simp[results,results166,go_sem,i,j,o,u1,u2,p,q,r,s]) hd ⟨rfl,n⟩
theorem z3b{f:Nat}{args:Array Value}{w0 w:World}{b:Nat}{v:Value}{f0 f1 f2 f3 bo wa bu:Int}(h:Calls prog f args w fun e w'=>e=.returned v/\Bl w w')
  (d:b<w0.heap.size) (g:w.cell? ⟨b,0,none⟩=some (J I f0)/\w.cell? ⟨b,1,none⟩=some (J I f1)/\w.cell? ⟨b,2,none⟩=some (J I f2)/\w.cell? ⟨b,3,none⟩=some (J I f3)/\w.cell? ⟨b,4,none⟩=some (J I bo)/\w.cell? ⟨b,5,none⟩=some (J I wa)/\w.cell? ⟨b,6,none⟩=some (J I bu)/\Bl w0 w) :
  Calls prog f args w fun e w'=>e=.returned v/\(w'.cell? ⟨b,0,none⟩=some (J I f0)/\w'.cell? ⟨b,1,none⟩=some (J I f1)/\w'.cell? ⟨b,2,none⟩=some (J I f2)/\w'.cell? ⟨b,3,none⟩=some (J I f3)/\w'.cell? ⟨b,4,none⟩=some (J I bo)/\w'.cell? ⟨b,5,none⟩=some (J I wa)/\w'.cell? ⟨b,6,none⟩=some (J I bu)/\Bl w0 w')/\Bl w w':=by
 refine h.mono ?_;rintro e w'⟨rfl,a⟩;obtain⟨h0,h1,h2,h3,i,j,l,c⟩:=g;have k:∀ o,w'.cell? ⟨b,o,none⟩=w.cell? ⟨b,o,none⟩:=fun o=>a.cell (Nat.lt_of_lt_of_le d c.size);exact⟨rfl,⟨(k 0).trans h0,(k 1).trans h1,(k 2).trans h2,(k 3).trans h3,(k 4).trans i,(k 5).trans j,(k 6).trans l,c.trans (a.mono c.size)⟩,a⟩
theorem q4D(f0 f1 f2 f3 bo wa bu n m s r1 r2 t u x y z G H K L M N P Q t0 t1 t2 t3 t4 t5 t6 et:Int)(w:World)
  (j:(z≠0/\f0=t0/\f1=t1/\f2=t2/\f3=t3/\bo=t4/\wa=t5/\bu=t6/\z=et)∨(z=0/\Q≠0/\f0=t0/\f1=t1/\f2=t2/\f3=t3/\bo=t4/\wa=t5/\bu=t6/\Q=et)∨(z=0/\Q=0/\G=t0/\H=t1/\K=t2/\L=t3/\M=t4/\N=t5/\P=t6/\0=et))
  (R:∀ w:World,Calls prog 114 #[J4 #[J I f0,J I f1,J I f2,J I f3,J I bo,J I wa,J I bu],.func (.func 122) #[] #[],.func (.func 124) #[] #[],J I n] w fun e w'=>e=.returned (.tuple #[J4 #[J I s,J I r1,J I r2,J I t,J I u,J I x,J I y],J I z])/\Bl w w')
  (V:∀ w:World,Calls prog 114 #[J4 #[J I s,J I r1,J I r2,J I t,J I u,J I x,J I y],.func (.func 123) #[] #[],.func (.func 124) #[] #[],J I m] w fun e w'=>e=.returned (.tuple #[J4 #[J I G,J I H,J I K,J I L,J I M,J I N,J I P],J I Q])/\Bl w w') :
  Calls prog 166 #[J4 #[J I f0,J I f1,J I f2,J I f3,J I bo,J I wa,J I bu],J I n,J I m] w
   fun e w'=>e=.returned (.tuple #[J4 #[J I t0,J I t1,J I t2,J I t3,J I t4,J I t5,J I t6],J I et])/\Bl w w':=by
 go_enter func166,ntmps166
 go_wp2_with fail
 have R0:BAt ((w.alloc (J5 #[J I f0,J I f1,J I f2,J I f3,J I bo,J I wa,J I bu] 24)).alloc (J5 #[J I 0,J I 0,J I 0,J I 0,J I 0,J I 0,J I 0] 24)) (w.heap.size+1) 0 0 0 0 0 0 0:=by
  have:=BAt.new (w.alloc (J5 #[J I f0,J I f1,J I f2,J I f3,J I bo,J I wa,J I bu] 24)) 0 0 0 0 0 0 0
  simpa using this
 have W:=((BAt.new w f0 f1 f2 f3 bo wa bu).alloc (J5 #[J I 0,J I 0,J I 0,J I 0,J I 0,J I 0,J I 0] 24));have HB:Hid (Bl w ((w.alloc (J5 #[J I f0,J I f1,J I f2,J I f3,J I bo,J I wa,J I bu] 24)).alloc (J5 #[J I 0,J I 0,J I 0,J I 0,J I 0,J I 0,J I 0] 24))):=((znw w _).alloc (by simp) _)
 generalize (w.alloc (J5 #[J I f0,J I f1,J I f2,J I f3,J I bo,J I wa,J I bu] 24)).alloc (J5 #[J I 0,J I 0,J I 0,J I 0,J I 0,J I 0,J I 0] 24)=w0 at *;obtain⟨x0,x1,x2,x3,x4,x5,x6⟩:=W.cells;have f:w.heap.size<w0.heap.size:=W.lt;have S:w.heap.size+1<w0.heap.size:=R0.lt
 go_cut [8,9] (fun p e wc=>∃ pb,p=J2 (some ⟨pb,0,none⟩)/\e=J I z/\w0.heap.size<=pb/\BAt wc pb s r1 r2 t u x y/\Bl w0 wc)
 case first =>
  clear W;have a2:Bl w0 w0.drew:=(Below.refl _ _).drew;have a3:∀ (wx:World) (o:Obj),Bl w0 wx->Bl w0 (wx.alloc o):=fun wx o h=>h.alloc h.size o;have a4:∀ (wx:World),Bl w0 wx->Bl w0 wx.drew:=fun wx h=>h.drew;have a5:Bl w0 w0:=Below.refl _ _;have T:∀ (wx:World) (v0 v1 v2 v3 l q r:Int),Bl w0 wx->Bl w0 (((((((wx.setCell ⟨w0.heap.size,0,none⟩ (J I v0)).setCell ⟨w0.heap.size,1,none⟩ (J I v1)).setCell ⟨w0.heap.size,2,none⟩ (J I v2)).setCell ⟨w0.heap.size,3,none⟩ (J I v3)).setCell ⟨w0.heap.size,4,none⟩ (J I l)).setCell ⟨w0.heap.size,5,none⟩ (J I q)).setCell ⟨w0.heap.size,6,none⟩ (J I r)):=fun wx v0 v1 v2 v3 l q r h=>((((((h.setCell (Nat.le_refl _) _).setCell (Nat.le_refl _) _).setCell (Nat.le_refl _) _).setCell (Nat.le_refl _) _).setCell (Nat.le_refl _) _).setCell (Nat.le_refl _) _).setCell (Nat.le_refl _) _;have a6:∀ (wx:World) (o k:Nat) (v:Value),(wx.setCell ⟨w0.heap.size,o,none⟩ v).cell? ⟨w.heap.size,k,none⟩=wx.cell? ⟨w.heap.size,k,none⟩:=fun wx o k v=>World.cell?_of_block (w:=wx) (Below.heap_setCell _ _ _ _ (by simp;omega))
  go_region_held3 (fun w'=>w'.cell? ⟨w.heap.size,0,none⟩=some (J I f0)/\w'.cell? ⟨w.heap.size,1,none⟩=some (J I f1)/\w'.cell? ⟨w.heap.size,2,none⟩=some (J I f2)/\w'.cell? ⟨w.heap.size,3,none⟩=some (J I f3)/\w'.cell? ⟨w.heap.size,4,none⟩=some (J I bo)/\w'.cell? ⟨w.heap.size,5,none⟩=some (J I wa)/\w'.cell? ⟨w.heap.size,6,none⟩=some (J I bu)/\Bl w0 w') (go_keep)
   (first
    | (go_at_call 82;refine (z4B _).mono ?_;rintro e w2⟨rfl,rfl⟩)
    | (go_at_call 84;refine (z5L _).mono ?_;rintro e w2⟨rfl,rfl⟩)
    | (go_at_call 114;refine (z3b (f0:=f0) (f1:=f1) (f2:=f2) (f3:=f3) (bo:=bo) (wa:=wa) (bu:=bu) (R _) f ?_).mono ?_;(simp[*]);rintro e a⟨rfl,g,A⟩;have c:w0.heap.size<=a.heap.size:=g.2.2.2.2.2.2.2.size;have d:Bl w0 a:=g.2.2.2.2.2.2.2;have b:BAt a w0.heap.size 0 0 0 0 0 0 0:=(A.block _ (by simp)).trans (BAt.new w0 0 0 0 0 0 0 0);obtain⟨u0,u1,u2,u3,u4,u5,u6⟩:=b.frees;obtain⟨v0,v1,v2,v3,l,q,r⟩:=b.cells;have HZ:Hid (BAt a w0.heap.size 0 0 0 0 0 0 0):=b;clear A b)
    | (go_at_call 114;refine (z3b (f0:=f0) (f1:=f1) (f2:=f2) (f3:=f3) (bo:=bo) (wa:=wa) (bu:=bu) (R _) f ?_).mono ?_;(simp[*]);rintro e a⟨rfl,g,A⟩;have c:w0.heap.size<=a.heap.size:=g.2.2.2.2.2.2.2.size;have d:Bl w0 a:=g.2.2.2.2.2.2.2;clear A))
  all_goals
   clear g
   go_wp2_with fail
   go_meet
   case rel=>first | exact⟨w0.heap.size,rfl,rfl,Nat.le_refl _,HZ.out.z2C s r1 r2 t u x y,T a s r1 r2 t u x y d⟩ | exact⟨a.heap.size,rfl,rfl,c,BAt.new a s r1 r2 t u x y,d.alloc c _⟩
 case rest =>
  obtain⟨pb,rfl,rfl,a7,F,i⟩:=hcut
  rename World=>wb
  clear x0 x1 x2 x3 x4 x5 x6;have X:=W.later i f;have R1:=R0.later i S;have B:Hid (Bl w wb):=HB.out.trans (i.mono (Nat.le_of_lt f));have U:w.heap.size<wb.heap.size:=Nat.lt_of_lt_of_le f i.size;have Y:w.heap.size+1<wb.heap.size:=Nat.lt_of_lt_of_le S i.size;clear W R0 HB i f S R;obtain⟨u0,u1,u2,u3,u4,u5,u6⟩:=R1.frees;obtain⟨v0,v1,v2,v3,l,q,r⟩:=R1.cells;have C:Hid (BAt wb (w.heap.size+1) 0 0 0 0 0 0 0):=R1;clear R1
  by_cases D:z=0
  ·subst D;have Z:pb<wb.heap.size:=F.lt;obtain⟨y0,y1,y2,y3,y4,y5,y6⟩:=F.cells;clear F u0 u1 u2 u3 u4 u5 u6 v0 v1 v2 v3 l q r
   go_wp2_with fail
   go_cut [10,9] (fun p e wd=>∃ pc,p=J2 (some ⟨pc,0,none⟩)/\e=J I Q/\wb.heap.size<=pc/\BAt wd pc G H K L M N P/\Bl wb wd)
   case first =>
    clear X C j B U Y;have a2:Bl wb wb.drew:=(Below.refl _ _).drew;have a3:∀ (wx:World) (o:Obj),Bl wb wx->Bl wb (wx.alloc o):=fun wx o h=>h.alloc h.size o;have a4:∀ (wx:World),Bl wb wx->Bl wb wx.drew:=fun wx h=>h.drew;have a5:Bl wb wb:=Below.refl _ _;have T:∀ (wx:World) (v0 v1 v2 v3 l q r:Int),Bl wb wx->Bl wb (((((((wx.setCell ⟨wb.heap.size,0,none⟩ (J I v0)).setCell ⟨wb.heap.size,1,none⟩ (J I v1)).setCell ⟨wb.heap.size,2,none⟩ (J I v2)).setCell ⟨wb.heap.size,3,none⟩ (J I v3)).setCell ⟨wb.heap.size,4,none⟩ (J I l)).setCell ⟨wb.heap.size,5,none⟩ (J I q)).setCell ⟨wb.heap.size,6,none⟩ (J I r)):=fun wx v0 v1 v2 v3 l q r h=>((((((h.setCell (Nat.le_refl _) _).setCell (Nat.le_refl _) _).setCell (Nat.le_refl _) _).setCell (Nat.le_refl _) _).setCell (Nat.le_refl _) _).setCell (Nat.le_refl _) _).setCell (Nat.le_refl _) _;have a6:∀ (wx:World) (o k:Nat) (v:Value),(wx.setCell ⟨wb.heap.size,o,none⟩ v).cell? ⟨pb,k,none⟩=wx.cell? ⟨pb,k,none⟩:=fun wx o k v=>World.cell?_of_block (w:=wx) (Below.heap_setCell _ _ _ _ (by simp;omega))
    go_region_held3 (fun w'=>w'.cell? ⟨pb,0,none⟩=some (J I s)/\w'.cell? ⟨pb,1,none⟩=some (J I r1)/\w'.cell? ⟨pb,2,none⟩=some (J I r2)/\w'.cell? ⟨pb,3,none⟩=some (J I t)/\w'.cell? ⟨pb,4,none⟩=some (J I u)/\w'.cell? ⟨pb,5,none⟩=some (J I x)/\w'.cell? ⟨pb,6,none⟩=some (J I y)/\Bl wb w') (go_keep)
     (first
      | (go_at_call 83;refine (z3L _).mono ?_;rintro e w2⟨rfl,rfl⟩)
      | (go_at_call 84;refine (z5L _).mono ?_;rintro e w2⟨rfl,rfl⟩)
      | (go_at_call 114;refine (z3b (f0:=s) (f1:=r1) (f2:=r2) (f3:=t) (bo:=u) (wa:=x) (bu:=y) (V _) Z ?_).mono ?_;(simp[*]);rintro e a⟨rfl,g,A⟩;have c:wb.heap.size<=a.heap.size:=g.2.2.2.2.2.2.2.size;have d:Bl wb a:=g.2.2.2.2.2.2.2;have b:BAt a wb.heap.size 0 0 0 0 0 0 0:=(A.block _ (by simp)).trans (BAt.new wb 0 0 0 0 0 0 0);obtain⟨u0,u1,u2,u3,u4,u5,u6⟩:=b.frees;obtain⟨v0,v1,v2,v3,l,q,r⟩:=b.cells;have HZ:Hid (BAt a wb.heap.size 0 0 0 0 0 0 0):=b;clear A b)
      | (go_at_call 114;refine (z3b (f0:=s) (f1:=r1) (f2:=r2) (f3:=t) (bo:=u) (wa:=x) (bu:=y) (V _) Z ?_).mono ?_;(simp[*]);rintro e a⟨rfl,g,A⟩;have c:wb.heap.size<=a.heap.size:=g.2.2.2.2.2.2.2.size;have d:Bl wb a:=g.2.2.2.2.2.2.2;clear A))
    all_goals
     clear g
     go_wp2_with fail
     go_meet
     case rel=>first | exact⟨wb.heap.size,rfl,rfl,Nat.le_refl _,HZ.out.z2C G H K L M N P,T a G H K L M N P d⟩ | exact⟨a.heap.size,rfl,rfl,c,BAt.new a G H K L M N P,d.alloc c _⟩
   case rest =>
    obtain⟨pc,rfl,rfl,a8,F,E⟩:=hcut;clear y0 y1 y2 y3 y4 y5 y6;have B2:=X.later E U;have R2:=C.out.later E Y;have a0:Hid (Bl w wc):=B.out.trans (E.mono (Nat.le_of_lt U));clear B E C X;obtain⟨u0,u1,u2,u3,u4,u5,u6⟩:=R2.frees;obtain⟨v0,v1,v2,v3,l,q,r⟩:=R2.cells;have a1:Hid (BAt wc (w.heap.size+1) 0 0 0 0 0 0 0):=R2;clear R2
    rcases j with⟨h,_⟩ | ⟨_,h,rfl,rfl,rfl,rfl,rfl,rfl,rfl,rfl⟩ | ⟨_,rfl,rfl,rfl,rfl,rfl,rfl,rfl,rfl,rfl⟩
    ·exact absurd rfl h
    ·have hb:(Q != 0)=true:=by simpa using h
     obtain⟨x0,x1,x2,x3,x4,x5,x6⟩:=B2.cells;clear B2 F;go_wp2;exact z6R a1.out a0.out f0 f1 f2 f3 bo wa bu Q _ rfl rfl rfl
    ·obtain⟨x0,x1,x2,x3,x4,x5,x6⟩:=F.cells;clear B2 F;go_wp2;exact z6R a1.out a0.out G H K L M N P 0 _ rfl rfl rfl
  ·have hb:(z != 0)=true:=by simpa using D
   rcases j with⟨_,rfl,rfl,rfl,rfl,rfl,rfl,rfl,rfl⟩ | ⟨h,_⟩ | ⟨h,_⟩
   ·obtain⟨x0,x1,x2,x3,x4,x5,x6⟩:=X.cells;clear X F;go_wp2;exact z6R C.out B.out f0 f1 f2 f3 bo wa bu z _ rfl rfl rfl
   ·exact absurd h D
   ·exact absurd h D
theorem q5a(g cap:Nat)(l:List Pw)(w:World)(h:z1w w g l)(hn:l.length<=12) :
  Calls prog 126 #[J1 (some ⟨g,0,none⟩) l.length cap,J I 0,J I (l.length:Int),.func (.func 39) #[] #[]] w fun e w'=>e=.returned (.tuple #[])/\z1w w' g (z1D ltV l)/\z2g g w w':=by
 have z:=J6 h;clear h
 go_enter func126,ntmps126
 go_wp2
 go_loopw [8] (fun i wl=>∃ m:Nat,i=J I ((m:Int)+1)/\(m+1<=l.length∨m=0)/\Hid (z1w wl g (z1l ltV l m)/\z2g g w wl)) (fun i _=>l.length - (intOf i).toNat)
 case atStart=>exact⟨0,rfl,.inr rfl,z.out,z2g.refl _ _⟩
 case round =>
  obtain⟨m,rfl,S,C⟩:=hrel
  by_cases T:m+1<l.length
  ·rename World=>wo
   have L:(m:Int)+1<(l.length:Int):=by omega
   go_wp2_with fail
   go_loopw [9] (fun j wl=>∃ (p:Nat) (a:List Pw),j=J I (p:Int)/\p<=m+1/\a.length=l.length/\Hid (z5X ltV (m+1) (z1l ltV l m)=z5X ltV p a/\z1w wl g a/\z2g g w wl)) (fun j _=>(intOf j).toNat)
   case atStart=>exact⟨m+1,z1l ltV l m,by go_num,Nat.le_refl _,z1z _ _ _,rfl,C.out⟩
   case round =>
    obtain⟨p,a,rfl,hp,D,d⟩:=hrel;have U:w.heap.size<=wr.heap.size:=d.out.2.2.size;cases p with
    | zero =>
     have E:decide ((0:Int)<0)=false:=by decide
     go_upto_region 4 with fail
     go_quiet (fail);go_wp2;go_roundw
     case rel=>exact⟨m+1,by go_num,.inl (by omega),(by rw[z1l,d.out.1];exact d.out.2.1),(show z2g g w (wr.drewN nq) from d.out.2.2.drewN nq)⟩
     case measure=>simp[intOf];omega
    | succ p =>
     have o:p+1<a.length:=by omega
     obtain⟨c0,c1⟩:=d.out.2.1.cell (i:=p+1) o;obtain⟨V,W⟩:=d.out.2.1.cell (i:=p) (by omega)
     have M:=z4T (a.getD (p+1) pz) (a.getD p pz);have F:=d.out.2.1.lt;have s:Hid (z5X ltV (m+1) (z1l ltV l m)=if ltV (a.getD (p+1) pz) (a.getD p pz)=true then z5X ltV p (swapAt a p) else a):=d.out.1;have k:Hid (ltV (a.getD (p+1) pz) (a.getD p pz)=decide (q4L (a.getD (p+1) pz) (a.getD p pz)<0)):=rfl;have c:=J6 d.out.2;clear d;generalize q4L (a.getD (p+1) pz) (a.getD p pz)=r at *;generalize N:a.getD (p+1) pz=A at *;generalize P:a.getD p pz=B at *;have X:=J6 N;have Y:=J6 P;clear N P;have Z:IntKind.i64.wrap (((p+1:Nat):Int) - 1)=(p:Int):=by rw[show ((p+1:Nat):Int) - 1=(p:Int) by omega];exact z5V (by omega) (by omega)
     generalize hq:p+1=q at *;have n:=J6 hq;clear hq;have a0:(0:Int)<=(q:Int):=by omega
     have a1:(q:Int)<(l.length:Int):=by omega
     have a2:(0:Int)<=(p:Int):=by omega
     have a3:(p:Int)<(l.length:Int):=by have:=n.out;omega
     have E:decide (0<q)=true:=by have:=n.out;simp;omega
     go_upto_region 4 with fail
     go_region_held3 (fun wx=>wx.cell? ⟨g,q * 2,none⟩=some (J I A.1)/\wx.cell? ⟨g,q * 2+1,none⟩=some (J I A.2)/\wx.cell? ⟨g,p * 2,none⟩=some (J I B.1)/\wx.cell? ⟨g,p * 2+1,none⟩=some (J I B.2)) (first | go_keep | (refine⟨?_,?_,?_,?_⟩ <;> (rw[f.cell F];simp[*])))
      (first | (go_at_call 39;refine (M _).mono ?_;rintro e w1⟨rfl,f⟩))
     rename_i hh;obtain⟨a4,a5,a6,a7⟩:=hh;have b:=c.out.1.later (w':=w1) (show Bl wr w1 from ((Below.refl _ wr).drew.trans f));have t:z2g g w w1:=c.out.2.trans (z2g.of_below (show Bl wr w1 from ((Below.refl _ wr).drew.trans f)));have u:=J6 b;have v:=J6 t;have f0:=b.free (q * 2);have f1:=b.free (q * 2+1);have f2:=b.free (p * 2);have f3:=b.free (p * 2+1);clear b t f c0 c1 V W c M
     by_cases Q:r<0
     ·have hd:decide (r<0)=true:=by simpa using Q
      rw[hd];have G:=n.out;have n1:¬ p=q:=by omega
      have n2:¬ q=p:=by omega
      have n3:¬ p * 2=q * 2+1:=by omega
      have n4:¬ q * 2=p * 2+1:=by omega
      have n5:¬ p * 2+1=q * 2:=by omega
      have n6:¬ q * 2+1=p * 2:=by omega
      have n7:¬ p * 2=q * 2:=by omega
      have n8:¬ q * 2=p * 2:=by omega
      clear G
      go_upto_region 6 with fail
      go_region;have x:(a.set q B).set p A=swapAt a p:=by rw[swapAt,n.out,X.out,Y.out]
      have H:Hid (z1w (((((w1.setCell ⟨g,q * 2,none⟩ (J I B.1)).setCell ⟨g,q * 2+1,none⟩ (J I B.2)).setCell ⟨g,p * 2,none⟩ (J I A.1)).setCell ⟨g,p * 2+1,none⟩ (J I A.2)).drew) g (swapAt a p)):=by
       rw[<- x];exact (u.out.put o B).put (by simp;omega) A
      have K:Hid (z2g g w (((((w1.setCell ⟨g,q * 2,none⟩ (J I B.1)).setCell ⟨g,q * 2+1,none⟩ (J I B.2)).setCell ⟨g,p * 2,none⟩ (J I A.1)).setCell ⟨g,p * 2+1,none⟩ (J I A.2)).drew)):=((((v.out.set _ _).set _ _).set _ _).set _ _).drew;have y:Hid (z5X ltV (m+1) (z1l ltV l m)=z5X ltV p (swapAt a p)):=by rw[s.out,k.out,hd];exact if_pos rfl
      clear x;generalize ((((w1.setCell ⟨g,q * 2,none⟩ (J I B.1)).setCell ⟨g,q * 2+1,none⟩ (J I B.2)).setCell ⟨g,p * 2,none⟩ (J I A.1)).setCell ⟨g,p * 2+1,none⟩ (J I A.2)).drew=w2 at *;go_wp2;go_roundw
      case rel=>exact⟨p,swapAt a p,rfl,by have:=n.out;omega,(by rw[z2p];exact D),y.out,H.out,K.out⟩
      case measure=>have:=n.out;simp[intOf];omega
     ·have hd:decide (r<0)=false:=by simpa using Q
      rw[hd];have y:Hid (z5X ltV (m+1) (z1l ltV l m)=a):=by rw[s.out,k.out,hd];exact if_neg (by simp)
      go_wp2;go_roundw
      case rel=>exact⟨m+1,by go_num,.inl (by omega),(by rw[z1l,y.out];exact u.out),v.out⟩
      case measure=>simp[intOf];omega
  ·have R:z1D ltV l=z1l ltV l m:=by
    unfold z1D
    rcases S with h | rfl
    ·rw[show l.length - 1=m by omega]
    ·rcases (show l.length=0∨l.length=1 by omega) with h | h <;> rw[h]
   have y:=J6 R;clear R;go_wp2;go_end0;exact⟨rfl,by rw[y.out];exact C.out.1,C.out.2⟩
end
end Go.Proofs.YtjghbciepinofaaGreat
