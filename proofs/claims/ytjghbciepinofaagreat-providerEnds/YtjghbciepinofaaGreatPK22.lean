/- Parts of the proof. -/
import Derived.Test.YtjghbciepinofaaGreatPL
import Derived.Test.YtjghbciepinofaaGreatPK0
import Derived.Test.YtjghbciepinofaaGreatPK39
set_option maxRecDepth 100000
set_option maxHeartbeats 16000000
namespace Go.Proofs.YtjghbciepinofaaGreat
open Go.Proofs.Tryz
open Value renaming int->J,slice->J1,pointer->J2,bool->J3,agg->J4
open IntKind renaming i64->I
open Obj renaming cells->J5
section
open Go.RowKit
theorem z0l:(prog.info? 32).map (·.size)=some 63:=by kernel_rfl
def SAt(w:World)(b:Nat)(cs:Array Value):Prop:=w.heap[b]?=some (J5 cs 32)
theorem SAt.new(w:World)(cs:Array Value):SAt (w.alloc (J5 cs 32)) w.heap.size cs:=heap_alloc_new _ _
theorem SAt.new2(w:World)(o:Obj)(cs:Array Value):SAt ((w.alloc o).alloc (J5 cs 32)) (w.heap.size+1) cs:=by
 have h:SAt ((w.alloc o).alloc (J5 cs 32)) (w.alloc o).heap.size cs:=SAt.new (w.alloc o) cs
 rwa [show (w.alloc o).heap.size=w.heap.size+1 by simp]at h
theorem SAt.later{w w':World}{b B:Nat}{cs:Array Value}(h:SAt w b cs)(a:Below B w w')(c:b<B):SAt w' b cs:=(a.block b c).trans h
theorem SAt.alloc{w:World}{b:Nat}{cs:Array Value}(h:SAt w b cs)(o:Obj):SAt (w.alloc o) b cs:=(Below.heap_alloc _ _ _ (Array.getElem?_eq_some_iff.1 h).1).trans h
theorem SAt.lt{w:World}{b:Nat}{cs:Array Value}(h:SAt w b cs):b<w.heap.size:=(Array.getElem?_eq_some_iff.1 h).1
theorem SAt.other{w:World}{b c o:Nat}{cs:Array Value}(h:SAt w b cs)(a:b≠c)(v:Value):SAt (w.setCell ⟨c,o,none⟩ v) b cs:=(Below.heap_setCell _ _ _ _ a).trans h
theorem SAt.cell{w:World}{b:Nat}{cs:Array Value}(h:SAt w b cs)(o:Nat):w.cell? ⟨b,o,none⟩=cs[o]?:=by
 unfold SAt at h
 simp[World.cell?,h]
theorem SAt.free{w:World}{b:Nat}{cs:Array Value}(h:SAt w b cs)(o:Nat):w.frozen? ⟨b,o,none⟩=false:=by
 unfold SAt at h
 simp[World.frozen?,h]
theorem SAt.set{w:World}{b:Nat}{cs:Array Value}(h:SAt w b cs)(o:Nat)(v:Value):SAt (w.setCell ⟨b,o,none⟩ v) b (cs.setIfInBounds o v):=by
 unfold SAt at *
 simp[World.setCell,Array.getElem?_modify,h]
theorem SAt.range{w:World}{b:Nat}{cs:Array Value}(h:SAt w b cs):w.rangeAt b 0 cs.toList:=by
 intro j v a;rw[Nat.zero_add,h.cell]
 simpa using a
theorem SAt.there{w:World}{b:Nat}{cs:Array Value}(h:SAt w b cs)(o n:Nat)(a:o+n<=cs.size):w.there b o n:=by
 intro j c;rw[h.cell,h.free];have:o+j<cs.size:=by omega
 simp[this]
theorem SAt.sets{b:Nat}:∀ (a:List Value) (o:Nat) (w:World) (cs:Array Value),SAt w b cs->SAt (w.setCells b o a) b (spl cs o a)
 | [],_,_,_,h=>h
 | v :: r,o,_,_,h=>SAt.sets r (o+1) _ _ (h.set o v)
theorem SAt.z0C{w:World}{b:Nat}{cs ds:Array Value}(h:SAt w b cs)(hd:ds.size=cs.size):SAt (w.setCells b 0 ds.toList) b ds:=by
 have:=SAt.sets ds.toList 0 w cs h
 rwa [q2t hd]at this
theorem SAt.load{w:World}{b:Nat}{cs:Array Value}(h:SAt w b cs)(a:cs.size=63):(Instr.loadAt 32 (J2 (some ⟨b,0,none⟩))).run prog w=.ok (J4 cs) w:=by
 have:=run_loadAt_mid (P:=prog) w b 0 32 cs.toList _ h.range underlying32 rfl (by rw[z0l];simp[a])
 simpa using this
def Z63:Array Value:=#[J I 0,J I 0,J I 0,J I 0,J I 0,J I 0,J I 0,J I 0,J I 0,J I 0,J3 false,J3 false,J I 0,J I 0,J I 0,J3 false,J3 false,J I 0,J I 0,J I 0,J3 false,J3 false,J I 0,J I 0,J I 0,J3 false,J3 false,J I 0,J I 0,J I 0,J3 false,J3 false,J I 0,J I 0,J I 0,J3 false,J3 false,J I 0,J I 0,J I 0,J I 0,J I 0,J I 0,J I 0,J I 0,J I 0,J I 0,J I 0,J I 0,J I 0,J I 0,J I 0,J I 0,J I 0,J I 0,J I 0,J I 0,J I 0,J I 0,J I 0,J I 0,J1 none 0 0,J I 0]
def vdC(x:Vd):Array Value:=#[J I (x).tok,J I (x).sh,J I (x).lost,J3 (x).jail,J3 (x).dead]
def vsC(V:Nat->Vd):Array Value:=#[J I (V 0).tok,J I (V 0).sh,J I (V 0).lost,J3 (V 0).jail,J3 (V 0).dead,J I (V 1).tok,J I (V 1).sh,J I (V 1).lost,J3 (V 1).jail,J3 (V 1).dead,J I (V 2).tok,J I (V 2).sh,J I (V 2).lost,J3 (V 2).jail,J3 (V 2).dead,J I (V 3).tok,J I (V 3).sh,J I (V 3).lost,J3 (V 3).jail,J3 (V 3).dead,J I (V 4).tok,J I (V 4).sh,J I (V 4).lost,J3 (V 4).jail,J3 (V 4).dead,J I (V 5).tok,J I (V 5).sh,J I (V 5).lost,J3 (V 5).jail,J3 (V 5).dead]
def q9Z(r:Nat->Int):Array Value:=#[J I (r 0),J I (r 1),J I (r 2),J I (r 3),J I (r 4),J I (r 5)]
def shC(S:Nat->Nat->Int):Array Value:=#[J I (S 0 0),J I (S 0 1),J I (S 0 2),J I (S 0 3),J I (S 0 4),J I (S 0 5),J I (S 1 0),J I (S 1 1),J I (S 1 2),J I (S 1 3),J I (S 1 4),J I (S 1 5),J I (S 2 0),J I (S 2 1),J I (S 2 2),J I (S 2 3),J I (S 2 4),J I (S 2 5),J I (S 3 0),J I (S 3 1),J I (S 3 2),J I (S 3 3),J I (S 3 4),J I (S 3 5)]
def bkC(b:Bk):Array Value:=#[J I b.f0,J I b.f1,J I b.f2,J I b.f3,J I b.bo,J I b.wa,J I b.bu]
def stL(b:Bk)(V:Nat->Vd)(S:Nat->Nat->Int)(a:Value)(next:Int):List Value:=(bkC b).toList ++ ((vsC V).toList ++ ((shC S).toList ++ [a,J I next]))
def stC(s:St)(a:Value):Array Value:=(stL s.b s.V s.S a s.next).toArray
theorem z0d(s:St)(a:Value):(stC s a).size=63:=rfl
theorem z5J{w:World}{b:Nat}{s:St}{c:Value}(h:SAt w b (stC s c)):w.rangeAt b 7 (vsC s.V).toList:=by
 intro j v a;have d:j<30:=(List.getElem?_eq_some_iff.1 a).1;rw[h.cell];simp only[stC,stL,List.getElem?_toArray];rw[List.getElem?_append_right (by show 7<=7+j;omega),show 7+j - (bkC s.b).toList.length=j from by show 7+j - 7=j;omega,List.getElem?_append_left (show j<(vsC s.V).toList.length from d)]
 exact a
theorem z5T{w:World}{b:Nat}{s:St}{c:Value}(h:SAt w b (stC s c)):w.rangeAt b 37 (shC s.S).toList:=by
 intro j v a;have d:j<24:=(List.getElem?_eq_some_iff.1 a).1;rw[h.cell];simp only[stC,stL,List.getElem?_toArray]
 rw[List.getElem?_append_right (by show 7<=37+j;omega),show 37+j - (bkC s.b).toList.length=30+j from by show 37+j - 7=30+j;omega,
  List.getElem?_append_right (by show 30<=30+j;omega),show 30+j - (vsC s.V).toList.length=j from by show 30+j - 30=j;omega,List.getElem?_append_left (show j<(shC s.S).toList.length from d)]
 exact a
theorem z0g{w:World}{b:Nat}{s:St}{a:Value}(h:SAt w b (stC s a)):w.cell? ⟨b,0,none⟩=some (J I s.b.f0)/\w.cell? ⟨b,1,none⟩=some (J I s.b.f1)/\w.cell? ⟨b,2,none⟩=some (J I s.b.f2)/\w.cell? ⟨b,3,none⟩=some (J I s.b.f3)/\w.cell? ⟨b,4,none⟩=some (J I s.b.bo)/\w.cell? ⟨b,5,none⟩=some (J I s.b.wa)/\w.cell? ⟨b,6,none⟩=some (J I s.b.bu)/\w.cell? ⟨b,61,none⟩=some a/\w.cell? ⟨b,62,none⟩=some (J I s.next):=
 ⟨(h.cell 0).trans rfl,(h.cell 1).trans rfl,(h.cell 2).trans rfl,(h.cell 3).trans rfl,(h.cell 4).trans rfl,(h.cell 5).trans rfl,(h.cell 6).trans rfl,(h.cell 61).trans rfl,(h.cell 62).trans rfl⟩
theorem q0s:(prog.info? 27).map (·.size)=some 30:=by kernel_rfl
theorem q2G:(prog.info? 29).map (·.size)=some 24:=by kernel_rfl
theorem ixV(w:World)(V:Nat->Vd)(k:Nat)(a:k<6):(Instr.index 27 (J4 (vsC V)) (J I k)).run prog w=.ok (J4 #[J I (V k).tok,J I (V k).sh,J I (V k).lost,J3 (V k).jail,J3 (V k).dead]) w:=by
 rcases (show k=0∨k=1∨k=2∨k=3∨k=4∨k=5 by omega) with rfl | rfl | rfl | rfl | rfl | rfl <;> kernel_rfl
theorem ixS(w:World)(S:Nat->Nat->Int)(k:Nat)(a:k<4):(Instr.index 29 (J4 (shC S)) (J I k)).run prog w=.ok (J4 #[J I (S k 0),J I (S k 1),J I (S k 2),J I (S k 3),J I (S k 4),J I (S k 5)]) w:=by
 rcases (show k=0∨k=1∨k=2∨k=3 by omega) with rfl | rfl | rfl | rfl <;> kernel_rfl
theorem SAt.val{w:World}{b:Nat}{s:St}{a:Value}(h:SAt w b (stC s a))(k:Nat)(c:k<6):w.cell? ⟨b,7+k * 5,none⟩=some (J I (s.V k).tok)/\w.cell? ⟨b,7+k * 5+1,none⟩=some (J I (s.V k).sh)/\w.cell? ⟨b,7+k * 5+2,none⟩=some (J I (s.V k).lost)/\w.cell? ⟨b,7+k * 5+3,none⟩=some (J3 (s.V k).jail)/\w.cell? ⟨b,7+k * 5+4,none⟩=some (J3 (s.V k).dead):=by
 rcases (show k=0∨k=1∨k=2∨k=3∨k=4∨k=5 by omega) with rfl | rfl | rfl | rfl | rfl | rfl <;> exact⟨(h.cell _).trans rfl,(h.cell _).trans rfl,(h.cell _).trans rfl,(h.cell _).trans rfl,(h.cell _).trans rfl⟩
theorem SAt.shr{w:World}{b:Nat}{s:St}{a:Value}(h:SAt w b (stC s a))(d v:Nat)(hd:d<4)(c:v<6):w.cell? ⟨b,37+d * 6+v,none⟩=some (J I (s.S d v)):=by
 rcases (show d=0∨d=1∨d=2∨d=3 by omega) with rfl | rfl | rfl | rfl <;> rcases (show v=0∨v=1∨v=2∨v=3∨v=4∨v=5 by omega) with rfl | rfl | rfl | rfl | rfl | rfl <;> exact (h.cell _).trans rfl
theorem z0q(s:St)(sa:Option Addr)(n c:Nat):(stC s (J1 sa n c)).all (·.oneCell')=true:=by simp[stC,stL,bkC,vsC,shC,Value.oneCell']
theorem q6J(s:St)(a:Value):(stC s a)[61]?=some a:=rfl
theorem z4q{S:Nat->Nat->Int}{v:Nat}:∀ j,z2F S v j=true->0<=psh S v j/\psh S v j<=1125899906842624 * (j:Int)
 | 0,_=>by simp[psh]
 | j+1,h=>by
  simp only[z2F,Bool.and_eq_true,z1n]at h;have h1:=z4q j h.1;have h2:=h.2;simp only[psh];omega
theorem q1I{S:Nat->Nat->Int}{v j:Nat}{x:Int}(b:j<4)(a:inA (S j v)=false):q0d S v x=false:=by
 unfold q0d
 rcases (show j=0∨j=1∨j=2∨j=3 by omega) with rfl | rfl | rfl | rfl <;> simp[z2F,a]
theorem q0o{S:Nat->Nat->Int}{v:Nat}{x:Int}(h:z2F S v 4=true):q0d S v x=decide (psh S v 4=x):=by
 unfold q0d;rw[h,Bool.true_and]
theorem z6g(s:St)(m:Value)(b v:Nat)(n:v<6)(w:World)(h:SAt w b (stC s m)) :
  Calls prog 77 #[J2 (some ⟨b,0,none⟩),J I (v:Int)] w fun e w'=>e=.returned (J3 (q0d s.S v (s.V v).sh))/\w=w':=by
 have p:Hid (SAt w b (stC s m)):=h;have q:(v:Int)<6:=by omega
 obtain⟨_,r,_⟩:=h.val v n;clear h
 go_enter func77,ntmps77
 go_wp2
 go_loop [5,8] (fun t i=>∃ (j:Nat),j<=4/\i=J I (j:Int)/\t=J I (psh s.S v j)/\Hid (z2F s.S v j=true)) (fun _ i=>(4 - intOf i).toNat)
 case atStart=>exact⟨0,by omega,rfl,rfl,rfl⟩
 case round =>
  obtain⟨j,y,rfl,rfl,g⟩:=hrel
  by_cases c:j<4
  ·have o:(j:Int)<4:=by omega
   have z:=p.out.shr j v c n;have f:=z3T (s.S j v);have u:=z4q j g.out
   by_cases a:inA (s.S j v)=true
   ·rw[a]at f;have k:Hid (z2F s.S v (j+1)=true):=by show (z2F s.S v j && inA (s.S j v))=true;rw[g.out,a];rfl
    rw[z1n]at a;have d:psh s.S v (j+1)=psh s.S v j+s.S j v:=rfl;have x:Hid (psh s.S v (j+1)=psh s.S v j+s.S j v):=d;clear d
    go_wp2_with (go_at_call 121;refine (f _).mono ?_;rintro e w5⟨rfl,rfl⟩)
    go_round
    case rel=>exact⟨j+1,by omega,by go_num,by rw[x.out],k.out⟩
    case measure=>simp[intOf];omega
   ·simp only[Bool.not_eq_true]at a;rw[a]at f;have l:Hid (q0d s.S v (s.V v).sh=false):=q1I c a;clear a
    go_wp2_with (go_at_call 121;refine (f _).mono ?_;rintro e w5⟨rfl,rfl⟩)
    go_ret;exact⟨by rw[l.out];rfl,rfl⟩
  ·obtain rfl:j=4:=by omega
   have l:Hid (q0d s.S v (s.V v).sh=decide (psh s.S v 4=(s.V v).sh)):=q0o g.out;go_wp2;go_ret;exact⟨by rw[l.out];congr 1,rfl⟩
theorem z4Q{f:Nat}{args:Array Value}{w0 w:World}{b:Nat}{v:Value}{f0 f1 f2 f3 bo wa bu:Int}(h:Calls prog f args w fun e w'=>e=.returned v/\Bl w w')
  (d:b<w0.heap.size) (g:w.cell? ⟨b,0,none⟩=some (J I f0)/\w.cell? ⟨b,1,none⟩=some (J I f1)/\w.cell? ⟨b,2,none⟩=some (J I f2)/\w.cell? ⟨b,3,none⟩=some (J I f3)/\w.cell? ⟨b,4,none⟩=some (J I bo)/\w.cell? ⟨b,5,none⟩=some (J I wa)/\w.cell? ⟨b,6,none⟩=some (J I bu)/\Bl w0 w) :
  Calls prog f args w fun e w'=>e=.returned v/\w'.cell? ⟨b,0,none⟩=some (J I f0)/\w'.cell? ⟨b,1,none⟩=some (J I f1)/\w'.cell? ⟨b,2,none⟩=some (J I f2)/\w'.cell? ⟨b,3,none⟩=some (J I f3)/\w'.cell? ⟨b,4,none⟩=some (J I bo)/\w'.cell? ⟨b,5,none⟩=some (J I wa)/\w'.cell? ⟨b,6,none⟩=some (J I bu)/\Bl w0 w':=by
 refine h.mono ?_;rintro e w'⟨rfl,a⟩;obtain⟨h0,h1,h2,h3,i,j,l,c⟩:=g;have k:∀ o,w'.cell? ⟨b,o,none⟩=w.cell? ⟨b,o,none⟩:=fun o=>a.cell (Nat.lt_of_lt_of_le d c.size);exact⟨rfl,(k 0).trans h0,(k 1).trans h1,(k 2).trans h2,(k 3).trans h3,(k 4).trans i,(k 5).trans j,(k 6).trans l,c.trans (a.mono c.size)⟩
theorem z0a{n:Int}(h0:-9223372036854775808<=n)(h1:n<9223372036854775808):wrap64 n=n:=by
 unfold wrap64;omega
theorem q7O(f0 f1 f2 f3 bo wa bu:Int)(w:World)(y0 y1 y2 d f g h:Int)(k:∀ w,(binOp .eql 24 (J4 #[J I y0,J I y1,J I y2,J I d,J I f,J I g,J I h]) (J4 #[J I f0,J I f1,J I f2,J I f3,J I bo,J I wa,J I bu])).run prog w=.ok (J3 false) w)
  (b:∀ w,Calls prog 119 #[J4 #[J I f0,J I f1,J I f2,J I f3,J I bo,J I wa,J I bu]] w fun e w'=>e=.returned (J4 #[J I y0,J I y1,J I y2,J I d,J I f,J I g,J I h])/\Bl w w') :
  Calls prog 74 #[J4 #[J I f0,J I f1,J I f2,J I f3,J I bo,J I wa,J I bu]] w fun e w'=>e=.returned (J3 false)/\Bl w w':=by
 go_enter func74,ntmps74
 go_wp2_with fail
 have c:Hid (Bl w (w.alloc (J5 #[J I f0,J I f1,J I f2,J I f3,J I bo,J I wa,J I bu] 24))):=znw w _;have i:=BAt.new w f0 f1 f2 f3 bo wa bu;have a:w.heap.size<(w.alloc (J5 #[J I f0,J I f1,J I f2,J I f3,J I bo,J I wa,J I bu] 24)).heap.size:=by simp
 generalize w.alloc (J5 #[J I f0,J I f1,J I f2,J I f3,J I bo,J I wa,J I bu] 24)=w0 at *;obtain⟨o,p,q,r,s,t,u⟩:=id i.cells;clear i;have l:Bl w0 w0.drew:=(Below.refl _ _).drew
 go_region_with (go_at_call 119;refine (z4Q (f0:=f0) (f1:=f1) (f2:=f2) (f3:=f3) (bo:=bo) (wa:=wa) (bu:=bu) (b _) a ?_).mono ?_;(simp[*]);rintro e m⟨rfl,v,x,y,z,A,B,C,j⟩)
 all_goals
  have n:Hid (Bl w m):=c.out.trans (j.mono (Nat.le_of_lt a));clear j;go_wp2;go_ret;exact⟨rfl,n.out⟩
theorem q4U(f0 f1 f2 f3 bo wa bu s:Int)(r:Bool)(w:World)(g:∀ w,(binOp .eql 24 (J4 #[J I f0,J I f1,J I f2,J I f3,J I bo,J I wa,J I bu]) (J4 #[J I f0,J I f1,J I f2,J I f3,J I bo,J I wa,J I bu])).run prog w=.ok (J3 true) w)
  (b:∀ w,Calls prog 119 #[J4 #[J I f0,J I f1,J I f2,J I f3,J I bo,J I wa,J I bu]] w fun e w'=>e=.returned (J4 #[J I f0,J I f1,J I f2,J I f3,J I bo,J I wa,J I bu])/\Bl w w')
  (hsum:∀ w,Calls prog 11 #[J4 #[J I f0,J I f1,J I f2,J I f3,J I bo,J I wa,J I bu]] w fun e w'=>e=.returned (J I s)/\Bl w w') (l:(s == 400000)=r) :
  Calls prog 74 #[J4 #[J I f0,J I f1,J I f2,J I f3,J I bo,J I wa,J I bu]] w fun e w'=>e=.returned (J3 r)/\Bl w w':=by
 go_enter func74,ntmps74
 go_wp2_with fail
 have c:Hid (Bl w (w.alloc (J5 #[J I f0,J I f1,J I f2,J I f3,J I bo,J I wa,J I bu] 24))):=znw w _;have d:=BAt.new w f0 f1 f2 f3 bo wa bu;have a:w.heap.size<(w.alloc (J5 #[J I f0,J I f1,J I f2,J I f3,J I bo,J I wa,J I bu] 24)).heap.size:=by simp
 generalize w.alloc (J5 #[J I f0,J I f1,J I f2,J I f3,J I bo,J I wa,J I bu] 24)=w0 at *;obtain⟨m,n,o,p,q,t,u⟩:=id d.cells;clear d;have h:Bl w0 w0.drew:=(Below.refl _ _).drew
 go_region_held3 (fun w'=>w'.cell? ⟨w.heap.size,0,none⟩=some (J I f0)/\w'.cell? ⟨w.heap.size,1,none⟩=some (J I f1)/\w'.cell? ⟨w.heap.size,2,none⟩=some (J I f2)/\w'.cell? ⟨w.heap.size,3,none⟩=some (J I f3)/\w'.cell? ⟨w.heap.size,4,none⟩=some (J I bo)/\w'.cell? ⟨w.heap.size,5,none⟩=some (J I wa)/\w'.cell? ⟨w.heap.size,6,none⟩=some (J I bu)/\Bl w0 w') (go_keep)
  (first
   | (go_at_call 119;refine (z4Q (f0:=f0) (f1:=f1) (f2:=f2) (f3:=f3) (bo:=bo) (wa:=wa) (bu:=bu) (b _) a ?_).mono ?_;(simp[*]);rintro e v⟨rfl,i⟩)
   | (go_at_call 11;refine (z4Q (f0:=f0) (f1:=f1) (f2:=f2) (f3:=f3) (bo:=bo) (wa:=wa) (bu:=bu) (hsum _) a ?_).mono ?_;(simp[*]);rintro e j⟨rfl,f⟩))
 have k:Hid (Bl w j):=c.out.trans (f.2.2.2.2.2.2.2.mono (Nat.le_of_lt a));clear i f;go_wp2;go_ret;exact⟨rfl,k.out⟩
theorem q6B(n:Int):cl n=n↔0<=n/\n<=400000:=by
 unfold cl;omega
theorem z0u(f0 f1 f2 f3 bo wa bu:Int)(w:World):Calls prog 74 #[J4 #[J I f0,J I f1,J I f2,J I f3,J I bo,J I wa,J I bu]] w fun e w'=>e=.returned (J3 (z0v f0 f1 f2 f3 bo wa bu))/\Bl w w':=by
 have b:=z8U f0 f1 f2 f3 bo wa bu;have a:=fun w=>eqB w (cl f0) (cl f1) (cl f2) (cl f3) (cl bo) (cl wa) (cl bu) f0 f1 f2 f3 bo wa bu
 by_cases h:cl f0=f0/\cl f1=f1/\cl f2=f2/\cl f3=f3/\cl bo=bo/\cl wa=wa/\cl bu=bu
 ·rw[decide_eq_true h]at a;obtain⟨h0,h1,h2,h3,c,d,f⟩:=h;rw[h0,h1,h2,h3,c,d,f]at b a;rw[q6B]at h0 h1 h2 h3 c d f;refine q4U f0 f1 f2 f3 bo wa bu _ _ w a b (q6W f0 f1 f2 f3 bo wa bu) ?_;rw[z0a (by omega) (by omega)]
  unfold z0v
  simp[h0,h1,h2,h3,c,d,f]
  rfl
 ·rw[decide_eq_false h]at a
  have i:z0v f0 f1 f2 f3 bo wa bu=false:=by
   unfold z0v;refine decide_eq_false fun g=>h ?_;simp only[q6B];exact⟨g.1,g.2.1,g.2.2.1,g.2.2.2.1,g.2.2.2.2.1,g.2.2.2.2.2.1,g.2.2.2.2.2.2.1⟩
  rw[i];exact q7O f0 f1 f2 f3 bo wa bu w _ _ _ _ _ _ _ a b
theorem z0V{w wq:World}(R:BAt wq (w.heap.size+1) 0 0 0 0 0 0 0)(H:Bl w wq)(a r1 r2 c d f g h:Int)(act:Act)
  (k:act.tmps.getD 8 undef=J2 (some ⟨w.heap.size+1,0,none⟩)) (l:act.tmps.getD 9 undef=J I h) (hd:act.defers=[]) :
  bodyPost prog f114 (fun e w'=>e=.returned (.tuple #[J4 #[J I a,J I r1,J I r2,J I c,J I d,J I f,J I g],J I h])/\Bl w w') Exit.ret act
   (z2C wq (w.heap.size+1) a r1 r2 c d f g):=by
 have m:=R.z2C a r1 r2 c d f g;have n:=z0G (b:=w.heap.size+1) H (by omega) a r1 r2 c d f g
 generalize z2C wq (w.heap.size+1) a r1 r2 c d f g=w9 at *;obtain⟨o,u1,u2,p,q,r,s⟩:=m.cells;have i:act.tmps[8]?.getD undef=J2 (some ⟨w.heap.size+1,0,none⟩):=by simpa using k
 have j:act.tmps[9]?.getD undef=J I h:=by simpa using l
 exact bodyPost_ret (v:=.tuple #[J4 #[J I a,J I r1,J I r2,J I c,J I d,J I f,J I g],J I h]) (by simp[results,results114,go_sem,i,j,o,u1,u2,p,q,r,s]) hd ⟨rfl,n⟩
theorem z1r{w w1:World}{f0 f1 f2 f3 bo wa bu:Int}(a:Below ((w.alloc (J5 #[J I f0,J I f1,J I f2,J I f3,J I bo,J I wa,J I bu] 24)).alloc (J5 #[J I 0,J I 0,J I 0,J I 0,J I 0,J I 0,J I 0] 24)).heap.size ((w.alloc (J5 #[J I f0,J I f1,J I f2,J I f3,J I bo,J I wa,J I bu] 24)).alloc (J5 #[J I 0,J I 0,J I 0,J I 0,J I 0,J I 0,J I 0] 24)) w1):BAt w1 w.heap.size f0 f1 f2 f3 bo wa bu/\BAt w1 (w.heap.size+1) 0 0 0 0 0 0 0/\Hid (Bl w w1):=by
 refine⟨((BAt.new w f0 f1 f2 f3 bo wa bu).alloc (J5 #[J I 0,J I 0,J I 0,J I 0,J I 0,J I 0,J I 0] 24)).later a (by simp;omega),?_,((znw w _).alloc (by simp) _).trans (a.mono (by simp;omega))⟩
 have:=(BAt.new (w.alloc (J5 #[J I f0,J I f1,J I f2,J I f3,J I bo,J I wa,J I bu] 24)) 0 0 0 0 0 0 0).later a (by simp)
 simpa using this
theorem q7P(w:World):Calls prog 108 #[] w fun e w'=>e=.returned (J4 #[J I 100000,J I 100000,J I 100000,J I 100000,J I 0,J I 0,J I 0])/\Bl w w':=by
 go_enter func108,ntmps108
 go_wp2;refine wp_loop_rounds 5 ?_
 iterate 5 (try (rw[rounds_succ];go_wp2))
 exact bodyPost_ret (v:=J4 #[J I 100000,J I 100000,J I 100000,J I 100000,J I 0,J I 0,J I 0]) (by simp[results,results108,go_sem]) rfl ⟨rfl,(znw w _).alloc (by simp) _⟩
end
end Go.Proofs.YtjghbciepinofaaGreat
