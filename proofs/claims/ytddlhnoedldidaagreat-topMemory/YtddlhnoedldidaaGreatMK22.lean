/- Parts of the proof. -/
import Derived.Test.YtddlhnoedldidaaGreatML
import Derived.Test.YtddlhnoedldidaaGreatMK23
set_option maxRecDepth 100000
set_option maxHeartbeats 16000000
namespace Go.Proofs.YtddlhnoedldidaaGreat
open Go.Proofs.Tryz
open Value renaming int->J,slice->J1,pointer->J2,bool->J3,agg->J4
open IntKind renaming i64->I
open Obj renaming cells->J5
namespace Pv
open Go.RowKit
theorem z3p{w:World}{b:Nat}{p:Pr}{v:PrV}(h:CAt 58 w b (prC p v)):(w.cell? ⟨b,0,none⟩=some (J I p.h)/\w.cell? ⟨b,1,none⟩=some (J I p.t)/\w.cell? ⟨b,65,none⟩=some v.set/\w.cell? ⟨b,94,none⟩=some (J I p.ml)/\w.cell? ⟨b,95,none⟩=some (J I p.mn)/\w.cell? ⟨b,96,none⟩=some v.q)/\(z8i (J2 (some ⟨b,2,none⟩))).run prog w=.ok (J4 (stC p.s v.ws)) w:=
 ⟨⟨h.cell 0,h.cell 1,h.cell 65,h.cell 94,h.cell 95,h.cell 96⟩,z2a h⟩
attribute [local go_sem ↓] z1B
end Pv
namespace Pv
open Go.RowKit
def z2h(h:Int)(x:Lk):Bool:=z2j (-1) x.done && (!(x.on && x.gone) && decide (0<=x.base) && decide (x.base<=h) && z3l (-1) x.told && Ln.z0Z x.out)
def z5o(L:Nat->Lk)(a:Int×Pkt):Bool:=decide (0<=a.1) && decide (a.1<=1) && (L a.1.toNat).on && decide (a.2.k≠1) && decide (Cd.z0s a.2.k a.2.i a.2.v a.2.n a.2.S a.2.D=0)
def z0J(p:Pr):Bool:=(z0m p.s && decide (0<=p.h) && decide (p.h<=1099511627775) && decide (0<=p.t) && decide (p.t<=1099511627776) && z3l (-1) p.set) && (z2h p.h (p.L 0) && z2h p.h (p.L 1)) && p.q.all (z5o p.L)
structure GG(p:Pr)(G:Bool):Prop where
 one:(z0m p.s && decide (0<=p.h) && decide (p.h<=1099511627775) && decide (0<=p.t) && decide (p.t<=1099511627776) && z3l (-1) p.set)=false->G=false
 lks:∀ k,k<2->z2h p.h (p.L k)=false->G=false
 qus:∀ (i:Nat) (x:Int×Pkt),p.q[i]?=some x->z5o p.L x=false->G=false
 all:(z0m p.s && decide (0<=p.h) && decide (p.h<=1099511627775) && decide (0<=p.t) && decide (p.t<=1099511627776) && z3l (-1) p.set)=true->(∀ k,k<2->z2h p.h (p.L k)=true)->(∀ (i:Nat) (x:Int×Pkt),p.q[i]?=some x->z5o p.L x=true)->G=true
theorem j0P(p:Pr):GG p (z0J p):=by
 refine⟨fun h=>by simp only[z0J,h,Bool.false_and],fun k b h=>?_,fun i x a h=>?_,fun h1 h2 h3=>?_⟩
 ·have e:(z2h p.h (p.L 0) && z2h p.h (p.L 1))=false:=by
   match k,b with
   | 0,_=>rw[h,Bool.false_and]
   | 1,_=>rw[h,Bool.and_false]
  simp only[z0J,e,Bool.and_false,Bool.false_and]
 ·have e:p.q.all (z5o p.L)=false:=by
   rw[List.all_eq_false];exact⟨x,List.mem_of_getElem? a,by rw[h];simp⟩
  simp only[z0J,e,Bool.and_false]
 ·have e:p.q.all (z5o p.L)=true:=by
   rw[List.all_eq_true];intro x a;obtain⟨i,c⟩:=List.getElem?_of_mem a;exact h3 i x c
  simp only[z0J,h1,h2 0 (by omega),h2 1 (by omega),e,Bool.and_self]
end Pv
namespace Df
open Go.RowKit
theorem q3H{w:World}{B b:Nat}{v:Value}{l:List Pw}(h:z5F w B v l)(hb:b<=B):z5F w b v l:=by
 refine⟨h.1,?_⟩
 rcases h.2 with c | ⟨g,cap,a,d,h2,h3⟩
 ·exact .inl c
 ·exact .inr ⟨g,cap,a,d,Nat.le_trans hb h2,h3⟩
theorem ix0(c0 c1 c2 c3 a b:Value)(w:World):(Instr.index 39 (J4 #[c0,c1,c2,c3,a,b]) (J I 0)).run prog w=.ok c0 w:=by kernel_rfl
theorem ix1(c0 c1 c2 c3 a b:Value)(w:World):(Instr.index 39 (J4 #[c0,c1,c2,c3,a,b]) (J I 1)).run prog w=.ok c1 w:=by kernel_rfl
theorem ix2(c0 c1 c2 c3 a b:Value)(w:World):(Instr.index 39 (J4 #[c0,c1,c2,c3,a,b]) (J I 2)).run prog w=.ok c2 w:=by kernel_rfl
theorem ix3(c0 c1 c2 c3 a b:Value)(w:World):(Instr.index 39 (J4 #[c0,c1,c2,c3,a,b]) (J I 3)).run prog w=.ok c3 w:=by kernel_rfl
theorem ix4(c0 c1 c2 c3 a b:Value)(w:World):(Instr.index 39 (J4 #[c0,c1,c2,c3,a,b]) (J I 4)).run prog w=.ok a w:=by kernel_rfl
theorem ix5(c0 c1 c2 c3 b a:Value)(w:World):(Instr.index 39 (J4 #[c0,c1,c2,c3,b,a]) (J I 5)).run prog w=.ok a w:=by kernel_rfl
theorem j5I(P:Nat->Int){k:Nat}(a:k<6)(w:World):(Instr.index 39 (J4 #[J I (P 0),J I (P 1),J I (P 2),J I (P 3),J I (P 4),J I (P 5)]) (J I (k:Int))).run prog w=.ok (J I (P k)) w:=by
 rcases (show k=0∨k=1∨k=2∨k=3∨k=4∨k=5 by omega) with rfl | rfl | rfl | rfl | rfl | rfl
 ·exact ix0 _ _ _ _ _ _ w
 ·exact ix1 _ _ _ _ _ _ w
 ·exact ix2 _ _ _ _ _ _ w
 ·exact ix3 _ _ _ _ _ _ w
 ·exact ix4 _ _ _ _ _ _ w
 ·exact ix5 _ _ _ _ _ _ w
theorem j0p(a b:List Pw)(ao bo:Option Addr)(F G H n bb o:Nat)(w:World)(x:PIn w a ao H n)(hb:PIn w b bo bb o) :
  Calls prog 116 #[J1 ao a.length F,J1 bo b.length G] w fun e w'=>∃ v,e=.returned v/\z5F w' w.heap.size v (z6B a b)/\Below w.heap.size w w':=by
 obtain⟨i0,Q,y,z,A⟩:=info_parts q6f;have S:=J6 x;have d:=J6 hb;have p:=J6 (q0o a ao F H n w x);have q:=J6 (fun w h=>q0o b bo G bb o w h);unfold z6B;generalize z2u a=P at *;generalize z2u b=R at *;clear x hb
 go_enter func116,ntmps116
 go_upto_region 3 with (first
  | (go_at_call 156;have _m:=T;refine (q.out _ (d.out.over f.out)).mono ?_;rintro e g⟨rfl,r⟩;have c:=J6 (zbt f.out r);clear r)
  | (go_at_call 156;refine p.out.mono ?_;rintro e w1⟨rfl,s⟩;have f:=J6 s;have T:True:=trivial;clear s))
 have B:=(QAt.new g P).alloc (J5 #[J I (R 0),J I (R 1),J I (R 2),J I (R 3),J I (R 4),J I (R 5)] 39);have C:=QAt.new (g.alloc (J5 #[J I (P 0),J I (P 1),J I (P 2),J I (P 3),J I (P 4),J I (P 5)] 39)) R;rw[show (g.alloc (J5 #[J I (P 0),J I (P 1),J I (P 2),J I (P 3),J I (P 4),J I (P 5)] 39)).heap.size=g.heap.size+1 by simp]at C
 have K:=(c.out.alloc c.out.size (J5 #[J I (P 0),J I (P 1),J I (P 2),J I (P 3),J I (P 4),J I (P 5)] 39)).alloc (Nat.le_trans c.out.size (by simp)) (J5 #[J I (R 0),J I (R 1),J I (R 2),J I (R 3),J I (R 4),J I (R 5)] 39)
 have U:w.heap.size<=g.heap.size:=c.out.size;clear p q S d f c;generalize g.heap.size=b6 at *;generalize (g.alloc (J5 #[J I (P 0),J I (P 1),J I (P 2),J I (P 3),J I (P 4),J I (P 5)] 39)).alloc (J5 #[J I (R 0),J I (R 1),J I (R 2),J I (R 3),J I (R 4),J I (R 5)] 39)=w3 at *;obtain⟨⟨c0,c1,c2,c3,V,W⟩,-⟩:=C.facts;have X:b6<w3.heap.size:=B.lt;have D:=J6 (And.intro B K);clear B C K
 go_upto_region 4 with fail
 clear c0 c1 c2 c3 V W
 go_loopw [5,15] (fun v i wl=>∃ k:Nat,k<=6/\i=J I (k:Int)/\z5F wl w3.heap.size v (those (fun v=>decide (R v≠P v)) R k)/\Hid (Below w3.heap.size w3 wl)) (fun _ i _=>(6 - intOf i).toNat)
 case atStart=>exact⟨0,by omega,rfl,z5F.nil _ _,Below.refl _ _⟩
 case round =>
  obtain⟨k,hk,rfl,hown,d⟩:=hrel;have E:w3.heap.size<=wr.heap.size:=d.out.size
  by_cases t:k<6
  ·have Y:(k:Int)<6:=by omega
   have Z:=fun w=>j5I R t w;have cP:=(D.out.1.later d.out X).one t;have L:=J6 (z3G (fun v=>decide (R v≠P v)) R k);have M:=z3D (fun v=>decide (R v≠P v)) R k;generalize R k=rk at *;generalize P k=pk at *
   by_cases j:rk=pk
   ·subst j;go_wp2;exact⟨⟨k+1,by omega,by go_num,by rw[L.out,if_neg (by simp)];exact hown,d.out⟩,by simp[intOf];omega⟩
   ·have N:(rk != pk)=true:=by simpa using j
    go_wp2_with (at_builtin;refine wpList_append_own_at _ rfl _ _ 44 rfl w3.heap.size 65 i0 (J4 #[J I 0,J I 0]) 2 16 underlying44 Q y z A rfl (by decide) _ _ _ rfl (World.ownsRow.alloc hown _) ⟨wr.heap.size,0,none⟩ 1 1 [J I (k:Int),J I rk] rfl rfl (q2d _ _ _ _) (by intro u hu;simp at hu;rcases hu with rfl | rfl <;> rfl) (by unfold maxLen;omega) (by omega) (by simp;omega) ?_;intro v' w1 l m _ a0)
    have hb:Below w3.heap.size w3 w1:=z5F.grow hown d.out m (Nat.le_refl _) E;refine⟨⟨k+1,by omega,by go_num,?_,hb⟩,by simp[intOf];omega⟩
    rw[L.out,if_pos (by simpa using j)]
    exact z5F.append l rfl
  ·obtain rfl:k=6:=by omega
   go_wp2;go_ret;exact⟨_,rfl,q3H hown (by have:=D.out.2.size;omega),zbt D.out.2 d.out⟩
theorem q9j(a d:List Pw)(ao bo:Option Addr)(ca cb ab F bb G:Nat)(w:World)(H:PIn w a ao ab F)(hd:PIn w d bo bb G) :
  Calls prog 161 #[J1 ao a.length ca,J1 bo d.length cb] w fun e w'=>∃ v,e=.returned v/\z5F w' w.heap.size v (z3W a d)/\Below w.heap.size w w':=by
 obtain⟨i0,hi,K,L,M⟩:=info_parts q6f;have a1:=H.len;have hld:=hd.len;have C:=J6 H;have D:=J6 hd;have N:=QAt.new w z3C;dsimp only [z3C]at N;have B0:Below w.heap.size w (w.alloc (J5 #[J I 0,J I 0,J I 0,J I 0,J I 0,J I 0] 39)):=znw w _;have m:w.heap.size<=w.heap.size:=Nat.le_refl _;clear H hd
 go_enter func161,ntmps161
 go_upto_region 2 with fail
 have X:Hid (QAt (w.alloc (J5 #[J I 0,J I 0,J I 0,J I 0,J I 0,J I 0] 39)) w.heap.size z3C/\_):=⟨N,B0⟩;clear N B0;obtain⟨h,f⟩:∃ h,w.heap.size=h:=⟨_,rfl⟩;have m:w.heap.size<=h:=Nat.le_of_eq f;rw[show (Value.pointer (some ⟨w.heap.size,0,none⟩))=J2 (some ⟨h,0,none⟩) by rw[f]]
 generalize w.alloc (J5 #[J I 0,J I 0,J I 0,J I 0,J I 0,J I 0] 39)=w0 at *;have o:Hid (QAt w0 h z3C/\Below w.heap.size w w0):=by have:=X.out;rw[f]at this;rw[f];exact this
 clear X f
 go_upto_region 3 with fail
 go_loopw [15] (fun i wl=>∃ k:Nat,k<=a.length/\i=J I (k:Int)/\Hid (QAt wl h (z3u (z3C) (a.take k))/\Below w.heap.size w wl)) (fun i _=>a.length - (intOf i).toNat)
 case atStart=>exact⟨0,Nat.zero_le _,rfl,o.out.1,o.out.2⟩
 case round =>
  obtain⟨k,Y,rfl,b⟩:=hrel
  by_cases g:k<a.length
  ·have Q:(k:Int)<(a.length:Int):=by omega
   obtain⟨c0,c1⟩:=(C.out.later b.out.2 C.out.ltB).cells k g;have R:=J6 (z8Z (z3C) a k g);have p:=C.out.adr (by omega)
   subst p;generalize a.getD k (0,0)=x at *;obtain⟨v,n⟩:=x;dsimp only at c0 c1;have t:=b.out.1.alloc (J5 #[J I v,J I n] 65);have c:=J6 (And.intro t (b.out.2.alloc b.out.2.size (J5 #[J I v,J I n] 65)));clear t
   go_wp2_with (go_at_call 186;refine (z7i h v n _ _ c.out.1).mono ?_;rintro e w1⟨rfl,y,z⟩;have S:=J6 y;have T:=J6 z;clear y z)
   refine⟨⟨k+1,by omega,by go_num,by rw[R.out];exact S.out,c.out.2.trans (z4W T.out m c.out.2.size)⟩,by simp[intOf];omega⟩
  ·obtain rfl:k=a.length:=by omega
   have A:a.take a.length=a:=List.take_length;rw[A]at b;have q:=J6 b.out;clear b A o C
   go_upto_region 8 with fail
   go_loopw [24] (fun i wl=>∃ k:Nat,k<=d.length/\i=J I (k:Int)/\Hid (QAt wl h (z3u (z3u z3C a) (d.take k))/\Below w.heap.size w wl)) (fun i _=>d.length - (intOf i).toNat)
   case atStart=>exact⟨0,Nat.zero_le _,rfl,q.out.1,q.out.2⟩
   case round =>
    obtain⟨k,Y,rfl,b⟩:=hrel
    by_cases g:k<d.length
    ·have Q:(k:Int)<(d.length:Int):=by omega
     obtain⟨c0,c1⟩:=(D.out.later b.out.2 D.out.ltB).cells k g;have R:=J6 (z8Z (z3u z3C a) d k g);have p:=D.out.adr (by omega)
     subst p;generalize d.getD k (0,0)=x at *;obtain⟨v,n⟩:=x;dsimp only at c0 c1;have t:=b.out.1.alloc (J5 #[J I v,J I n] 65);have c:=J6 (And.intro t (b.out.2.alloc b.out.2.size (J5 #[J I v,J I n] 65)));clear t
     go_wp2_with (go_at_call 186;refine (z7i h v n _ _ c.out.1).mono ?_;rintro e w1⟨rfl,y,z⟩;have S:=J6 y;have T:=J6 z;clear y z)
     refine⟨⟨k+1,by omega,by go_num,by rw[R.out];exact S.out,c.out.2.trans (z4W T.out m c.out.2.size)⟩,by simp[intOf];omega⟩
    ·obtain rfl:k=d.length:=by omega
     have A:d.take d.length=d:=List.take_length;rw[A]at b;have j:=J6 b.out;clear b A q D;have U:z3W a d=those (fun v=>decide (0<z3u (z3u z3C a) d v)) (z3u (z3u z3C a) d) 6:=rfl;obtain⟨P,Z⟩:∃ P,z3u (z3u z3C a) d=P:=⟨_,rfl⟩;rw[Z]at U j;have HE:=J6 U;clear U Z;obtain⟨⟨c0,c1,c2,c3,c4,c5⟩,-⟩:=j.out.1.facts;obtain⟨l,rfl⟩:∃ l,l=wr:=⟨_,rfl⟩
     go_upto_region 14 with fail
     go_loopw [10,32] (fun v i wl=>∃ k:Nat,k<=6/\i=J I (k:Int)/\z5F wl l.heap.size v (those (fun v=>decide (0<P v)) P k)/\Hid (Below l.heap.size l wl)) (fun _ i _=>(6 - intOf i).toNat)
     case atStart=>exact⟨0,by omega,rfl,z5F.nil _ _,Below.refl _ _⟩
     case round =>
      obtain⟨k,Y,rfl,hown,E⟩:=hrel;have V:l.heap.size<=wr.heap.size:=E.out.size
      by_cases W:k<6
      ·have a2:(k:Int)<6:=by omega
       have a3:=fun w=>j5I P W w;have HC:=J6 (z3G (fun v=>decide (0<P v)) P k);have a0:=z3D (fun v=>decide (0<P v)) P k;generalize P k=pk at *
       by_cases B:0<pk
       ·go_wp2_with (at_builtin;refine wpList_append_own_at _ rfl _ _ 44 rfl l.heap.size 65 i0 (J4 #[J I 0,J I 0]) 2 16 underlying44 hi K L M rfl (by decide) _ _ _ rfl (World.ownsRow.alloc hown _) ⟨wr.heap.size,0,none⟩ 1 1 [J I (k:Int),J I pk] rfl rfl (q2d _ _ _ _) (by intro u hu;simp at hu;rcases hu with rfl | rfl <;> rfl) (by unfold maxLen;omega) (by omega) (by simp;omega) ?_;intro v' w1 r s _ a4)
        have hb:Below l.heap.size l w1:=z5F.grow hown E.out s (Nat.le_refl _) V;refine⟨⟨k+1,by omega,by go_num,?_,hb⟩,by simp[intOf];omega⟩
        rw[HC.out,if_pos (by simpa using B)]
        exact z5F.append r rfl
       ·go_wp2;exact⟨⟨k+1,by omega,by go_num,by rw[HC.out,if_neg (by simpa using B)];exact hown,E.out⟩,by simp[intOf];omega⟩
      ·obtain rfl:k=6:=by omega
       go_wp2;go_ret;exact⟨_,rfl,by rw[HE.out];exact q3H hown j.out.2.size,zbt j.out.2 E.out⟩
theorem j4q(l:List Pw)(ao:Option Addr)(c b off:Nat)(w:World)(h:PIn w l ao b off) :
  Calls prog 76 #[J1 ao l.length c] w fun e w'=>e=.returned (J I (q4m l))/\Below w.heap.size w w':=by
 have p:=h.len;have q:=J6 h;clear h
 go_enter func76,ntmps76
 go_upto_region 3 with fail
 go_loopw [3,8] (fun s i wl=>∃ k:Nat,k<=l.length/\i=J I (k:Int)/\s=J I (q4m (l.take k))/\Hid (Below w.heap.size w wl)) (fun _ i _=>l.length - (intOf i).toNat)
 case atStart=>exact⟨0,Nat.zero_le _,rfl,rfl,Below.refl _ _⟩
 case round =>
  obtain⟨k,y,rfl,rfl,f⟩:=hrel
  by_cases d:k<l.length
  ·have r:(k:Int)<(l.length:Int):=by omega
   obtain⟨c0,c1⟩:=(q.out.over f.out).cells k d;have g:=J6 (j1R l k d);have j:=q.out.adr (by omega)
   subst j;generalize l.getD k (0,0)=x at *;obtain⟨v,n⟩:=x;dsimp only at c0 c1 g;generalize q4m (l.take k)=s0 at *;obtain⟨m,a⟩:∃ m,q4m (l.take (k+1))=m:=⟨_,rfl⟩;rw[a]at g;have o:=J6 a;have t:wrap64 (s0+n)=m:=by rw[g.out];unfold wrap64;rfl
   clear g a;go_wp2;exact⟨⟨k+1,by omega,by go_num,by rw[o.out,t],f.out.alloc f.out.size _⟩,by simp[intOf];omega⟩
  ·obtain rfl:k=l.length:=by omega
   have u:Hid (l.take l.length=l):=List.take_length;go_wp2;go_ret;exact⟨by rw[u.out];rfl,f.out⟩
end Df
namespace Kc
open Go.RowKit Pv
theorem z7d(n:Int)(w:World):Calls prog 120 #[J I n] w fun e w'=>e=.returned (J3 (isT n))/\w=w':=by
 have b:isT n=(decide (0<=n) && decide (n<=1099511627776)):=rfl;generalize isT n=t at *;have a:=J6 b;clear b
 by_cases h:0<=n
 ·by_cases h2:n<=1099511627776
  ·have e:t=true:=by rw[a.out];simp[h,h2]
   subst e
   go_enter func120,ntmps120
   go_wp2;go_ret;exact⟨rfl,rfl⟩
  ·have e:t=false:=by rw[a.out];simp[h2]
   subst e
   go_enter func120,ntmps120
   go_wp2;go_ret;exact⟨rfl,rfl⟩
 ·have e:t=false:=by rw[a.out];simp[h]
  subst e
  go_enter func120,ntmps120
  go_wp2;go_ret;exact⟨rfl,rfl⟩
theorem z9y(v:Int)(w:World):Calls prog 133 #[J I v] w fun e w'=>e=.returned (J3 (isV v))/\w=w':=by
 have b:isV v=decide (0<=v/\v<6):=rfl;generalize isV v=t at *;have a:=J6 b;clear b
 by_cases h:0<=v
 ·by_cases h2:v<6
  ·have e:t=true:=by rw[a.out];simp[h,h2]
   subst e
   go_enter func133,ntmps133
   go_wp2;go_ret;exact⟨rfl,rfl⟩
  ·have e:t=false:=by rw[a.out];simp[h2]
   subst e
   go_enter func133,ntmps133
   go_wp2;go_ret;exact⟨rfl,rfl⟩
 ·have e:t=false:=by rw[a.out];simp[h]
  subst e
  go_enter func133,ntmps133
  go_wp2;go_ret;exact⟨rfl,rfl⟩
theorem q9H(l:List (Int×Int))(v:Value)(P:Nat->Prop)(w:World)(h:Rep P w v 2 16 (pwC l)):Calls prog 187 #[v] w fun e w'=>e=.returned (J3 (z3l (-1) l))/\Bl w w':=by
 obtain⟨A,C,rfl,F,-,hc,-⟩:=h.open (z0c _) (by decide)
 have H:=J6 hc;have u:l.length<=8796093022202:=by omega
 obtain⟨G,q⟩:∃ G,z3l (-1) l=G:=⟨_,rfl⟩;have y:=J6 q;rw[q];clear hc h F q
 go_enter func187,ntmps187
 go_upto_region 3 with fail
 go_loopw [3,8] (fun K i wl=>∃ (k:Nat) (last:Int),k<=l.length/\i=J I (k:Int)/\K=J I last/\-1<=last/\Hid (G=z3l last (l.drop k)/\Bl w wl)) (fun _ i _=>l.length - (intOf i).toNat)
 case atStart=>exact⟨0,-1,Nat.zero_le _,rfl,rfl,by omega,y.out.symm,Below.refl _ _⟩
 case round =>
  obtain⟨k,last,N,rfl,rfl,L,d⟩:=hrel
  by_cases g:k<l.length
  ·have M:(k:Int)<(l.length:Int):=by omega
   obtain⟨x,z,hd⟩:=z4u g;obtain⟨b,off,rfl,-,j,hcell⟩:=H.out (by omega)
   have B:l.getD k (0,0)=x:=by simp[List.getD,z]
   obtain⟨p0,p1⟩:=z1U l k g;rw[B]at p0 p1;have c0:wr.cell? ⟨b,off+k * 2,none⟩=some (J I x.1):=(d.out.2.cell (p:=⟨b,off+k * 2,none⟩) j).trans (hcell _ _ p0);have c1:wr.cell? ⟨b,off+k * 2+1,none⟩=some (J I x.2):=(d.out.2.cell (p:=⟨b,off+k * 2+1,none⟩) j).trans (hcell _ _ p1);have o:Hid (G=(z7Y last x && z3l x.1 (l.drop (k+1)))):=by have:=d.out.1;rw[hd]at this;exact this
   have r:=J6 (d.out.2.alloc d.out.2.size (J5 #[J I x.1,J I x.2] 65));have D:Hid (∀ last,z7Y last x=(decide (last<x.1) && decide (x.1<=5) && decide (1<=x.2) && decide (x.2<=1125899906842624))):=fun _=>rfl;have c:Hid (isV x.1=decide (0<=x.1/\x.1<6)):=rfl;clear d hd z B p0 p1 hcell;obtain⟨a,f⟩:=x;dsimp only at c0 c1 c
   by_cases h1:last<a/\a<=5/\1<=f/\f<=1125899906842624
   ·obtain⟨h1,h2,h3,E⟩:=h1;have e:G=z3l a (l.drop (k+1)):=by rw[o.out,D.out];simp[h1,h2,h3,E]
    have m:=J6 e;have n:isV a=true:=by rw[c.out];simp;omega
    clear e o
    go_wp2_with (go_at_call 133;refine (z9y _ _).mono ?_;rintro e w'⟨rfl,rfl⟩)
    first | exact⟨⟨k+1,a,by omega,by go_num,rfl,by omega,m.out,r.out⟩,by simp[intOf];omega⟩ | ((repeat apply Exists.intro);exact⟨⟨k+1,a,by omega,by go_num,rfl,by omega,m.out,r.out⟩,rfl⟩)
   ·have e:G=false:=by
     rw[o.out,D.out];simp only[Bool.and_eq_false_iff,decide_eq_false_iff_not]
     by_cases q1:last<a
     ·by_cases q2:a<=5
      ·by_cases q3:1<=f
       ·exact .inl (.inr fun s=>h1 ⟨q1,q2,q3,s⟩)
       ·exact .inl (.inl (.inr q3))
      ·exact .inl (.inl (.inl (.inr q2)))
     ·exact .inl (.inl (.inl (.inl q1)))
    subst e;clear o y
    have t:¬ last<a∨(last<a/\isV a=false)∨(last<a/\isV a=true/\¬ 1<=f)∨(last<a/\isV a=true/\1<=f/\¬ f<=1125899906842624):=by
     by_cases q1:last<a
     ·by_cases q2:a<=5
      ·have n:isV a=true:=by rw[c.out];simp;omega
       by_cases q3:1<=f
       ·exact .inr (.inr (.inr ⟨q1,n,q3,fun s=>h1 ⟨q1,q2,q3,s⟩⟩))
       ·exact .inr (.inr (.inl ⟨q1,n,q3⟩))
      ·have n:isV a=false:=by rw[c.out];simp;omega
       exact .inr (.inl ⟨q1,n⟩)
     ·exact .inl q1
    clear h1
    rcases t with h1 | ⟨h1,h2⟩ | ⟨h1,h2,h3⟩ | ⟨h1,h2,h3,E⟩
    all_goals
     go_wp2_with (go_at_call 133;refine (z9y _ _).mono ?_;rintro e w'⟨rfl,rfl⟩)
     go_ret;exact⟨rfl,r.out⟩
  ·obtain rfl:k=l.length:=by omega
   have e:G=true:=by have:=d.out.1;rw[List.drop_length]at this;exact this
   subst e;go_wp2;go_ret;exact⟨rfl,d.out.2⟩
theorem q4A(l:List (Int×Int))(v:Value)(P:Nat->Prop)(w:World)(h:Rep P w v 2 8 (pwC l)):Calls prog 189 #[v] w fun e w'=>e=.returned (J3 (l.all z7L))/\Bl w w':=by
 obtain⟨A,C,rfl,z,-,hc,-⟩:=h.open (z0c _) (by decide)
 have B:=J6 hc;have r:l.length<=17592186044404:=by omega
 obtain⟨G,m⟩:∃ G,l.all z7L=G:=⟨_,rfl⟩;have s:=J6 m;rw[m];clear hc h z m
 go_enter func189,ntmps189
 go_upto_region 2 with fail
 go_loopw [7] (fun i wl=>∃ (k:Nat),k<=l.length/\i=J I (k:Int)/\Hid (G=(l.drop k).all z7L/\Bl w wl)) (fun i _=>l.length - (intOf i).toNat)
 case atStart=>exact⟨0,Nat.zero_le _,rfl,s.out.symm,Below.refl _ _⟩
 case round =>
  obtain⟨k,E,rfl,c⟩:=hrel
  by_cases d:k<l.length
  ·have D:(k:Int)<(l.length:Int):=by omega
   obtain⟨x,t,hd⟩:=z4u d;obtain⟨b,off,rfl,-,f,hcell⟩:=B.out (by omega)
   have u:l.getD k (0,0)=x:=by simp[List.getD,t]
   obtain⟨p0,p1⟩:=z1U l k d;rw[u]at p0 p1;have c0:wr.cell? ⟨b,off+k * 2,none⟩=some (J I x.1):=(c.out.2.cell (p:=⟨b,off+k * 2,none⟩) f).trans (hcell _ _ p0);have c1:wr.cell? ⟨b,off+k * 2+1,none⟩=some (J I x.2):=(c.out.2.cell (p:=⟨b,off+k * 2+1,none⟩) f).trans (hcell _ _ p1);have j:Hid (G=(z7L x && (l.drop (k+1)).all z7L)):=by have:=c.out.1;rw[hd,List.all_cons]at this;exact this
   have n:=J6 (c.out.2.alloc c.out.2.size (J5 #[J I x.1,J I x.2] 79));have y:Hid (z7L x=(decide (1<=x.1) && decide (x.1<=1099511627776) && decide (0<=x.2))):=rfl;clear c hd t u p0 p1 hcell;obtain⟨a,o⟩:=x;dsimp only at c0 c1
   by_cases h1:1<=a/\a<=1099511627776/\0<=o
   ·obtain⟨h1,h2,h3⟩:=h1;have e:G=(l.drop (k+1)).all z7L:=by rw[j.out,y.out];simp[h1,h2,h3]
    have g:=J6 e;clear e j;go_wp2
    first | exact⟨⟨k+1,by omega,by go_num,g.out,n.out⟩,by simp[intOf];omega⟩ | ((repeat apply Exists.intro);exact⟨⟨k+1,by omega,by go_num,g.out,n.out⟩,rfl⟩)
   ·have e:G=false:=by
     rw[j.out,y.out]
     have:(decide (1<=a) && decide (a<=1099511627776) && decide (0<=o))=false:=by
      rw[Bool.eq_false_iff];intro h;simp only[Bool.and_eq_true,decide_eq_true_eq]at h;exact h1 ⟨h.1.1,h.1.2,h.2⟩
     dsimp only;rw[this,Bool.false_and]
    subst e;clear j s;have q:¬ 1<=a∨(1<=a/\¬ a<=1099511627776)∨(1<=a/\a<=1099511627776/\¬ 0<=o):=by omega
    clear h1
    rcases q with h1 | ⟨h1,h2⟩ | ⟨h1,h2,h3⟩
    all_goals
     go_wp2;go_ret;exact⟨rfl,n.out⟩
  ·obtain rfl:k=l.length:=by omega
   have e:G=true:=by have:=c.out.1;rw[List.drop_length]at this;exact this
   subst e;go_wp2;go_ret;exact⟨rfl,c.out.2⟩
end Kc
end Go.Proofs.YtddlhnoedldidaaGreat
