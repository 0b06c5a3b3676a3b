/- Parts of the proof. -/
import Derived.Test.YtmopekkhmhhcaaaGreatFL
import Derived.Test.YtmopekkhmhhcaaaGreatFK23
set_option maxRecDepth 100000
set_option maxHeartbeats 16000000
namespace Go.Proofs.YtmopekkhmhhcaaaGreat
open Go.Proofs.Tryz
namespace Pv
open Go.RowKit
theorem z3F{w:World}{b:Nat}{p:Pr}{v:PrV}(h:CAt 57 w b (prC p v)):(w.cell? ⟨b,0,none⟩=some (.int .i64 p.h)/\w.cell? ⟨b,1,none⟩=some (.int .i64 p.t)/\w.cell? ⟨b,65,none⟩=some v.set/\w.cell? ⟨b,94,none⟩=some (.int .i64 p.ml)/\w.cell? ⟨b,95,none⟩=some (.int .i64 p.mn)/\w.cell? ⟨b,96,none⟩=some v.q)/\(z8M (.pointer (some ⟨b,2,none⟩))).run prog w=.ok (.agg (stC p.s v.ws)) w:=
 ⟨⟨h.cell 0,h.cell 1,h.cell 65,h.cell 94,h.cell 95,h.cell 96⟩,z2p h⟩
attribute [local go_sem ↓] z1K
end Pv
namespace Pv
open Go.RowKit
def z2w(h:Int)(x:Lk):Bool:=z2g (-1) x.done && (!(x.on && x.gone) && decide (0<=x.base) && decide (x.base<=h) && z2N (-1) x.told && Ln.z0T x.out)
def z5T(L:Nat->Lk)(a:Int×Pkt):Bool:=decide (0<=a.1) && decide (a.1<=1) && (L a.1.toNat).on && decide (a.2.k≠1) && decide (Cd.z0m a.2.k a.2.i a.2.v a.2.n a.2.S a.2.D=0)
def z0x(p:Pr):Bool:=(z0i p.s && decide (0<=p.h) && decide (p.h<=1099511627775) && decide (0<=p.t) && decide (p.t<=1099511627776) && z2N (-1) p.set) && (z2w p.h (p.L 0) && z2w p.h (p.L 1)) && p.q.all (z5T p.L)
structure GG(p:Pr)(G:Bool):Prop where
 one:(z0i p.s && decide (0<=p.h) && decide (p.h<=1099511627775) && decide (0<=p.t) && decide (p.t<=1099511627776) && z2N (-1) p.set)=false->G=false
 lks:∀ k,k<2->z2w p.h (p.L k)=false->G=false
 qus:∀ (i:Nat) (x:Int×Pkt),p.q[i]?=some x->z5T p.L x=false->G=false
 all:(z0i p.s && decide (0<=p.h) && decide (p.h<=1099511627775) && decide (0<=p.t) && decide (p.t<=1099511627776) && z2N (-1) p.set)=true->(∀ k,k<2->z2w p.h (p.L k)=true)->(∀ (i:Nat) (x:Int×Pkt),p.q[i]?=some x->z5T p.L x=true)->G=true
theorem j1g(p:Pr):GG p (z0x p):=by
 refine⟨fun h=>by simp only[z0x,h,Bool.false_and],fun k hk h=>?_,fun i x hx h=>?_,fun h1 h2 h3=>?_⟩
 ·have e:(z2w p.h (p.L 0) && z2w p.h (p.L 1))=false:=by
   match k,hk with
   | 0,_=>rw[h,Bool.false_and]
   | 1,_=>rw[h,Bool.and_false]
  simp only[z0x,e,Bool.and_false,Bool.false_and]
 ·have e:p.q.all (z5T p.L)=false:=by
   rw[List.all_eq_false];exact⟨x,List.mem_of_getElem? hx,by rw[h];simp⟩
  simp only[z0x,e,Bool.and_false]
 ·have e:p.q.all (z5T p.L)=true:=by
   rw[List.all_eq_true];intro x hx;obtain⟨i,hi⟩:=List.getElem?_of_mem hx;exact h3 i x hi
  simp only[z0x,h1,h2 0 (by omega),h2 1 (by omega),e,Bool.and_self]
end Pv
namespace Df
open Go.RowKit
theorem q3A{w:World}{B B':Nat}{v:Value}{l:List Pw}(h:z6h w B v l)(hb:B'<=B):z6h w B' v l:=by
 refine⟨h.1,?_⟩
 rcases h.2 with hn | ⟨g,cap,cur,hv,h2,h3⟩
 ·exact .inl hn
 ·exact .inr ⟨g,cap,cur,hv,Nat.le_trans hb h2,h3⟩
theorem ix0(c0 c1 c2 c3 c4 c5:Value)(w:World):(Instr.index 39 (.agg #[c0,c1,c2,c3,c4,c5]) (.int .i64 0)).run prog w=.ok c0 w:=by kernel_rfl
theorem ix1(c0 c1 c2 c3 c4 c5:Value)(w:World):(Instr.index 39 (.agg #[c0,c1,c2,c3,c4,c5]) (.int .i64 1)).run prog w=.ok c1 w:=by kernel_rfl
theorem ix2(c0 c1 c2 c3 c4 c5:Value)(w:World):(Instr.index 39 (.agg #[c0,c1,c2,c3,c4,c5]) (.int .i64 2)).run prog w=.ok c2 w:=by kernel_rfl
theorem ix3(c0 c1 c2 c3 c4 c5:Value)(w:World):(Instr.index 39 (.agg #[c0,c1,c2,c3,c4,c5]) (.int .i64 3)).run prog w=.ok c3 w:=by kernel_rfl
theorem ix4(c0 c1 c2 c3 c4 c5:Value)(w:World):(Instr.index 39 (.agg #[c0,c1,c2,c3,c4,c5]) (.int .i64 4)).run prog w=.ok c4 w:=by kernel_rfl
theorem ix5(c0 c1 c2 c3 c4 c5:Value)(w:World):(Instr.index 39 (.agg #[c0,c1,c2,c3,c4,c5]) (.int .i64 5)).run prog w=.ok c5 w:=by kernel_rfl
theorem j9L(P:Nat->Int){k:Nat}(hk:k<6)(w:World):(Instr.index 39 (.agg #[.int .i64 (P 0),.int .i64 (P 1),.int .i64 (P 2),.int .i64 (P 3),.int .i64 (P 4),.int .i64 (P 5)]) (.int .i64 (k:Int))).run prog w=.ok (.int .i64 (P k)) w:=by
 rcases (show k=0∨k=1∨k=2∨k=3∨k=4∨k=5 by omega) with rfl | rfl | rfl | rfl | rfl | rfl
 ·exact ix0 _ _ _ _ _ _ w
 ·exact ix1 _ _ _ _ _ _ w
 ·exact ix2 _ _ _ _ _ _ w
 ·exact ix3 _ _ _ _ _ _ w
 ·exact ix4 _ _ _ _ _ _ w
 ·exact ix5 _ _ _ _ _ _ w
theorem j2l(a b:List Pw)(ao bo:Option Addr)(ca cb ab aof bb bof:Nat)(w:World)(ha:PIn w a ao ab aof)(hb:PIn w b bo bb bof) :
  Calls prog 121 #[.slice ao a.length ca,.slice bo b.length cb] w fun e w'=>∃ v,e=.returned v/\z6h w' w.heap.size v (z3x a b)/\Below w.heap.size w w':=by
 obtain⟨i0,hi,hz0,hz1,hz2⟩:=info_parts q7j;have HA:=hide ha;have HB:=hide hb;have HF1:=hide (q1C a ao ca ab aof w ha);have HF2:=hide (fun w h=>q1C b bo cb bb bof w h);unfold z3x;generalize z1s a=P at *;generalize z1s b=R at *;clear ha hb
 go_enter func121,ntmps121
 go_upto_region 3 with (first
  | (go_at_call 161;have _m:=m1;refine (HF2.out _ (HB.out.over HB1.out)).mono ?_;rintro e w2⟨rfl,hb2⟩;have HB2:=hide (zbt HB1.out hb2);clear hb2)
  | (go_at_call 161;refine HF1.out.mono ?_;rintro e w1⟨rfl,hb1⟩;have HB1:=hide hb1;have m1:True:=trivial;clear hb1))
 have Q6:=(QAt.new w2 P).alloc (.cells #[.int .i64 (R 0),.int .i64 (R 1),.int .i64 (R 2),.int .i64 (R 3),.int .i64 (R 4),.int .i64 (R 5)] 39);have Q7:=QAt.new (w2.alloc (.cells #[.int .i64 (P 0),.int .i64 (P 1),.int .i64 (P 2),.int .i64 (P 3),.int .i64 (P 4),.int .i64 (P 5)] 39)) R;rw[show (w2.alloc (.cells #[.int .i64 (P 0),.int .i64 (P 1),.int .i64 (P 2),.int .i64 (P 3),.int .i64 (P 4),.int .i64 (P 5)] 39)).heap.size=w2.heap.size+1 by simp]at Q7
 have BW:=(HB2.out.alloc HB2.out.size (.cells #[.int .i64 (P 0),.int .i64 (P 1),.int .i64 (P 2),.int .i64 (P 3),.int .i64 (P 4),.int .i64 (P 5)] 39)).alloc (Nat.le_trans HB2.out.size (by simp)) (.cells #[.int .i64 (R 0),.int .i64 (R 1),.int .i64 (R 2),.int .i64 (R 3),.int .i64 (R 4),.int .i64 (R 5)] 39)
 have hwb:w.heap.size<=w2.heap.size:=HB2.out.size;clear HF1 HF2 HA HB HB1 HB2;generalize w2.heap.size=b6 at *;generalize (w2.alloc (.cells #[.int .i64 (P 0),.int .i64 (P 1),.int .i64 (P 2),.int .i64 (P 3),.int .i64 (P 4),.int .i64 (P 5)] 39)).alloc (.cells #[.int .i64 (R 0),.int .i64 (R 1),.int .i64 (R 2),.int .i64 (R 3),.int .i64 (R 4),.int .i64 (R 5)] 39)=w3 at *;obtain⟨⟨c0,c1,c2,c3,c4,c5⟩,-⟩:=Q7.facts;have z6:b6<w3.heap.size:=Q6.lt;have HX:=hide (And.intro Q6 BW);clear Q6 Q7 BW
 go_upto_region 4 with fail
 clear c0 c1 c2 c3 c4 c5
 go_loopw [5,15] (fun v i wl=>∃ k:Nat,k<=6/\i=.int .i64 (k:Int)/\z6h wl w3.heap.size v (those (fun v=>decide (R v≠P v)) R k)/\Hid (Below w3.heap.size w3 wl)) (fun _ i _=>(6 - intOf i).toNat)
 case atStart=>exact⟨0,by omega,rfl,z6h.nil _ _,Below.refl _ _⟩
 case round =>
  obtain⟨k,hk,rfl,hown,HB⟩:=hrel;have hsz:w3.heap.size<=wr.heap.size:=HB.out.size
  by_cases hk6:k<6
  ·have hkk:(k:Int)<6:=by omega
   have hix:=fun w=>j9L R hk6 w;have cP:=(HX.out.1.later HB.out z6).one hk6;have HC:=hide (z1W (fun v=>decide (R v≠P v)) R k);have hlen:=z3Z (fun v=>decide (R v≠P v)) R k;generalize R k=rk at *;generalize P k=pk at *
   by_cases hne:rk=pk
   ·subst hne;go_wp2;exact⟨⟨k+1,by omega,by go_num,by rw[HC.out,if_neg (by simp)];exact hown,HB.out⟩,by simp[intOf];omega⟩
   ·have hne':(rk != pk)=true:=by simpa using hne
    go_wp2_with (at_builtin;refine wpList_append_own_at _ rfl _ _ 44 rfl w3.heap.size 68 i0 (.agg #[.int .i64 0,.int .i64 0]) 2 16 underlying44 hi hz0 hz1 hz2 rfl (by decide) _ _ _ rfl (World.ownsRow.alloc hown _) ⟨wr.heap.size,0,none⟩ 1 1 [.int .i64 (k:Int),.int .i64 rk] rfl rfl (q2B _ _ _ _) (by intro u hu;simp at hu;rcases hu with rfl | rfl <;> rfl) (by unfold maxLen;omega) (by omega) (by simp;omega) ?_;intro v' w1 hown' hgrow _ hat)
    have hb:Below w3.heap.size w3 w1:=z6h.grow hown HB.out hgrow (Nat.le_refl _) hsz;refine⟨⟨k+1,by omega,by go_num,?_,hb⟩,by simp[intOf];omega⟩
    rw[HC.out,if_pos (by simpa using hne)]
    exact z6h.append hown' rfl
  ·obtain rfl:k=6:=by omega
   go_wp2;go_ret;exact⟨_,rfl,q3A hown (by have:=HX.out.2.size;omega),zbt HX.out.2 HB.out⟩
theorem q7Q(a d:List Pw)(ao bo:Option Addr)(ca cb ab aof bb bof:Nat)(w:World)(ha:PIn w a ao ab aof)(hd:PIn w d bo bb bof) :
  Calls prog 15 #[.slice ao a.length ca,.slice bo d.length cb] w fun e w'=>∃ v,e=.returned v/\z6h w' w.heap.size v (z1L a d)/\Below w.heap.size w w':=by
 obtain⟨i0,hi,hz0,hz1,hz2⟩:=info_parts q7j;have hla:=ha.len;have hld:=hd.len;have HA:=hide ha;have HD:=hide hd;have Q0:=QAt.new w z2t;dsimp only [z2t]at Q0;have B0:Below w.heap.size w (w.alloc (.cells #[.int .i64 0,.int .i64 0,.int .i64 0,.int .i64 0,.int .i64 0,.int .i64 0] 39)):=znw w _;have hb5:w.heap.size<=w.heap.size:=Nat.le_refl _;clear ha hd
 go_enter func15,ntmps15
 go_upto_region 2 with fail
 have HX:Hid (QAt (w.alloc (.cells #[.int .i64 0,.int .i64 0,.int .i64 0,.int .i64 0,.int .i64 0,.int .i64 0] 39)) w.heap.size z2t/\_):=⟨Q0,B0⟩;clear Q0 B0;obtain⟨b5,eb5⟩:∃ b5,w.heap.size=b5:=⟨_,rfl⟩;have hb5:w.heap.size<=b5:=Nat.le_of_eq eb5;rw[show (Value.pointer (some ⟨w.heap.size,0,none⟩))=.pointer (some ⟨b5,0,none⟩) by rw[eb5]]
 generalize w.alloc (.cells #[.int .i64 0,.int .i64 0,.int .i64 0,.int .i64 0,.int .i64 0,.int .i64 0] 39)=w0 at *;have HX2:Hid (QAt w0 b5 z2t/\Below w.heap.size w w0):=by have:=HX.out;rw[eb5]at this;rw[eb5];exact this
 clear HX eb5
 go_upto_region 3 with fail
 go_loopw [15] (fun i wl=>∃ k:Nat,k<=a.length/\i=.int .i64 (k:Int)/\Hid (QAt wl b5 (z1G (z2t) (a.take k))/\Below w.heap.size w wl)) (fun i _=>a.length - (intOf i).toNat)
 case atStart=>exact⟨0,Nat.zero_le _,rfl,HX2.out.1,HX2.out.2⟩
 case round =>
  obtain⟨k,hk,rfl,HR⟩:=hrel
  by_cases hlt:k<a.length
  ·have hkI:(k:Int)<(a.length:Int):=by omega
   obtain⟨c0,c1⟩:=(HA.out.later HR.out.2 HA.out.ltB).cells k hlt;have HS:=hide (z9H (z2t) a k hlt);have eao:=HA.out.adr (by omega)
   subst eao;generalize a.getD k (0,0)=x at *;obtain⟨v,n⟩:=x;dsimp only at c0 c1;have Q1:=HR.out.1.alloc (.cells #[.int .i64 v,.int .i64 n] 68);have HQ1:=hide (And.intro Q1 (HR.out.2.alloc HR.out.2.size (.cells #[.int .i64 v,.int .i64 n] 68)));clear Q1
   go_wp2_with (go_at_call 32;refine (z8e b5 v n _ _ HQ1.out.1).mono ?_;rintro e w1⟨rfl,hq,hg⟩;have HQ:=hide hq;have HG:=hide hg;clear hq hg)
   refine⟨⟨k+1,by omega,by go_num,by rw[HS.out];exact HQ.out,HQ1.out.2.trans (z5v HG.out hb5 HQ1.out.2.size)⟩,by simp[intOf];omega⟩
  ·obtain rfl:k=a.length:=by omega
   have hT:a.take a.length=a:=List.take_length;rw[hT]at HR;have HR2:=hide HR.out;clear HR hT HX2 HA
   go_upto_region 8 with fail
   go_loopw [24] (fun i wl=>∃ k:Nat,k<=d.length/\i=.int .i64 (k:Int)/\Hid (QAt wl b5 (z1G (z1G z2t a) (d.take k))/\Below w.heap.size w wl)) (fun i _=>d.length - (intOf i).toNat)
   case atStart=>exact⟨0,Nat.zero_le _,rfl,HR2.out.1,HR2.out.2⟩
   case round =>
    obtain⟨k,hk,rfl,HR⟩:=hrel
    by_cases hlt:k<d.length
    ·have hkI:(k:Int)<(d.length:Int):=by omega
     obtain⟨c0,c1⟩:=(HD.out.later HR.out.2 HD.out.ltB).cells k hlt;have HS:=hide (z9H (z1G z2t a) d k hlt);have eao:=HD.out.adr (by omega)
     subst eao;generalize d.getD k (0,0)=x at *;obtain⟨v,n⟩:=x;dsimp only at c0 c1;have Q1:=HR.out.1.alloc (.cells #[.int .i64 v,.int .i64 n] 68);have HQ1:=hide (And.intro Q1 (HR.out.2.alloc HR.out.2.size (.cells #[.int .i64 v,.int .i64 n] 68)));clear Q1
     go_wp2_with (go_at_call 32;refine (z8e b5 v n _ _ HQ1.out.1).mono ?_;rintro e w1⟨rfl,hq,hg⟩;have HQ:=hide hq;have HG:=hide hg;clear hq hg)
     refine⟨⟨k+1,by omega,by go_num,by rw[HS.out];exact HQ.out,HQ1.out.2.trans (z5v HG.out hb5 HQ1.out.2.size)⟩,by simp[intOf];omega⟩
    ·obtain rfl:k=d.length:=by omega
     have hT:d.take d.length=d:=List.take_length;rw[hT]at HR;have HR3:=hide HR.out;clear HR hT HR2 HD;have e1:z1L a d=those (fun v=>decide (0<z1G (z1G z2t a) d v)) (z1G (z1G z2t a) d) 6:=rfl;obtain⟨P,hP⟩:∃ P,z1G (z1G z2t a) d=P:=⟨_,rfl⟩;rw[hP]at e1 HR3;have HE:=hide e1;clear e1 hP;obtain⟨⟨c0,c1,c2,c3,c4,c5⟩,-⟩:=HR3.out.1.facts;obtain⟨wz,rfl⟩:∃ wz,wz=wr:=⟨_,rfl⟩
     go_upto_region 14 with fail
     go_loopw [10,32] (fun v i wl=>∃ k:Nat,k<=6/\i=.int .i64 (k:Int)/\z6h wl wz.heap.size v (those (fun v=>decide (0<P v)) P k)/\Hid (Below wz.heap.size wz wl)) (fun _ i _=>(6 - intOf i).toNat)
     case atStart=>exact⟨0,by omega,rfl,z6h.nil _ _,Below.refl _ _⟩
     case round =>
      obtain⟨k,hk,rfl,hown,HB⟩:=hrel;have hsz:wz.heap.size<=wr.heap.size:=HB.out.size
      by_cases hk6:k<6
      ·have hkk:(k:Int)<6:=by omega
       have hix:=fun w=>j9L P hk6 w;have HC:=hide (z1W (fun v=>decide (0<P v)) P k);have hlen:=z3Z (fun v=>decide (0<P v)) P k;generalize P k=pk at *
       by_cases hne:0<pk
       ·go_wp2_with (at_builtin;refine wpList_append_own_at _ rfl _ _ 44 rfl wz.heap.size 68 i0 (.agg #[.int .i64 0,.int .i64 0]) 2 16 underlying44 hi hz0 hz1 hz2 rfl (by decide) _ _ _ rfl (World.ownsRow.alloc hown _) ⟨wr.heap.size,0,none⟩ 1 1 [.int .i64 (k:Int),.int .i64 pk] rfl rfl (q2B _ _ _ _) (by intro u hu;simp at hu;rcases hu with rfl | rfl <;> rfl) (by unfold maxLen;omega) (by omega) (by simp;omega) ?_;intro v' w1 hown' hgrow _ hat)
        have hb:Below wz.heap.size wz w1:=z6h.grow hown HB.out hgrow (Nat.le_refl _) hsz;refine⟨⟨k+1,by omega,by go_num,?_,hb⟩,by simp[intOf];omega⟩
        rw[HC.out,if_pos (by simpa using hne)]
        exact z6h.append hown' rfl
       ·go_wp2;exact⟨⟨k+1,by omega,by go_num,by rw[HC.out,if_neg (by simpa using hne)];exact hown,HB.out⟩,by simp[intOf];omega⟩
      ·obtain rfl:k=6:=by omega
       go_wp2;go_ret;exact⟨_,rfl,by rw[HE.out];exact q3A hown HR3.out.2.size,zbt HR3.out.2 HB.out⟩
theorem j6J(l:List Pw)(ao:Option Addr)(c b off:Nat)(w:World)(hl:PIn w l ao b off) :
  Calls prog 21 #[.slice ao l.length c] w fun e w'=>e=.returned (.int .i64 (z8x l))/\Below w.heap.size w w':=by
 have hlen:=hl.len;have HL:=hide hl;clear hl
 go_enter func21,ntmps21
 go_upto_region 3 with fail
 go_loopw [3,8] (fun s i wl=>∃ k:Nat,k<=l.length/\i=.int .i64 (k:Int)/\s=.int .i64 (z8x (l.take k))/\Hid (Below w.heap.size w wl)) (fun _ i _=>l.length - (intOf i).toNat)
 case atStart=>exact⟨0,Nat.zero_le _,rfl,rfl,Below.refl _ _⟩
 case round =>
  obtain⟨k,hk,rfl,rfl,HR⟩:=hrel
  by_cases hlt:k<l.length
  ·have hkI:(k:Int)<(l.length:Int):=by omega
   obtain⟨c0,c1⟩:=(HL.out.over HR.out).cells k hlt;have HS:=hide (j3i l k hlt);have eao:=HL.out.adr (by omega)
   subst eao;generalize l.getD k (0,0)=x at *;obtain⟨v,n⟩:=x;dsimp only at c0 c1 HS;generalize z8x (l.take k)=s0 at *;obtain⟨s1,hs1⟩:∃ s1,z8x (l.take (k+1))=s1:=⟨_,rfl⟩;rw[hs1]at HS;have HS1:=hide hs1;have hw:wrap64 (s0+n)=s1:=by rw[HS.out];unfold wrap64;rfl
   clear HS hs1;go_wp2;exact⟨⟨k+1,by omega,by go_num,by rw[HS1.out,hw],HR.out.alloc HR.out.size _⟩,by simp[intOf];omega⟩
  ·obtain rfl:k=l.length:=by omega
   have HT:Hid (l.take l.length=l):=List.take_length;go_wp2;go_ret;exact⟨by rw[HT.out];rfl,HR.out⟩
end Df
namespace Kc
open Go.RowKit Pv
theorem z7K(n:Int)(w:World):Calls prog 125 #[.int .i64 n] w fun e w'=>e=.returned (.bool (isT n))/\w=w':=by
 have hT:isT n=(decide (0<=n) && decide (n<=1099511627776)):=rfl;generalize isT n=t at *;have HT:=hide hT;clear hT
 by_cases h:0<=n
 ·by_cases h2:n<=1099511627776
  ·have e:t=true:=by rw[HT.out];simp[h,h2]
   subst e
   go_enter func125,ntmps125
   go_wp2;go_ret;exact⟨rfl,rfl⟩
  ·have e:t=false:=by rw[HT.out];simp[h2]
   subst e
   go_enter func125,ntmps125
   go_wp2;go_ret;exact⟨rfl,rfl⟩
 ·have e:t=false:=by rw[HT.out];simp[h]
  subst e
  go_enter func125,ntmps125
  go_wp2;go_ret;exact⟨rfl,rfl⟩
theorem z9T(v:Int)(w:World):Calls prog 138 #[.int .i64 v] w fun e w'=>e=.returned (.bool (isV v))/\w=w':=by
 have hT:isV v=decide (0<=v/\v<6):=rfl;generalize isV v=t at *;have HT:=hide hT;clear hT
 by_cases h:0<=v
 ·by_cases h2:v<6
  ·have e:t=true:=by rw[HT.out];simp[h,h2]
   subst e
   go_enter func138,ntmps138
   go_wp2;go_ret;exact⟨rfl,rfl⟩
  ·have e:t=false:=by rw[HT.out];simp[h2]
   subst e
   go_enter func138,ntmps138
   go_wp2;go_ret;exact⟨rfl,rfl⟩
 ·have e:t=false:=by rw[HT.out];simp[h]
  subst e
  go_enter func138,ntmps138
  go_wp2;go_ret;exact⟨rfl,rfl⟩
theorem j1d(l:List (Int×Int))(v:Value)(P:Nat->Prop)(w:World)(h:Rep P w v 2 16 (pwC l)):Calls prog 190 #[v] w fun e w'=>e=.returned (.bool (z2N (-1) l))/\Below w.heap.size w w':=by
 obtain⟨A,C,rfl,hs,-,hc,-⟩:=h.open (z0c _) (by decide)
 have HC:=hide hc;have hlen:l.length<=8796093022202:=by omega
 obtain⟨G,hG⟩:∃ G,z2N (-1) l=G:=⟨_,rfl⟩;have HG:=hide hG;rw[hG];clear hc h hs hG
 go_enter func190,ntmps190
 go_upto_region 3 with fail
 go_loopw [3,8] (fun s3 i wl=>∃ (k:Nat) (last:Int),k<=l.length/\i=.int .i64 (k:Int)/\s3=.int .i64 last/\-1<=last/\Hid (G=z2N last (l.drop k)/\Below w.heap.size w wl)) (fun _ i _=>l.length - (intOf i).toNat)
 case atStart=>exact⟨0,-1,Nat.zero_le _,rfl,rfl,by omega,HG.out.symm,Below.refl _ _⟩
 case round =>
  obtain⟨k,last,hk,rfl,rfl,hla,HR⟩:=hrel
  by_cases hlt:k<l.length
  ·have hkI:(k:Int)<(l.length:Int):=by omega
   obtain⟨x,hx,hd⟩:=z3H hlt;obtain⟨b,off,rfl,-,hbl,hcell⟩:=HC.out (by omega)
   have gx:l.getD k (0,0)=x:=by simp[List.getD,hx]
   obtain⟨p0,p1⟩:=z2h l k hlt;rw[gx]at p0 p1;have c0:wr.cell? ⟨b,off+k * 2,none⟩=some (.int .i64 x.1):=(HR.out.2.cell (p:=⟨b,off+k * 2,none⟩) hbl).trans (hcell _ _ p0);have c1:wr.cell? ⟨b,off+k * 2+1,none⟩=some (.int .i64 x.2):=(HR.out.2.cell (p:=⟨b,off+k * 2+1,none⟩) hbl).trans (hcell _ _ p1);have HE:Hid (G=(z8E last x && z2N x.1 (l.drop (k+1)))):=by have:=HR.out.1;rw[hd]at this;exact this
   have HB:=hide (HR.out.2.alloc HR.out.2.size (.cells #[.int .i64 x.1,.int .i64 x.2] 68));have HO:Hid (∀ last,z8E last x=(decide (last<x.1) && decide (x.1<=5) && decide (1<=x.2) && decide (x.2<=1125899906842624))):=fun _=>rfl;have hvI:Hid (isV x.1=decide (0<=x.1/\x.1<6)):=rfl;clear HR hd hx gx p0 p1 hcell;obtain⟨x1,x2⟩:=x;dsimp only at c0 c1 hvI
   by_cases h1:last<x1/\x1<=5/\1<=x2/\x2<=1125899906842624
   ·obtain⟨h1,h2,h3,h4⟩:=h1;have e:G=z2N x1 (l.drop (k+1)):=by rw[HE.out,HO.out];simp[h1,h2,h3,h4]
    have HE2:=hide e;have hv:isV x1=true:=by rw[hvI.out];simp;omega
    clear e HE
    go_wp2_with (go_at_call 138;refine (z9T _ _).mono ?_;rintro e w'⟨rfl,rfl⟩)
    first | exact⟨⟨k+1,x1,by omega,by go_num,rfl,by omega,HE2.out,HB.out⟩,by simp[intOf];omega⟩ | ((repeat apply Exists.intro);exact⟨⟨k+1,x1,by omega,by go_num,rfl,by omega,HE2.out,HB.out⟩,rfl⟩)
   ·have e:G=false:=by
     rw[HE.out,HO.out];simp only[Bool.and_eq_false_iff,decide_eq_false_iff_not]
     by_cases q1:last<x1
     ·by_cases q2:x1<=5
      ·by_cases q3:1<=x2
       ·exact .inl (.inr fun q4=>h1 ⟨q1,q2,q3,q4⟩)
       ·exact .inl (.inl (.inr q3))
      ·exact .inl (.inl (.inl (.inr q2)))
     ·exact .inl (.inl (.inl (.inl q1)))
    subst e;clear HE HG
    have hcs:¬ last<x1∨(last<x1/\isV x1=false)∨(last<x1/\isV x1=true/\¬ 1<=x2)∨(last<x1/\isV x1=true/\1<=x2/\¬ x2<=1125899906842624):=by
     by_cases q1:last<x1
     ·by_cases q2:x1<=5
      ·have hv:isV x1=true:=by rw[hvI.out];simp;omega
       by_cases q3:1<=x2
       ·exact .inr (.inr (.inr ⟨q1,hv,q3,fun q4=>h1 ⟨q1,q2,q3,q4⟩⟩))
       ·exact .inr (.inr (.inl ⟨q1,hv,q3⟩))
      ·have hv:isV x1=false:=by rw[hvI.out];simp;omega
       exact .inr (.inl ⟨q1,hv⟩)
     ·exact .inl q1
    clear h1
    rcases hcs with h1 | ⟨h1,h2⟩ | ⟨h1,h2,h3⟩ | ⟨h1,h2,h3,h4⟩
    all_goals
     go_wp2_with (go_at_call 138;refine (z9T _ _).mono ?_;rintro e w'⟨rfl,rfl⟩)
     go_ret;exact⟨rfl,HB.out⟩
  ·obtain rfl:k=l.length:=by omega
   have e:G=true:=by have:=HR.out.1;rw[List.drop_length]at this;exact this
   subst e;go_wp2;go_ret;exact⟨rfl,HR.out.2⟩
theorem q5s(l:List (Int×Int))(v:Value)(P:Nat->Prop)(w:World)(h:Rep P w v 2 8 (pwC l)):Calls prog 192 #[v] w fun e w'=>e=.returned (.bool (l.all z7U))/\Below w.heap.size w w':=by
 obtain⟨A,C,rfl,hs,-,hc,-⟩:=h.open (z0c _) (by decide)
 have HC:=hide hc;have hlen:l.length<=17592186044404:=by omega
 obtain⟨G,hG⟩:∃ G,l.all z7U=G:=⟨_,rfl⟩;have HG:=hide hG;rw[hG];clear hc h hs hG
 go_enter func192,ntmps192
 go_upto_region 2 with fail
 go_loopw [7] (fun i wl=>∃ (k:Nat),k<=l.length/\i=.int .i64 (k:Int)/\Hid (G=(l.drop k).all z7U/\Below w.heap.size w wl)) (fun i _=>l.length - (intOf i).toNat)
 case atStart=>exact⟨0,Nat.zero_le _,rfl,HG.out.symm,Below.refl _ _⟩
 case round =>
  obtain⟨k,hk,rfl,HR⟩:=hrel
  by_cases hlt:k<l.length
  ·have hkI:(k:Int)<(l.length:Int):=by omega
   obtain⟨x,hx,hd⟩:=z3H hlt;obtain⟨b,off,rfl,-,hbl,hcell⟩:=HC.out (by omega)
   have gx:l.getD k (0,0)=x:=by simp[List.getD,hx]
   obtain⟨p0,p1⟩:=z2h l k hlt;rw[gx]at p0 p1;have c0:wr.cell? ⟨b,off+k * 2,none⟩=some (.int .i64 x.1):=(HR.out.2.cell (p:=⟨b,off+k * 2,none⟩) hbl).trans (hcell _ _ p0);have c1:wr.cell? ⟨b,off+k * 2+1,none⟩=some (.int .i64 x.2):=(HR.out.2.cell (p:=⟨b,off+k * 2+1,none⟩) hbl).trans (hcell _ _ p1);have HE:Hid (G=(z7U x && (l.drop (k+1)).all z7U)):=by have:=HR.out.1;rw[hd,List.all_cons]at this;exact this
   have HB:=hide (HR.out.2.alloc HR.out.2.size (.cells #[.int .i64 x.1,.int .i64 x.2] 88));have HO:Hid (z7U x=(decide (1<=x.1) && decide (x.1<=1099511627776) && decide (0<=x.2))):=rfl;clear HR hd hx gx p0 p1 hcell;obtain⟨x1,x2⟩:=x;dsimp only at c0 c1
   by_cases h1:1<=x1/\x1<=1099511627776/\0<=x2
   ·obtain⟨h1,h2,h3⟩:=h1;have e:G=(l.drop (k+1)).all z7U:=by rw[HE.out,HO.out];simp[h1,h2,h3]
    have HE2:=hide e;clear e HE;go_wp2
    first | exact⟨⟨k+1,by omega,by go_num,HE2.out,HB.out⟩,by simp[intOf];omega⟩ | ((repeat apply Exists.intro);exact⟨⟨k+1,by omega,by go_num,HE2.out,HB.out⟩,rfl⟩)
   ·have e:G=false:=by
     rw[HE.out,HO.out]
     have:(decide (1<=x1) && decide (x1<=1099511627776) && decide (0<=x2))=false:=by
      rw[Bool.eq_false_iff];intro h;simp only[Bool.and_eq_true,decide_eq_true_eq]at h;exact h1 ⟨h.1.1,h.1.2,h.2⟩
     dsimp only;rw[this,Bool.false_and]
    subst e;clear HE HG;have hcs:¬ 1<=x1∨(1<=x1/\¬ x1<=1099511627776)∨(1<=x1/\x1<=1099511627776/\¬ 0<=x2):=by omega
    clear h1
    rcases hcs with h1 | ⟨h1,h2⟩ | ⟨h1,h2,h3⟩
    all_goals
     go_wp2;go_ret;exact⟨rfl,HB.out⟩
  ·obtain rfl:k=l.length:=by omega
   have e:G=true:=by have:=HR.out.1;rw[List.drop_length]at this;exact this
   subst e;go_wp2;go_ret;exact⟨rfl,HR.out.2⟩
end Kc
end Go.Proofs.YtmopekkhmhhcaaaGreat
