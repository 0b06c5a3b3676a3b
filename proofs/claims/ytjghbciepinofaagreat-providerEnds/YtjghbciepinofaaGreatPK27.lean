/- Parts of the proof. -/
import Derived.Test.YtjghbciepinofaaGreatPL
import Derived.Test.YtjghbciepinofaaGreatPK10
import Derived.Test.YtjghbciepinofaaGreatPK29
set_option maxRecDepth 100000
set_option maxHeartbeats 16000000
namespace Go.Proofs.YtjghbciepinofaaGreat
open Go.Proofs.Tryz
open Value renaming int->J,slice->J1,pointer->J2,bool->J3,agg->J4
open IntKind renaming i64->I
open Obj renaming cells->J5
namespace Pv
open Go.RowKit
def z3l(w:World)(g:Nat)(P:Nat->Prop)(r:Pr×Bool)(e:Ending)(w':World):Prop:=∃ a,e=.returned (J3 r.2)/\CAt 47 w' g (prC r.1 a)/\PIn (New P w 0) w' r.1 a/\Alt g w w'
attribute [local go_sem ↓] z0O z1c z0J z0L
theorem z7U(g:Nat)(p:Pr)(v:PrV)(P:Nat->Prop)(w:World)(c:Nat)(hc:c<2)(x:Pkt)(y1 y2:Value)(Y:CAt 47 w g (prC p v))(hp:PIn P w p v)(hg:¬ P g)(Z:z0j p.s=true)(C:x.k=4)(hv:x.k=3∨x.k=4->0<=x.v/\x.v<6) :
  Calls prog 67 #[J2 (some ⟨g,0,none⟩),J4 #[J I (c:Int),J I x.k,J I x.i,J I x.v,J I x.n,y1,y2]] w (z3l w g P (z0y p c x)):=by
 have hD:z0y p c x=if x.k=2 then ({ p with s:={ p.s with W:=z5g c x.i p.s.W } },true)
  else if x.k=4 then
   if (p.s.V x.v.toNat).dead=true then (p,true) else ({ p with s:=q0k p.s x.v.toNat (q4J x.i (p.L c).base) },true)
  else if (p.s.V x.v.toNat).jail=true then ({ p with L:=z3d p.L c { p.L c with done:=z1F (p.L c).done x.v } },true)
  else if p.ml<1 then (p,false)
  else ({ p with ml:=wrap64 (p.ml - q4K (p.s.V x.v.toNat)),s:=z2V p.s x.v.toNat true (p.s.V x.v.toNat).dead,L:=z3d p.L c { p.L c with done:=z1F (p.L c).done x.v } },true):=by unfold z0y;rfl
 generalize z0y p c x=D at *;have f:=J6 hD;have a0:=J6 C;clear C;have R:=J6 hp;have a1:=Y.lt;have b6:(c:Int)<2:=by omega
 have b7:(0:Int)<=(c:Int):=by omega
 clear hD
 go_enter func67,ntmps67
 go_upto_region 1 with fail
 have S:=CAt.new 79 w #[J I (c:Int),J I x.k,J I x.i,J I x.v,J I x.n,y1,y2];have b0:Bl w (w.alloc (J5 #[J I (c:Int),J I x.k,J I x.i,J I x.v,J I x.n,y1,y2] 79)):=znw w _;generalize w.alloc (J5 #[J I (c:Int),J I x.k,J I x.i,J I x.v,J I x.n,y1,y2] 79)=w0 at *;have k0:w0.cell? ⟨w.heap.size,0,none⟩=some (J I (c:Int)):=S.cell 0;have b9:=S.lt;have T:=J6 (show _/\_/\_ from⟨Y.over b0,S,b0⟩);clear Y hp S b0;go_quiet (fail);simp only[Exit.then];apply_assumption;have C1:=T.out.1.over (below_drewN (Below.refl w0.heap.size w0) nq);have y:=T.out.2.1.over (below_drewN (Below.refl w0.heap.size w0) nq);have b1:=below_drewN T.out.2.2 nq;clear k0 T;generalize w0.drewN nq=w1 at *;have a2:w1.cell? ⟨w.heap.size,0,none⟩=some (J I (c:Int)):=y.cell 0;have k1:w1.cell? ⟨w.heap.size,1,none⟩=some (J I x.k):=y.cell 1;have k2:w1.cell? ⟨w.heap.size,2,none⟩=some (J I x.i):=y.cell 2;have k3:w1.cell? ⟨w.heap.size,3,none⟩=some (J I x.v):=y.cell 3;have a3:=y.lt;have a4:=C1.lt;have P1:=R.out.z2w b1 0;have m1:=z1f C1;have F:=J6 (show _/\_/\_/\_ from⟨C1,y,b1,P1⟩);clear C1 y b1 P1;have C:=a0.out;rw[C]at k1;replace f:=J6 ((f.out.trans (if_neg (by omega))).trans (if_pos C))
 obtain⟨a5,a6⟩:=hv (.inr C);obtain⟨n,U,G⟩:∃ n:Nat,x.v=(n:Int)/\n<6:=⟨x.v.toNat,by omega,by omega⟩
 rw[U,Int.toNat_natCast]at f;rw[U]at k3;have c4:(n:Int)<6:=by omega
 have c5:(0:Int)<=(n:Int):=by omega
 have d4:=(q0g F.out.1 G).2.2;have H:=J6 U;clear hv a5 a6 U
 go_upto_region 8 with fail
 go_quiet (fail);simp only[Exit.then];apply_assumption;have C2:=F.out.1.over (below_drewN (Below.refl w1.heap.size w1) nq);have E:=F.out.2.1.over (below_drewN (Below.refl w1.heap.size w1) nq);have b2:=below_drewN F.out.2.2.1 nq;clear a2 k1 k2 k3 d4 m1 a3 a4 F;generalize w1.drewN nq=w2 at *;cases z:(p.s.V n).dead
 ·replace f:=J6 (f.out.trans (if_neg (by simp[z])))
  have e2:w2.cell? ⟨w.heap.size,2,none⟩=some (J I x.i):=E.cell 2;have e3:w2.cell? ⟨w.heap.size,3,none⟩=some (J I (n:Int)):=by rw[<- H.out];exact E.cell 3
  have e6:w2.cell? ⟨g,66+c * 14+2,none⟩=some (J I (p.L c).base):=(C2.lk hc).facts.2.2.1;have m:=C2.lt;have a:=E.lt;have K:=J6 (fun (wx:World) (j:Bl w2 wx)=>z9f g p v P wx n (q4J x.i (p.L c).base) (C2.over j) ((R.out.ws.over b2).over j) Z G z);have A:Hid (q4J x.i (p.L c).base=if x.i<(p.L c).base then (p.L c).base else x.i):=rfl;have X:=J6 (show _/\_/\_ from⟨C2,E,b2⟩);clear C2 E b2;generalize hO:66+c * 14=o at *;have HO:=J6 hO;clear hO
  go_upto_region 9 with fail
  generalize M:(p.L c).base=bs at *;have a7:=J6 M;clear M;generalize q4J x.i bs=mx at *;generalize q0k p.s n mx=s2 at *
  have a8:(x.i<bs/\mx=bs)∨(¬ x.i<bs/\mx=x.i):=by
   by_cases h:x.i<bs
   ·exact .inl ⟨h,A.out.trans (if_pos h)⟩
   ·exact .inr ⟨h,A.out.trans (if_neg h)⟩
  clear A
  rcases a8 with⟨hlt,hmx⟩ | ⟨hlt,hmx⟩
  all_goals
   rw[hmx]at K;apply z2d (fun w'=>∃ u,CAt 47 w' g (prC { p with s:=s2 } { v with ws:=u })/\Rep (fun b=>w2.heap.size<=b) w' u 8 64 (wsL s2.W)/\Alt g w2 w')
   ·refine wp_region_noPanic ?_;have a9:Hid (∀ wx,Bl w2 wx->wx.cell? ⟨w.heap.size,2,none⟩=some (J I x.i)/\wx.cell? ⟨w.heap.size,3,none⟩=some (J I (n:Int))/\wx.cell? ⟨g,o+2,none⟩=some (J I bs)):=fun wx j=>⟨(j.cell (p:=⟨w.heap.size,2,none⟩) a).trans e2,(j.cell (p:=⟨w.heap.size,3,none⟩) a).trans e3,(j.cell (p:=⟨g,o+2,none⟩) m).trans e6⟩
    have b4:Hid (∀ (r:World) (N:Value),CAt 47 r g (prC { p with s:=s2 } { v with ws:=N })->Alt g w2.drew r->r.cell? ⟨w.heap.size,2,none⟩=some (J I x.i)/\r.cell? ⟨w.heap.size,3,none⟩=some (J I (n:Int))/\r.cell? ⟨g,o+2,none⟩=some (J I bs)):=fun r N t l=>by
     have K3:=l.cat (b:=w.heap.size) (by omega) (X.out.2.1.over (Below.refl w2.heap.size w2).drew)
     refine⟨K3.cell 2,by rw[<- H.out];exact K3.cell 3,?_⟩
     have h:=(t.lk hc).facts.2.2.1;rw[HO.out,a7.out]at h;exact h
    have j:=Below.refl w2.heap.size w2
    go_region_held3 (fun wx=>wx.cell? ⟨w.heap.size,2,none⟩=some (J I x.i)/\wx.cell? ⟨w.heap.size,3,none⟩=some (J I (n:Int))/\wx.cell? ⟨g,o+2,none⟩=some (J I bs)) (first | exact b5.out | (refine a9.out _ ?_;first | with_reducible exact j | with_reducible exact j.drew)) ((go_at_call 112;refine (K.out _ (by exact (Below.refl _ _).drew)).mono ?_;rintro e r⟨N,rfl,t,Q,l⟩;have b5:=J6 (b4.out r N t l);have B:=J6 (show _/\_/\_ from⟨t,Q,l⟩);clear t Q l;dsimp only))
    all_goals
     exact NoPanic.normal ⟨rfl,rfl,N,B.out.1,B.out.2.1,(Alt.of (Below.refl _ _).drew).trans B.out.2.2⟩
   rintro w'⟨u,t,Q,l⟩;have N3:=l.pin (z1t hg a1) (R.out.z2w X.out.2.2 0);have c6:=X.out.2.2.size;have d:=J6 (show _/\_/\_/\_ from⟨t,(Alt.of (g:=g) X.out.2.2).trans l,Q,N3⟩);clear t Q l N3 e2 e3 e6 m a
   first | simp only[Exit.inBlock,Exit.then] | simp only[Exit.then] | skip
   apply_assumption;go_wp2;go_ret;rw[f.out];exact⟨{ v with ws:=u },rfl,d.out.1,⟨d.out.2.2.1.mono fun b _ h=>.inr (by omega),d.out.2.2.2.set,d.out.2.2.2.lk,d.out.2.2.2.q⟩,d.out.2.1⟩
 ·replace f:=J6 (f.out.trans (if_pos z));have P2:=R.out.z2w b2 0;have d:=J6 (show _/\_/\_ from⟨C2,b2,P2⟩);clear C2 E b2 P2;go_wp2;go_ret;rw[f.out];exact⟨v,rfl,d.out.1,d.out.2.2,Alt.of d.out.2.1⟩
end Pv
namespace Pv
open Go.RowKit
theorem apI{P:Nat->Prop}(w:World)(A:Option Addr)(y:Nat)(l:List Int)(x:Int)(E:Rep P w (J1 A l.length l.length) 1 8 (inC l))(r:l.length<=60)(F:w.cell? ⟨y,0,none⟩=some (.int .i64 x)) :
  ∃ C w',(Builtin.append_ #[34,34] 34 #[J1 A l.length l.length,J1 (some ⟨y,0,none⟩) 1 1]).run prog w=.ok (J1 (some ⟨w.heap.size,0,none⟩) (l.length+1) C) w'/\l.length+1<=C/\z3Y w' w.heap.size (l ++ [x])/\Bl w w':=by
 obtain⟨u,B,g,d,k⟩:=info_parts Ln.q1J
 have c:∀ j v,([.int .i64 x]:List Value)[j]?=some v->w.cell? ((⟨y,0,none⟩:Addr).add j)=some v:=fun j v f=>by
  rw[Addr.add_lit,Nat.zero_add];have G:=(List.getElem?_eq_some_iff.1 f).1;obtain rfl:j=0:=by simpa using G
  simp at f
  rw[F,f]
 have new:∀ (arr tail:Array Value),arr.toList=inC (l ++ [x])->z3Y (w.drew.alloc (J5 (arr ++ tail) 3)) w.heap.size (l ++ [x]):=fun arr tail H=>by
  refine⟨arr ++ tail,heap_alloc_new w.drew _,fun i z K=>?_⟩;have m:(inC (l ++ [x]))[i]?=some (.int .i64 z):=by unfold inC;rw[List.getElem?_map,K];rfl
  have o:arr[i]?=some (Value.int .i64 z):=by rw[<- H]at m;simpa using m
  rw[Array.getElem?_append_left (Array.getElem?_eq_some_iff.1 o).1];exact o
 have p:inC (l ++ [x])=inC l ++ [.int .i64 x]:=by simp[inC]
 have s:(inC l).length=l.length:=by simp[inC]
 have t:∀ n:Nat,n<=60->Builtin.nextslicecap (n+1) n * 8<=281474976710656:=fun n N=>by
  rcases Nat.eq_zero_or_pos n with rfl | L
  ·rw[nextslicecap_zero (by omega)];omega
  ·have:=nextslicecap_succ L;omega
 obtain⟨A',Q,C',h1,h2,h3,R,D⟩:=E;cases h1;cases A with
 | none =>
  have h0:l.length=0:=by
   rcases Nat.eq_zero_or_pos l.length with h | h
   ·exact h
   ·obtain⟨b,off,e,_⟩:=D h;cases e
  obtain rfl:l=[]:=List.length_eq_zero_iff.1 h0;refine⟨_,_,run_append_nil (P:=prog) w 34 34 3 u _ underlying34 B g ⟨y,0,none⟩ 1 1 [.int .i64 x] (by rw[d];rfl) c (by omega) (by omega) (by rw[k];omega),grownCap_ge _ _ _ _,?_,(Below.refl _ w).drew.alloc (Nat.le_refl _) _⟩
  exact new _ _ (by simp[inC])
 | some a =>
  have q:∀ j v,(inC l)[j]?=some v->w.cell? (a.add j)=some v:=fun j v f=>by
   have h0:0<l.length:=by
    have:=(List.getElem?_eq_some_iff.1 f).1;omega
   obtain⟨b,off,e,_,_,M⟩:=D h0;cases e;rw[Addr.add_lit];exact M j v f
  refine⟨_,_,run_append_grow (P:=prog) w 34 34 3 u _ underlying34 B g a l.length l.length (inC l) (by rw[d,s];omega) q ⟨y,0,none⟩ 1 1 [.int .i64 x] (by rw[d];rfl) c (by omega) (by omega) (by rw[k];exact t _ r),grownCap_ge _ _ _ _,?_,(Below.refl _ w).drew.alloc (Nat.le_refl _) _⟩
  exact new _ _ (by simp[p])
theorem q0F{P:Nat->Prop}{ops:Array Oper}{rest:List Oper}{o:Oper}{a:Act}{w:World}{Q:Exit->Act->World->Prop}(c:o.guard=none)(d:o.type=34)(p q:Operand)
  (e:o.op=Op.call { callee:=Callee.builtin Builtin.append,args:=#[p,q],argTypes:=#[34,34] }) (A:Option Addr) (y:Nat) (l:List Int) (x:Int) (k:a.eval p=J1 A l.length l.length) (m:a.eval q=J1 (some ⟨y,0,none⟩) 1 1)
  (f:Rep P w (J1 A l.length l.length) 1 8 (inC l)) (i:l.length<=60) (n:w.cell? ⟨y,0,none⟩=some (J I x))
  (h:∀ g C w',g=w.heap.size->l.length+1<=C->z3Y w' g (l ++ [x])->Bl w w'->wpList prog ops Q rest (a.put o.dst (J1 (some ⟨g,0,none⟩) (l.length+1) C)) w'):wpList prog ops Q (o :: rest) a w:=by
 refine wpList_plain c fun K j=>?_;unfold Oper.wp;obtain⟨C,w',f,r,b,s⟩:=apI w A y l x f i n
 simp[execOp,e,resolve,invoke,builtin,k,m,d,f,Result.andThen]
 exact j _ _ (h _ _ _ rfl r b s)
theorem z6E(D:List Int)(u:Value)(P:Nat->Prop)(w:World)(v:Int)(hu:Rep P w u 1 8 (inC D))(k:z1v (-1) D=true)(h0:0<=v)(Q:v<6) :
  Calls prog 149 #[u,J I v] w fun e w'=>∃ y,e=.returned y/\Rep (New P w 0) w' y 1 8 (inC (z1F D v))/\Bl w w':=by
 have o:=J6 (z7g D u P w v hu);have z:=q5s k
 by_cases j:v∈D
 ·have l:=q7o k j;rw[l];have hd:decide (v∈D)=true:=by simpa using j
  rw[hd]at o;have q:=J6 hu;clear hu k l hd j
  go_enter func149,ntmps149
  go_wp2_with (go_at_call 161;refine o.out.mono ?_;rintro e w1⟨rfl,rfl⟩)
  go_ret;exact⟨_,rfl,q.out.mono fun b hl H=>.inl ⟨H,hl⟩,Below.refl _ _⟩
 ·have l:=q4m k h0 (by omega) j
  rw[<- l];have hd:decide (v∈D)=false:=by simpa using j
  rw[hd]at o;obtain⟨A,C,rfl,K,B,L,-⟩:=hu.open (z0M _) (by decide)
  have c:=hu.room rfl;have b1:Bl w (w.alloc (J5 #[J I v] 3)):=znw w _;have q:=J6 (hu.clip.over b1);have r:=q3p A D.length C c.1 (fun e=>(B e).1) (by omega) w
  have a:(D ++ [v]).length=D.length+1:=by simp
  have M:Hid (∀ (g C':Nat) (w':World),z3Y w' g (D ++ [v])->Calls prog 163 #[J1 (some ⟨g,0,none⟩) (D.length+1) C'] w' fun e s=>e=.returned (.tuple #[])/\z3Y s g (z3V (D ++ [v]))/\z2g g w' s):=fun g C' w' h=>by
   have:=q2L g C' (D ++ [v]) w' h (by omega)
   rw[a]at this;exact this
  have m:=J6 b1;have t:=J6 a;have hcell:=(CAt.new 3 w #[J I v]).cell 0;have x:=J6 hcell;clear hu k l hd j K B L c b1 a hcell
  go_enter func149,ntmps149
  go_wp2_with (first
   | (go_at_call 161;refine o.out.mono ?_;rintro e w1⟨rfl,rfl⟩)
   | (go_at_call 162;refine r.mono ?_;rintro e w1⟨rfl,rfl⟩)
   | (at_builtin;refine q0F rfl rfl _ _ rfl A w.heap.size D v rfl rfl q.out (by omega) x.out ?_;intro g C' w' E n d f;have N:=J6 E;have p:=J6 (show _/\_/\_ from⟨n,d,f⟩);clear E n d f)
   | (go_at_call 163;refine (M.out _ _ _ p.out.2.1).mono ?_;rintro e s⟨rfl,h1⟩;have F:=J6 h1;clear h1))
  go_ret;have R:g=w.heap.size+1:=by rw[N.out];simp
  have i:(z3V (D ++ [v])).length=D.length+1:=by rw[z8j];exact t.out
  have G:=z3Y.rep (C:=C') F.out.1 (by rw[i];exact p.out.1) (by rw[i];omega)
  rw[i]at G;refine⟨_,rfl,G.mono fun b _ e=>.inr (by omega),(zbt m.out p.out.2.2).trans (F.out.2.below (by omega) ?_)⟩
  have:=p.out.2.2.size;have:=m.out.size;omega
end Pv
section
open Go.RowKit
theorem q4S(s:St)(d v:Int):z1i s d v=if z0j s=true then if d<0∨3<d∨v<0∨5<v then 4 else 0 else 2:=by
 unfold z1i z4W isV isD;simp only[decide_eq_true_eq]
 by_cases h:z0j s=true
 ·rw[if_pos h,if_pos h]
  by_cases a:0<=v/\v<6
  ·rw[if_pos a,if_pos rfl]
   by_cases hd:0<=d/\d<4
   ·rw[if_pos hd,if_neg (by omega)]
   ·rw[if_neg hd,if_pos (by omega)]
  ·rw[if_neg a,if_neg (by omega),if_pos (by omega)]
 ·rw[if_neg h,if_neg h];rfl
theorem z4Z(s:St)(ao:Option Addr)(sb so c:Nat)(d v:Int)(w:World)(f:z1R w ao sb so s.W) :
  Calls prog 140 #[J4 (stC s (J1 ao s.W.length c)),J I d,J I v] w fun e w'=>e=.returned (J I (z1i s d v))/\Bl w w':=by
 have g:=SAt.new w (stC s (J1 ao s.W.length c));have a:Hid (Bl w (w.alloc (J5 (stC s (J1 ao s.W.length c)) 32))):=znw w _;have j:=fun w h=>z4O s ao sb so c w h;have k:=J6 f;have i:=J6 (q4S s d v);generalize z1i s d v=r at *;generalize z0j s=t1 at *;clear f
 go_enter func140,ntmps140
 go_upto_region 1 with fail
 generalize w.alloc (J5 (stC s (J1 ao s.W.length c)) 32)=w0 at *;apply wp_region_lit;refine wpList_load_mid rfl 32 _ rfl _ 0 rfl _ _ g.range underlying32 rfl (by rw[z0l];rfl) ?_
 clear g
 go_wp2_with (go_at_call 91;refine (j _ (by exact k.out.over a.out)).mono ?_;rintro e w1⟨rfl,h1⟩;have b:=J6 (zbt a.out h1);clear h1)
 all_goals (go_ret;refine⟨?_,b.out⟩;have h:=i.out;clear i;first | (simp_all;done) | (rw[h,if_pos (by simp_all),if_pos (by omega)];rfl) | (rw[h,if_pos (by simp_all),if_neg (by omega)];rfl))
end
end Go.Proofs.YtjghbciepinofaaGreat
