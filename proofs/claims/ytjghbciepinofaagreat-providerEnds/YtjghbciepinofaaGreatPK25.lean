/- Parts of the proof. -/
import Derived.Test.YtjghbciepinofaaGreatPL
import Derived.Test.YtjghbciepinofaaGreatPK9
import Derived.Test.YtjghbciepinofaaGreatPK14
set_option maxRecDepth 100000
set_option maxHeartbeats 16000000
namespace Go.Proofs.YtjghbciepinofaaGreat
open Go.Proofs.Tryz
open Value renaming int->J,slice->J1,pointer->J2,bool->J3,agg->J4
open IntKind renaming i64->I
open Obj renaming cells->J5
namespace Pv
open Go.RowKit
theorem z2T{s:St}(a:z0j s=true):s.W.length * 64<=140737488351232:=by
 have:=((z0S _).1 a).2.2.2.1;omega
def q8y(v:Value):Sem Value:=Instr.loadAt 47 v
theorem z1c(v:Value):Instr.loadAt 47 v=q8y v:=rfl
def q6v(a v:Value):Sem Unit:=Instr.storeAt 47 a v
theorem z0J(a v:Value):Instr.storeAt 47 a v=q6v a v:=rfl
def z6s(a v:Value):Sem Unit:=Instr.storeAt 32 a v
theorem z0L(a v:Value):Instr.storeAt 32 a v=z6s a v:=rfl
theorem z0t{w:World}{g:Nat}{cs:Array Value}(h:CAt 47 w g cs)(a:cs.size=97):(q8y (J2 (some ⟨g,0,none⟩))).run prog w=.ok (J4 cs) w:=by
 have:=run_loadAt_mid (P:=prog) w g 0 47 cs.toList _ h.range underlying47 rfl (by rw[z4g];simp[a])
 change (Instr.loadAt 47 _).run prog w=_
 simpa using this
theorem z0z{w:World}{g:Nat}{a cs:Array Value}(h:CAt 47 w g a)(c:a.size=97)(b:cs.size=97)(h1:cs.all (·.oneCell')=true):(q6v (J2 (some ⟨g,0,none⟩)) (J4 cs)).run prog w=.ok () (w.setCells g 0 cs.toList):=
 run_storeAt_mid (P:=prog) w g 0 47 cs (h.there 0 _ (by rw[c,b];omega)) (by rw[z4g,b]) h1
theorem z1x{w:World}{g:Nat}{cs ds:Array Value}(h:CAt 47 w g cs)(b:cs.size=97)(a:ds.size=63)(h1:ds.all (·.oneCell')=true):(z6s (J2 (some ⟨g,2,none⟩)) (J4 ds)).run prog w=.ok () (w.setCells g 2 ds.toList):=
 run_storeAt_mid (P:=prog) w g 2 32 ds (h.there 2 _ (by rw[b,a];omega)) (by rw[z0l,a]) h1
theorem z7I{w:World}{g:Nat}{cs ds:Array Value}(h:CAt 32 w g cs)(b:cs.size=63)(a:ds.size=63)(h1:ds.all (·.oneCell')=true):(z6s (J2 (some ⟨g,0,none⟩)) (J4 ds)).run prog w=.ok () (w.setCells g 0 ds.toList):=
 run_storeAt_mid (P:=prog) w g 0 32 ds (h.there 0 _ (by rw[b,a];omega)) (by rw[z0l,a]) h1
theorem z7p{w:World}{g:Nat}{cs:Array Value}(h:CAt 32 w g cs)(a:cs.size=63):(z7R (J2 (some ⟨g,0,none⟩))).run prog w=.ok (J4 cs) w:=SAt.z7R h a
theorem CAt.z0I{w:World}{g:Nat}{p:Pr}{v:PrV}(h:CAt 47 w g (prC p v))(s:St)(u:Value):CAt 47 (w.setCells g 2 (stC s u).toList) g (prC { p with s:=s } { v with ws:=u }):=by
 have:=CAt.sets (stC s u).toList 2 w _ h
 rwa [show spl (prC p v) 2 (stC s u).toList=prC { p with s:=s } { v with ws:=u } from q3F [J I p.h,J I p.t] (stC p.s v.ws).toList _ (stC s u).toList rfl]at this
theorem q0g{w:World}{g:Nat}{p:Pr}{v:PrV}(h:CAt 47 w g (prC p v)){y:Nat}(a:y<6):w.cell? ⟨g,9+y * 5,none⟩=some (J I (p.s.V y).tok)/\w.cell? ⟨g,9+y * 5+3,none⟩=some (J3 (p.s.V y).jail)/\w.cell? ⟨g,9+y * 5+4,none⟩=some (J3 (p.s.V y).dead):=by
 rcases (show y=0∨y=1∨y=2∨y=3∨y=4∨y=5 by omega) with rfl | rfl | rfl | rfl | rfl | rfl <;> exact⟨h.cell _,h.cell _,h.cell _⟩
theorem Alt.pin{g:Nat}{w w':World}(h:Alt g w w'){P:Nat->Prop}(c:¬ P g){p:Pr}{v:PrV}(d:PIn P w p v):PIn P w' p v:=d.keep fun b f a=>h.block b a (fun e=>c (e ▸ f))
def j0P(P:Nat->Prop)(w:World)(r:Pr×Int)(e:Ending)(w':World):Prop:=∃ a,e=.returned (.tuple #[J4 (prC r.1 a),J I r.2])/\PIn (New P w 2) w' r.1 a/\Bl w w'
theorem z4s{e:Func}{p q:Tmp}(h:e.results=#[.cell p 47,.tmp q])(a:Array Value)(w:World)(g:Nat)(cs:Array Value)(v:Value)
  (f:a.getD p undef=J2 (some ⟨g,0,none⟩)) (hq:a.getD q undef=v) (i:CAt 47 w g cs) (b:cs.size=97) :
  (results e a).run prog w=.ok (.tuple #[J4 cs,v]) w:=by
 have c:a[p]?.getD undef=J2 (some ⟨g,0,none⟩):=by simpa using f
 have d:a[q]?.getD undef=v:=by simpa using hq
 simp[results,h,c,d,asAddr,run_loadVar_row w g 47 47 cs (0,0) _ i underlying47 rfl (by rw[z4g,b])]
theorem PIn.sets{P:Nat->Prop}{w:World}{p:Pr}{v:PrV}(h:PIn P w p v){g:Nat}(c:¬ P g)(o:Nat)(a:List Value):PIn P (w.setCells g o a) p v:=h.keep fun b d _=>z0f (show b≠g from fun e=>c (by rw[<- e];exact d)) a o w
theorem PIn.z2w{P:Nat->Prop}{w w':World}{p:Pr}{v:PrV}(h:PIn P w p v)(a:Bl w w')(k:Nat):PIn (New P w k) w' p v:=(h.mono (P':=fun b=>New P w k b/\b<w.heap.size) fun _ hl c=>⟨.inl ⟨c,hl⟩,hl⟩).over a |>.mono fun _ _ h=>h.1
theorem z5G{f:Func}{t q:Tmp}(a:f.results=#[.cell t 47,.tmp q]){P:Nat->Prop}{w wq:World}{e:Array Value}(R:CAt 47 wq (w.heap.size+1) e)(g:e.size=97)(H:Bl w wq)(b:Pr)(c:PrV)(d:Int)(r:Pr×Int)(h:r=(b,d))(i:PIn (New P w 2) wq b c)(act:Act)
  (j:act.tmps.getD t undef=J2 (some ⟨w.heap.size+1,0,none⟩)) (k:act.tmps.getD q undef=J I d) (hd:act.defers=[]) :
  bodyPost prog f (j0P P w r) Exit.ret act (wq.setCells (w.heap.size+1) 0 (prC b c).toList):=by
 subst h;have l:=R.z0C (ds:=prC b c) (by rw[g];rfl)
 exact bodyPost_ret (v:=.tuple #[J4 (prC b c),J I d]) (z4s a _ _ _ _ _ j k l rfl) hd ⟨c,rfl,i.sets (q0w (by omega)) _ _,z0b (Nat.le_succ _) _ _ _ H⟩
end Pv
namespace Pv
open Go.RowKit
theorem q6L:∀ l:List (Int×Int),pwL l=pwC l
 | []=>rfl
 | x :: r=>by show _ :: _ :: pwL r=_;rw[q6L r];rfl
theorem Rep.j0C{w:World}{B:Nat}{v:Value}{l:List (Int×Int)}(h:z3w w B v l)(hl:l.length<=8796093021952):Rep (fun b=>B<=b) w v 2 16 (pwC l):=by
 have a:w.ownsRow B 74 2 v l.length (pwL l):=h;rw[q6L]at a;exact Rep.own a (by omega)
theorem Rep.j1r{w:World}{B:Nat}{v:Value}{l:List (Int×Int)}(h:j0S w B v l)(hl:l.length<=8796093021952):Rep (fun b=>B<=b) w v 2 16 (pwC l):=by
 rcases h with⟨rfl,rfl⟩ | ⟨g,cap,rfl,hB,⟨cur,h1,h2⟩,h3,h4⟩
 ·exact Rep.nil _ _ _ _
 ·refine⟨_,l.length,cap,rfl,z0r l,by omega,⟨fun h=>(by cases h),h3⟩,fun _=>⟨g,0,rfl,hB,(Array.getElem?_eq_some_iff.1 h1).1,fun j u hu=>?_⟩⟩
  have f:j<l.length * 2:=by have:=(List.getElem?_eq_some_iff.1 hu).1;rwa [z0r]at this
  have a:j / 2<l.length:=by omega
  obtain⟨c,d⟩:=z2t l (j / 2) a;have ex:l[j / 2]?=some (l.getD (j / 2) (0,0)):=by simp[List.getD,a]
  obtain⟨b1,b2⟩:=h2 (j / 2) _ ex;rw[Nat.zero_add];simp only[World.cell?,h1]
  rcases (show j=j / 2 * 2∨j=j / 2 * 2+1 by omega) with e | e
  ·rw[<- e]at c b1;rw[c]at hu;cases hu;simpa using b1
  ·rw[<- e]at d b2;rw[d]at hu;cases hu;simpa using b2
theorem Rep.pin{P:Nat->Prop}{w:World}{v:Value}{l:List (Int×Int)}(h:Rep P w v 2 16 (pwC l)):∃ ao c b off,v=J1 ao l.length c/\Df.PIn w l ao b off:=by
 obtain⟨A,C,e,g,-,d,-⟩:=h.open (z0r _) (by decide)
 rcases Nat.eq_zero_or_pos l.length with h0 | h0
 ·exact⟨A,C,0,0,e,by omega,fun h=>by omega,fun i a=>by omega⟩
 ·obtain⟨b,off,f,-,-,hcell⟩:=d h0;exact⟨A,C,b,off,e,by omega,fun _=>f,fun i a=>⟨by rw[hcell _ _ (z2t l i a).1],by rw[Nat.add_assoc,hcell _ _ (z2t l i a).2]⟩⟩
theorem z1k.rep{B:Nat}{w:World}{A:Option Addr}{C:Nat}{W:List Wt}(h:z1k B w A C W)(hl:W.length * 64<=140737488351232):Rep (fun b=>B<=b) w (J1 A W.length C) 8 64 (wsL W):=Rep.own h hl
theorem z5W.rep{B:Nat}{w:World}{A:Option Addr}{C:Nat}{l:List Int}(h:z5W B w A C l)(hl:l.length * 8<=140737488351232):Rep (fun b=>B<=b) w (J1 A l.length C) 1 8 (inC l):=Rep.own h hl
section
variable {P:Nat->Prop} {w:World} {s:St} {u:Value} (hu:Rep P w u 8 64 (wsL s.W))
include hu
theorem q8i(v:Int):Calls prog 148 #[J4 (stC s u),J I v] w fun e w'=>e=.returned (.tuple #[J4 (stC (z7B s v).1 u),J I (z7B s v).2])/\Bl w w':=by
 obtain⟨A,C,b,o,rfl,W,-,-⟩:=hu.z8v;exact q2b s A b o C v w W
theorem q7r(v:Int):Calls prog 151 #[J4 (stC s u),J I v] w fun e w'=>e=.returned (.tuple #[J4 (stC (z6d s v).1 u),J I (z6d s v).2])/\Bl w w':=by
 obtain⟨A,C,b,o,rfl,W,-,-⟩:=hu.z8v;exact q4y s A b o C v w W
theorem q5m(v:Nat)(h:Int)(a:z0j s=true)(c:v<6):Calls prog 150 #[J4 (stC s u),J I (v:Int),J I h,J I 50] w fun e w'=>∃ d x,e=.returned (.tuple #[J4 (stC (z0Q s v h 50) d),x,J I 0])/\Rep (fun b=>w.heap.size<=b) w' d 8 64 (wsL (z0Q s v h 50).W)/\Bl w w':=by
 obtain⟨A,C,b,o,rfl,W,-,-⟩:=hu.z8v;refine (q1P s A b o C v h 50 w W a c (by decide)).mono ?_
 rintro e w'⟨A',C',rfl,h1,g⟩;exact⟨_,_,rfl,z1k.rep h1 (z2T (z5i a (v:=v) c h (f:=50) (by decide)).good),g⟩
theorem q9p(t:Int)(a:z0j s=true):Calls prog 31 #[J4 (stC s u),J I t] w fun e w'=>∃ c x,e=.returned (.tuple #[J4 (stC (z3e s t) c),x,J I 0])/\Rep (fun b=>w.heap.size<=b) w' c 8 64 (wsL (z3e s t).W)/\Rep (fun b=>w.heap.size<=b) w' x 1 8 (inC (z0D t s.W))/\Bl w w':=by
 obtain⟨A,C,b,o,rfl,W,-,-⟩:=hu.z8v;refine (q5f s A b o C t w W a).mono ?_;rintro e w'⟨A',C',A2,C2,rfl,h1,h2,d⟩;have f:=((z0S _).1 a).2.2.2.1
 have g:(z0D t s.W).length<=s.W.length:=by
  unfold z0D z4y;rw[List.length_map];exact List.length_filter_le _ _
 exact⟨_,_,rfl,z1k.rep h1 (z2T (q0a a t).good),z5W.rep h2 (by omega),d⟩
theorem q9t(c:Nat)(h:Int)(f:c<2):Calls prog 110 #[J4 (stC s u),J I (c:Int),J I h] w fun e w'=>∃ d,e=.returned (J4 (stC { s with W:=z5g c h s.W } d))/\Rep (fun b=>w.heap.size<=b) w' d 8 64 (wsL (z5g c h s.W))/\Bl w w':=by
 obtain⟨A,C,b,o,rfl,W,-,-⟩:=hu.z8v;have hl:(z5g c h s.W).length=s.W.length:=List.length_map _
 match c,f with
 | 0,_ =>
  refine (q0L s A b o C h w W W.len).mono ?_;rintro e w'⟨A',C',rfl,h1,a⟩;have:=z1k.rep h1 (by rw[hl];exact W.len)
  rw[hl]at this;exact⟨_,rfl,this,a⟩
 | 1,_ =>
  refine (q1g s A b o C h w W W.len).mono ?_;rintro e w'⟨A',C',rfl,h1,a⟩;have:=z1k.rep h1 (by rw[hl];exact W.len)
  rw[hl]at this;exact⟨_,rfl,this,a⟩
end
theorem q0h(V:Nat->Vd):(z4Y V).length<=4:=by
 unfold z4Y;rw[z1K,List.length_take];omega
theorem q9N(s:St)(u:Value)(w:World)(a:z0j s=true):Calls prog 13 #[J4 (stC s u)] w fun e w'=>∃ v,e=.returned v/\Rep (fun b=>w.heap.size<=b) w' v 2 16 (pwC (z4Y s.V))/\Bl w w':=by
 refine (q6j s u w fun k c=>(z1G (z8h a k c).1).1).mono ?_;rintro e w'⟨v,rfl,h1,d⟩;exact⟨v,rfl,Rep.j1r h1 (by have:=q0h s.V;omega),d⟩
theorem q8H{P:Nat->Prop}{w:World}{v:Value}{l:List (Int×Int)}(h:Rep P w v 2 16 (pwC l)):Calls prog 29 #[v] w fun e w'=>e=.returned (J I (Df.z6c l))/\Bl w w':=by
 obtain⟨ao,c,b,off,rfl,a⟩:=h.pin;exact Df.q8d l ao c b off w a
theorem q7T{P Q:Nat->Prop}{w:World}{v i:Value}{l d:List (Int×Int)}(h:Rep P w v 2 16 (pwC l))(j:Rep Q w i 2 16 (pwC d)):Calls prog 71 #[v,i] w fun e w'=>∃ u,e=.returned u/\Rep (fun b=>w.heap.size<=b) w' u 2 16 (pwC (Df.z2x l d))/\Bl w w':=by
 obtain⟨ao,c,b,off,rfl,k⟩:=h.pin;obtain⟨f,m,n,a,rfl,g⟩:=j.pin;refine (Df.q4R l d ao f c m b off n a w k g).mono ?_;rintro e w'⟨u,rfl,h1,o⟩;exact⟨u,rfl,Rep.j0C h1 (Nat.le_trans (Df.z1W _ _ 6) (by decide)),o⟩
end Pv
namespace Pv
open Go.RowKit
theorem Rep.one'{P:Nat->Prop}{w:World}{v:Value}{sz bts:Nat}{cs:List Value}(h:Rep P w v sz bts cs):∃ A n C,v=J1 A n C:=by
 obtain⟨A,n,C,e,_⟩:=h;exact⟨A,n,C,e⟩
theorem z3h{v:Value}(s:St)(h:∃ A n C,v=J1 A n C):(stC s v).all (·.oneCell')=true:=by
 obtain⟨A,n,C,rfl⟩:=h;exact z0q _ _ _ _
attribute [local go_sem ↓] z0O z1c z0J z0L
theorem q1v(p:Pr)(v:PrV)(P:Nat->Prop)(w:World)(d x n:Int)(F:PIn P w p v) :
  Calls prog 25 #[J4 (prC p v),J I d,J I x,J I n] w (j0P P w (z4V p d x n)):=by
 have hD:z4V p d x n=if z1s p=true then ({ p with s:=(z1u p.s d x n).1 },(z1u p.s d x n).2) else (p,2):=rfl
 generalize z4V p d x n=D at *;have V:=J6 hD;clear hD;have f:=z2y F;have H:=J6 (fun (wx:World) (K:Bl w wx)=>z5x p v P wx (F.over K));have X:=J6 (fun (wx:World) (K:Bl w wx)=>F.z2w K 2);have HP:=J6 F;clear F;generalize z1s p=G at *
 go_enter func25,ntmps25
 go_upto_region 1 with fail
 change Code.wp prog _ _ _ ((w.alloc (J5 (prC p v) 47)).alloc (J5 zeroCells47 47));have Y:CAt 47 ((w.alloc (J5 (prC p v) 47)).alloc (J5 zeroCells47 47)) w.heap.size (prC p v):=(CAt.new _ w _).alloc _;have R0:CAt 47 ((w.alloc (J5 (prC p v) 47)).alloc (J5 zeroCells47 47)) (w.heap.size+1) zeroCells47:=CAt.new2 _ w _ _;have B0:Bl w ((w.alloc (J5 (prC p v) 47)).alloc (J5 zeroCells47 47)):=(znw w _).alloc (by simp) _
 generalize (w.alloc (J5 (prC p v) 47)).alloc (J5 zeroCells47 47)=w0 at *;have l0:=z0t Y (z0c _ _);have m:=J6 (show _/\_/\_ from⟨Y,R0,B0⟩);clear Y R0 B0;cases G
 ·have L:=J6 (V.out.trans (if_neg (by simp)))
  clear V
  go_upto_region 2 with (go_at_call 10;refine (H.out _ m.out.2.2).mono ?_;rintro e w1⟨rfl,a⟩;clear l0)
  have B:=m.out.2.1.over a;have l1:=z0t (m.out.1.over a) (z0c _ _);have s1:=z0z B z0h (z0c p v) f;have M:=zbt m.out.2.2 a;have l:=J6 (show _/\_ from⟨B,M⟩);clear B M a f;go_wp2;exact z5G results25 l.out.1 z0h l.out.2 p v 2 D L.out (X.out _ l.out.2) _ rfl rfl rfl
 ·have L:=J6 (V.out.trans (if_pos rfl));clear V;obtain⟨Aw,Cw,bw,ow,N,Ws,-,-⟩:=HP.out.ws.z8v;have y:=fun (wx:World) (K:Bl w wx)=>q3b p.s Aw bw ow Cw d x n wx (Ws.over K);rw[<- N]at y;have z:=J6 y;have Z:∃ A n C,v.ws=J1 A n C:=HP.out.ws.one';clear y N Ws
  go_upto_region 3 with (go_at_call 10;refine (H.out _ m.out.2.2).mono ?_;rintro e w1⟨rfl,a⟩;clear l0)
  have C1:=m.out.1.over a;have B:=m.out.2.1.over a;have M:=zbt m.out.2.2 a;have m1:=z1f C1;have E:=J6 (show _/\_/\_ from⟨C1,B,M⟩);clear C1 B M a m
  have hW:(z1u p.s d x n).1.W=p.s.W:=by
   unfold z1u
   repeat' split
   all_goals rfl
  have HW:=J6 hW
  have Q:Hid ((z1u p.s d x n).2≠0->(z1u p.s d x n).1=p.s):=fun h=>by
   unfold z1u at h ⊢
   repeat' split
   all_goals first | rfl | (simp_all;done)
  clear hW;generalize z1u p.s d x n=r at *;obtain⟨s',er⟩:=r;dsimp only at L z HW Q;have u:=z3h s' Z
  go_upto_region 4 with (go_at_call 64;refine (z.out _ E.out.2.2).mono ?_;rintro e i⟨rfl,k⟩;clear m1;have R:=z7I (CAt.new 32 i Z63) rfl (z0d s' v.ws) u;unfold Z63 at R)
  change Code.wp prog _ _ _ ((i.alloc (J5 Z63 32)).setCells i.heap.size 0 (stC s' v.ws).toList);have t:Bl i ((i.alloc (J5 Z63 32)).setCells i.heap.size 0 (stC s' v.ws).toList):=z0b (Nat.le_refl _) _ _ _ (znw i _);have T3:CAt 32 ((i.alloc (J5 Z63 32)).setCells i.heap.size 0 (stC s' v.ws).toList) i.heap.size (stC s' v.ws):=(CAt.new 32 i Z63).z0C rfl;have S:=(E.out.1.over k).over t;have T:=(E.out.2.1.over k).over t;have U:=(zbt E.out.2.2 k).trans (t.mono (Nat.le_trans E.out.2.2.size k.size));have a0:w.heap.size<i.heap.size:=(E.out.1.over k).lt;clear R k t z;generalize (i.alloc (J5 Z63 32)).setCells i.heap.size 0 (stC s' v.ws).toList=w3 at *
  by_cases he:er=0
  ·subst he;have mS:=z7p T3 (z0d _ _);have sS:=z1x S (z0c _ _) (z0d s' v.ws) u;have C4:=S.z0I s' v.ws;have R4:=T.others (c:=w.heap.size) (o:=2) (by omega) (stC s' v.ws).toList
   have B4:=z0b (b:=w.heap.size) (Nat.le_refl _) (stC s' v.ws).toList 2 _ U
   have N4:PIn (New P w 2) (w3.setCells w.heap.size 2 (stC s' v.ws).toList) { p with s:=s' } { v with ws:=v.ws }:=by
    have:=(X.out _ U).sets (g:=w.heap.size) (q0w (j:=0) (by omega)) 2 (stC s' v.ws).toList
    exact⟨by rw[show (wsL s'.W)=wsL p.s.W by rw[HW.out]];exact this.ws,this.set,this.lk,this.q⟩
   have l4:=z0t C4 (z0c _ _);have s4:=z0z R4 z0h (z0c { p with s:=s' } { v with ws:=v.ws }) (z2y N4)
   have l:=J6 (show _/\_/\_ from⟨R4,B4,N4⟩);clear S T U C4 R4 B4 N4 T3 f
   go_upto_region 7 with fail
   generalize w3.setCells w.heap.size 2 (stC s' v.ws).toList=w4 at *;clear mS sS;go_wp2;exact z5G results25 l.out.1 z0h l.out.2.1 _ _ 0 D L.out l.out.2.2 _ rfl rfl rfl
  ·have l3:=z0t S (z0c _ _);have s3:=z0z T z0h (z0c p v) f;have a1:(er != 0)=true:=by simpa using he
   have l:=J6 (show _/\_ from⟨T,U⟩);have hsame:s'=p.s:=Q.out he;subst hsame;clear S T U T3 f;go_wp2;exact z5G results25 l.out.1 z0h l.out.2 p v er D L.out (X.out _ l.out.2) _ rfl rfl rfl
end Pv
namespace Pv
open Go.RowKit
theorem q3H{s:St}{x:Nat}(a:z0j s=true)(b:x<6)(hd:(s.V x).dead=false):z6d s x=(z2V s x true true,0):=by
 unfold z6d;rw[if_pos (z1X a b),Int.toNat_natCast,if_neg (by simp[hd])]
theorem z6i(s:St)(x:Nat)(h:Int):((z0Q s x h 50).V x).dead=(s.V x).dead:=by
 show (z2a s.V x _ x).dead=_
 rw[z3k];rfl
theorem Rep.sets{P:Nat->Prop}{w:World}{v:Value}{sz bts:Nat}{cs:List Value}(h:Rep P w v sz bts cs){g:Nat}(c:¬ P g)(o:Nat)(a:List Value):Rep P (w.setCells g o a) v sz bts cs:=h.keep fun b d _=>z0f (show b≠g from fun e=>c (by rw[<- e];exact d)) a o w
attribute [local go_sem ↓] z0O z1c z0J z0L
theorem z9f(g:Nat)(p:Pr)(v:PrV)(P:Nat->Prop)(w:World)(x:Nat)(h:Int)(l:CAt 47 w g (prC p v))(B:Rep P w v.ws 8 64 (wsL p.s.W))(n:z0j p.s=true)(o:x<6)(hd:(p.s.V x).dead=false) :
  Calls prog 112 #[J2 (some ⟨g,0,none⟩),J I (x:Int),J I h] w fun e w'=>∃ u,e=.returned (.tuple #[])/\CAt 47 w' g (prC { p with s:=q0k p.s x h } { v with ws:=u })/\Rep (fun b=>w.heap.size<=b) w' u 8 64 (wsL (q0k p.s x h).W)/\Alt g w w':=by
 have F:=z1f l;have G:=l.lt;have C:=J6 (q5m B x h n o);have k:=z5i n (v:=x) o h (f:=50) (by decide)
 have i:((z0Q p.s x h 50).V x).dead=false:=(z6i _ _ _).trans hd;have D:z6d (z0Q p.s x h 50) x=(q0k p.s x h,0):=q3H k.good o i;have q:Hid ((q0k p.s x h).W=(z0Q p.s x h 50).W):=rfl;generalize q0k p.s x h=s2 at *;generalize z0Q p.s x h 50=s1 at *;have r:=J6 l;have E:=J6 D;clear l B n hd D k i
 go_enter func112,ntmps112
 go_upto_region 1 with (go_at_call 150;refine C.out.mono ?_;rintro e w1⟨u,y,rfl,hu,a⟩;clear F;have t:=z1x (r.out.over a) (z0c _ _) (z0d s1 u) (z3h s1 hu.one'))
 have C2:=(r.out.over a).z0I s1 u;have z:=hu.sets (g:=g) (by show ¬ _<=g;omega) 2 (stC s1 u).toList
 have A2:=Alt.sets (stC s1 u).toList (Alt.of (g:=g) a) 2;clear t a;generalize w1.setCells g 2 (stC s1 u).toList=w2 at *;have H:=z1f C2;have d:=q7r z (x:Int);rw[E.out]at d;have A:=J6 d;have m:=J6 (show _/\_/\_ from⟨C2,z,A2⟩);have j:=z3h s2 hu.one';have K:=A2.size;clear C2 z A2 d hu r E C
 go_wp2_with (go_at_call 151;refine A.out.mono ?_;rintro e N⟨rfl,c⟩;clear H;have L:=z1x (m.out.1.over c) (z0c _ _) (z0d s2 u) j)
 go_end0;have M:=(m.out.1.over c).z0I s2 u;refine⟨u,rfl,M,?_,m.out.2.2.trans (Alt.sets (stC s2 u).toList (Alt.of (g:=g) c) 2)⟩;rw[q.out];exact (m.out.2.1.over c).sets (by show ¬ _<=g;omega) 2 _
end Pv
namespace Pv
def swI(l:List Int)(p:Nat):List Int:=(l.set (p+1) (l.getD p 0)).set p (l.getD (p+1) 0)
def q2X:Nat->List Int->List Int
 | 0,l=>l
 | p+1,l=>if l.getD (p+1) 0<l.getD p 0 then q2X p (swI l p) else l
def q1m(l:List Int):Nat->List Int
 | 0=>l
 | m+1=>q2X (m+1) (q1m l m)
def z3V(l:List Int):List Int:=q1m l (l.length - 1)
theorem z6P(l:List Int)(p:Nat):(swI l p).length=l.length:=by simp[swI]
theorem z5N:∀ (j:Nat) (l:List Int),(q2X j l).length=l.length
 | 0,_=>rfl
 | p+1,l=>by rw[q2X];split;rw[z5N p,z6P];rfl
theorem z3I(l:List Int):∀ m,(q1m l m).length=l.length
 | 0=>rfl
 | m+1=>by rw[q1m,z5N,z3I l m]
theorem z8j(l:List Int):(z3V l).length=l.length:=z3I _ _
theorem z3t:∀ (l:List Int) (a:Int),z1v a l=true->∀ x∈l,a<x/\x<=5
 | [],_,_,x,b=>by cases b
 | y :: l,a,h,x,b=>by
  simp only[z1v,Bool.and_eq_true,decide_eq_true_eq]at h
  rcases List.mem_cons.1 b with rfl | b
  ·exact⟨h.1.1,h.1.2⟩
  ·have:=z3t l y h.2 x b;exact⟨by omega,this.2⟩
theorem z9J:∀ (l m:List Int) (a b:Int),z1v a l=true->z1v b m=true->(∀ x,x∈l↔x∈m)->l=m
 | [],[],_,_,_,_,_=>rfl
 | [],y :: m,_,_,_,_,h=>by have:=(h y).2 (List.mem_cons_self);cases this
 | x :: l,[],_,_,_,_,h=>by have:=(h x).1 (List.mem_cons_self);cases this
 | x :: l,y :: m,a,b,hl,hm,h=>by
  simp only[z1v,Bool.and_eq_true,decide_eq_true_eq]at hl hm
  have e:x=y:=by
   rcases List.mem_cons.1 ((h x).1 List.mem_cons_self) with h1 | h1
   ·exact h1
   ·rcases List.mem_cons.1 ((h y).2 List.mem_cons_self) with h2 | h2
    ·exact h2.symm
    ·have:=(z3t m y hm.2 x h1).1;have:=(z3t l x hl.2 y h2).1;omega
  subst e;rw[z9J l m x x hl.2 hm.2 fun z=>⟨fun c=>?_,fun c=>?_⟩]
  ·rcases List.mem_cons.1 ((h z).1 (List.mem_cons_of_mem _ c)) with h1 | h1
   ·have:=(z3t l x hl.2 z c).1;omega
   ·exact h1
  ·rcases List.mem_cons.1 ((h z).2 (List.mem_cons_of_mem _ c)) with h1 | h1
   ·have:=(z3t m x hm.2 z c).1;omega
   ·exact h1
def six:List Int:=[0,1,2,3,4,5]
theorem q8J:(List.range 6).map Int.ofNat=six:=by decide
theorem q7m{v:Int}(h0:0<=v)(h1:v<=5):v∈six:=by
 rcases (show v=0∨v=1∨v=2∨v=3∨v=4∨v=5 by omega) with rfl | rfl | rfl | rfl | rfl | rfl <;> decide
def mkB(b0 b1 b2 b3 a b:Bool):List Int:=(if b0 then [0] else []) ++ (if b1 then [1] else []) ++ (if b2 then [2] else []) ++ (if b3 then [3] else []) ++ (if a then [4] else []) ++ (if b then [5] else [])
theorem z4p(f:Int->Bool):six.filter f=mkB (f 0) (f 1) (f 2) (f 3) (f 4) (f 5):=by
 unfold six mkB;simp only[List.filter_cons,List.filter_nil];cases f 0 <;> cases f 1 <;> cases f 2 <;> cases f 3 <;> cases f 4 <;> cases f 5 <;> rfl
theorem q3h:∀ b0 b1 b2 b3 a b:Bool,z1v (-1) (mkB b0 b1 b2 b3 a b)=true:=by decide +kernel
theorem z9j{D:List Int}(h:z1v (-1) D=true):D=six.filter fun u=>decide (u∈D):=by
 refine z9J D _ (-1) (-1) h (by rw[z4p];exact q3h _ _ _ _ _ _) fun x=>⟨fun a=>?_,fun a=>?_⟩
 ·have:=z3t D (-1) h x a;exact List.mem_filter.2 ⟨q7m (by omega) this.2,by simpa using a⟩
 ·simpa using (List.mem_filter.1 a).2
theorem z5d(D:List Int)(v:Int):z1F D v=six.filter fun u=>decide (u=v) || decide (u∈D):=by unfold z1F;rw[q8J]
theorem q3I(D:List Int)(v:Int):z1v (-1) (z1F D v)=true:=by rw[z5d,z4p];exact q3h _ _ _ _ _ _
theorem q7o{D:List Int}{v:Int}(h:z1v (-1) D=true)(a:v∈D):z1F D v=D:=by
 rw[z5d]
 conv=>rhs;rw[z9j h]
 congr 1
 funext u
 by_cases e:u=v
 ·subst e;simp[a]
 ·simp[e]
theorem q5s{D:List Int}(h:z1v (-1) D=true):D.length<=6:=by
 rw[z9j h];exact List.length_filter_le _ _
theorem q7D:∀ b0 b1 b2 b3 a b:Bool,(b0=false->z3V (mkB b0 b1 b2 b3 a b ++ [0])=mkB true b1 b2 b3 a b)/\(b1=false->z3V (mkB b0 b1 b2 b3 a b ++ [1])=mkB b0 true b2 b3 a b)/\(b2=false->z3V (mkB b0 b1 b2 b3 a b ++ [2])=mkB b0 b1 true b3 a b)/\(b3=false->z3V (mkB b0 b1 b2 b3 a b ++ [3])=mkB b0 b1 b2 true a b)/\(a=false->z3V (mkB b0 b1 b2 b3 a b ++ [4])=mkB b0 b1 b2 b3 true b)/\(b=false->z3V (mkB b0 b1 b2 b3 a b ++ [5])=mkB b0 b1 b2 b3 a true):=by decide +kernel
theorem q4m{D:List Int}{v:Int}(h:z1v (-1) D=true)(h0:0<=v)(h1:v<=5)(c:v ∉ D):z3V (D ++ [v])=z1F D v:=by
 have b:=z9j h;rw[z4p]at b;have a:decide (v∈D)=false:=by simpa using c
 have k:=q7D (decide ((0:Int)∈D)) (decide ((1:Int)∈D)) (decide ((2:Int)∈D)) (decide ((3:Int)∈D)) (decide ((4:Int)∈D)) (decide ((5:Int)∈D));rw[<- b]at k;rw[z5d,z4p]
 rcases (show v=0∨v=1∨v=2∨v=3∨v=4∨v=5 by omega) with rfl | rfl | rfl | rfl | rfl | rfl
 ·rw[k.1 a];simp
 ·rw[k.2.1 a];simp
 ·rw[k.2.2.1 a];simp
 ·rw[k.2.2.2.1 a];simp
 ·rw[k.2.2.2.2.1 a];simp
 ·rw[k.2.2.2.2.2 a];simp
end Pv
end Go.Proofs.YtjghbciepinofaaGreat
