/- Parts of the proof. -/
import Derived.Test.YtddlhnoedldidaaGreatML
import Derived.Test.YtddlhnoedldidaaGreatMK10
import Derived.Test.YtddlhnoedldidaaGreatMK16
set_option maxRecDepth 100000
set_option maxHeartbeats 16000000
namespace Go.Proofs.YtddlhnoedldidaaGreat
open Go.Proofs.Tryz
open Value renaming int->J,slice->J1,pointer->J2,bool->J3,agg->J4
open IntKind renaming i64->I
open Obj renaming cells->J5
namespace Wd
open Go.RowKit Pv Kc
theorem q1K:(prog.info? 169).map (·.size)=some 3:=by kernel_rfl
theorem q3O(g i:Nat)(l:i<2)(w:World) :
  Calls prog 84 #[J2 (some ⟨g,0,none⟩),J I (i:Int),J3 true] w fun e w'=>e=.returned (J4 #[(J2 (some ⟨g,99+i * 22+14,none⟩)),(J2 (some ⟨g,99+i * 22+18,none⟩)),(J2 (some ⟨g,68+i * 14+10,none⟩))])/\Bl w w':=by
 have j:(i:Int)<2:=by omega
 have k:(0:Int)<=(i:Int):=by omega
 go_enter func84,ntmps84
 go_upto_region 1 with fail
 have c:=CAt.new 169 w #[.pointer none,.pointer none,.pointer none];have b0:Bl w (w.alloc (J5 #[.pointer none,.pointer none,.pointer none] 169)):=znw w _;generalize w.alloc (J5 #[.pointer none,.pointer none,.pointer none] 169)=w0 at *;have b:=J6 (show _/\_ from⟨c,b0⟩);clear c b0;go_quiet (fail);simp only[Exit.then];apply_assumption;have d:=b.out.1.over (below_drewN (Below.refl w0.heap.size w0) nq);have b1:=below_drewN b.out.2 nq;clear b;generalize w0.drewN nq=w1 at *
 go_upto_region 3 with fail
 refine wp_region_held_drew (S:=fun _=>True) (by kernel_rfl) trivial (fun a=>?_)
 refine O.G 0 (J2 (some ⟨g,99+i * 22,none⟩)) 21 rfl rfl a ?_;refine O.G 1 (J2 (some ⟨g,99+i * 22,none⟩)) 22 rfl rfl a ?_;refine O.G 2 (J2 (some ⟨g,99+i * 22+14,none⟩)) 23 rfl rfl a ?_;refine O.G 3 (J2 (some ⟨g,99+i * 22,none⟩)) 24 rfl rfl a ?_;refine O.G 4 (J2 (some ⟨g,99+i * 22,none⟩)) 25 rfl rfl a ?_;refine O.G 5 (J2 (some ⟨g,99+i * 22+18,none⟩)) 26 rfl rfl a ?_;refine O.G 6 (J2 (some ⟨g,68+i * 14,none⟩)) 27 rfl rfl a ?_;refine O.G 7 (J2 (some ⟨g,68+i * 14,none⟩)) 28 rfl rfl a ?_;refine O.G 8 (J2 (some ⟨g,68+i * 14+10,none⟩)) 29 rfl rfl a ?_;refine O.G 9 (J4 #[(J2 (some ⟨g,99+i * 22+14,none⟩)),(J2 (some ⟨g,99+i * 22+18,none⟩)),(J2 (some ⟨g,68+i * 14+10,none⟩))]) 30 rfl rfl a ?_;have q1:(Option.map (fun x=>x.size) (prog.info? 169))=some (#[(J2 (some ⟨g,99+i * 22+14,none⟩)),(J2 (some ⟨g,99+i * 22+18,none⟩)),(J2 (some ⟨g,68+i * 14+10,none⟩))]:Array Value).size:=by rw[q1K];rfl
 have q2:(#[(J2 (some ⟨g,99+i * 22+14,none⟩)),(J2 (some ⟨g,99+i * 22+18,none⟩)),(J2 (some ⟨g,68+i * 14+10,none⟩))]:Array Value).all (fun x=>x.oneCell')=true:=by simp[Value.oneCell']
 have q3:w1.drew.there w.heap.size 0 (#[(J2 (some ⟨g,99+i * 22+14,none⟩)),(J2 (some ⟨g,99+i * 22+18,none⟩)),(J2 (some ⟨g,68+i * 14+10,none⟩))]:Array Value).size:=(d.over (Below.refl w1.heap.size w1).drew).there 0 _ (by exact Nat.le_refl _)
 simp only[O.pp,O.pb,O.pc];refine O.z0n (i:=10) (by kernel_rfl) rfl rfl 169 _ _ rfl rfl w.heap.size 0 #[(J2 (some ⟨g,99+i * 22+14,none⟩)),(J2 (some ⟨g,99+i * 22+18,none⟩)),(J2 (some ⟨g,68+i * 14+10,none⟩))] rfl rfl q3 q1 q2 trivial ?_
 refine wpAnyH_done (by kernel_rfl) ?_ _
 have f:=(d.over (Below.refl w1.heap.size w1).drew).z0t (ds:=#[(J2 (some ⟨g,99+i * 22+14,none⟩)),(J2 (some ⟨g,99+i * 22+18,none⟩)),(J2 (some ⟨g,68+i * 14+10,none⟩))]) rfl;have b2:=z0a (Nat.le_refl _) (#[(J2 (some ⟨g,99+i * 22+14,none⟩)),(J2 (some ⟨g,99+i * 22+18,none⟩)),(J2 (some ⟨g,68+i * 14+10,none⟩))]:Array Value).toList 0 _ (b1.trans ((Below.refl w1.heap.size w1).drew.mono b1.size));have h:=J6 (show _/\_ from⟨f,b2⟩);clear f b2 q1 q2 q3;generalize w1.drew.setCells w.heap.size 0 (#[(J2 (some ⟨g,99+i * 22+14,none⟩)),(J2 (some ⟨g,99+i * 22+18,none⟩)),(J2 (some ⟨g,68+i * 14+10,none⟩))]:Array Value).toList=w2 at *;go_simp;go_wp2;exact bodyPost_ret (v:=J4 #[(J2 (some ⟨g,99+i * 22+14,none⟩)),(J2 (some ⟨g,99+i * 22+18,none⟩)),(J2 (some ⟨g,68+i * 14+10,none⟩))]) (results_cell_row results84 _ _ w.heap.size 169 #[(J2 (some ⟨g,99+i * 22+14,none⟩)),(J2 (some ⟨g,99+i * 22+18,none⟩)),(J2 (some ⟨g,68+i * 14+10,none⟩))] (0,0) _ rfl h.out.1 underlying169 rfl (by kernel_rfl)) rfl ⟨rfl,h.out.2⟩
theorem q0c(g i:Nat)(l:i<2)(w:World) :
  Calls prog 84 #[J2 (some ⟨g,0,none⟩),J I (i:Int),J3 false] w fun e w'=>e=.returned (J4 #[(J2 (some ⟨g,68+i * 14+6,none⟩)),(J2 (some ⟨g,68+i * 14+10,none⟩)),(J2 (some ⟨g,99+i * 22+18,none⟩))])/\Bl w w':=by
 have j:(i:Int)<2:=by omega
 have k:(0:Int)<=(i:Int):=by omega
 go_enter func84,ntmps84
 go_upto_region 1 with fail
 have c:=CAt.new 169 w #[.pointer none,.pointer none,.pointer none];have b0:Bl w (w.alloc (J5 #[.pointer none,.pointer none,.pointer none] 169)):=znw w _;generalize w.alloc (J5 #[.pointer none,.pointer none,.pointer none] 169)=w0 at *;have b:=J6 (show _/\_ from⟨c,b0⟩);clear c b0;go_quiet (fail);simp only[Exit.then];apply_assumption;have d:=b.out.1.over (below_drewN (Below.refl w0.heap.size w0) nq);have b1:=below_drewN b.out.2 nq;clear b;generalize w0.drewN nq=w1 at *
 go_upto_region 4 with fail
 refine wp_region_held_drew (S:=fun _=>True) (by kernel_rfl) trivial (fun a=>?_)
 refine O.G 0 (J2 (some ⟨g,68+i * 14,none⟩)) 31 rfl rfl a ?_;refine O.G 1 (J2 (some ⟨g,68+i * 14,none⟩)) 32 rfl rfl a ?_;refine O.G 2 (J2 (some ⟨g,68+i * 14+6,none⟩)) 33 rfl rfl a ?_;refine O.G 3 (J2 (some ⟨g,68+i * 14,none⟩)) 34 rfl rfl a ?_;refine O.G 4 (J2 (some ⟨g,68+i * 14,none⟩)) 35 rfl rfl a ?_;refine O.G 5 (J2 (some ⟨g,68+i * 14+10,none⟩)) 36 rfl rfl a ?_;refine O.G 6 (J2 (some ⟨g,99+i * 22,none⟩)) 37 rfl rfl a ?_;refine O.G 7 (J2 (some ⟨g,99+i * 22,none⟩)) 38 rfl rfl a ?_;refine O.G 8 (J2 (some ⟨g,99+i * 22+18,none⟩)) 39 rfl rfl a ?_;refine O.G 9 (J4 #[(J2 (some ⟨g,68+i * 14+6,none⟩)),(J2 (some ⟨g,68+i * 14+10,none⟩)),(J2 (some ⟨g,99+i * 22+18,none⟩))]) 40 rfl rfl a ?_;have q1:(Option.map (fun x=>x.size) (prog.info? 169))=some (#[(J2 (some ⟨g,68+i * 14+6,none⟩)),(J2 (some ⟨g,68+i * 14+10,none⟩)),(J2 (some ⟨g,99+i * 22+18,none⟩))]:Array Value).size:=by rw[q1K];rfl
 have q2:(#[(J2 (some ⟨g,68+i * 14+6,none⟩)),(J2 (some ⟨g,68+i * 14+10,none⟩)),(J2 (some ⟨g,99+i * 22+18,none⟩))]:Array Value).all (fun x=>x.oneCell')=true:=by simp[Value.oneCell']
 have q3:w1.drew.there w.heap.size 0 (#[(J2 (some ⟨g,68+i * 14+6,none⟩)),(J2 (some ⟨g,68+i * 14+10,none⟩)),(J2 (some ⟨g,99+i * 22+18,none⟩))]:Array Value).size:=(d.over (Below.refl w1.heap.size w1).drew).there 0 _ (by exact Nat.le_refl _)
 simp only[O.pp,O.pb,O.pc];refine O.z0n (i:=10) (by kernel_rfl) rfl rfl 169 _ _ rfl rfl w.heap.size 0 #[(J2 (some ⟨g,68+i * 14+6,none⟩)),(J2 (some ⟨g,68+i * 14+10,none⟩)),(J2 (some ⟨g,99+i * 22+18,none⟩))] rfl rfl q3 q1 q2 trivial ?_
 refine wpAnyH_done (by kernel_rfl) ?_ _
 have f:=(d.over (Below.refl w1.heap.size w1).drew).z0t (ds:=#[(J2 (some ⟨g,68+i * 14+6,none⟩)),(J2 (some ⟨g,68+i * 14+10,none⟩)),(J2 (some ⟨g,99+i * 22+18,none⟩))]) rfl;have b2:=z0a (Nat.le_refl _) (#[(J2 (some ⟨g,68+i * 14+6,none⟩)),(J2 (some ⟨g,68+i * 14+10,none⟩)),(J2 (some ⟨g,99+i * 22+18,none⟩))]:Array Value).toList 0 _ (b1.trans ((Below.refl w1.heap.size w1).drew.mono b1.size));have h:=J6 (show _/\_ from⟨f,b2⟩);clear f b2 q1 q2 q3;generalize w1.drew.setCells w.heap.size 0 (#[(J2 (some ⟨g,68+i * 14+6,none⟩)),(J2 (some ⟨g,68+i * 14+10,none⟩)),(J2 (some ⟨g,99+i * 22+18,none⟩))]:Array Value).toList=w2 at *;go_simp;go_wp2;exact bodyPost_ret (v:=J4 #[(J2 (some ⟨g,68+i * 14+6,none⟩)),(J2 (some ⟨g,68+i * 14+10,none⟩)),(J2 (some ⟨g,99+i * 22+18,none⟩))]) (results_cell_row results84 _ _ w.heap.size 169 #[(J2 (some ⟨g,68+i * 14+6,none⟩)),(J2 (some ⟨g,68+i * 14+10,none⟩)),(J2 (some ⟨g,99+i * 22+18,none⟩))] (0,0) _ rfl h.out.1 underlying169 rfl (by kernel_rfl)) rfl ⟨rfl,h.out.2⟩
theorem q0K(g o:Nat)(l:Ln.Line)(v1:Value)(P:Nat->Prop)(w:World)(h1:z0C P w v1 1 16 (txC l.S))(c0:w.cell? ⟨g,o,none⟩=some v1)(c2:w.cell? ⟨g,o+2,none⟩=some (J I l.g))(h0:0<=l.g) :
  Calls prog 85 #[J2 (some ⟨g,o,none⟩)] w fun e w'=>e=.returned (.string (z3x l))/\Bl w w':=by
 obtain⟨A,C,rfl,R,-⟩:=z3b h1 (z0V l.S) (by decide)
 have p:z3x l=if (l.S.length:Int)<=l.g then ByteArray.empty else l.S.getD l.g.toNat ByteArray.empty:=by unfold z3x;rfl
 generalize z3x l=D at *;have f:=J6 p;have i:=J6 R;clear p h1 R
 go_enter func85,ntmps85
 go_upto_region 1 with fail
 go_quiet (fail);simp only[Exit.then];apply_assumption;have hb:=below_drewN (Below.refl w.heap.size w) nq;have x:(w.drewN nq).cell? ⟨g,o,none⟩=some (J1 A l.S.length C):=c0;have r:(w.drewN nq).cell? ⟨g,o+2,none⟩=some (J I l.g):=c2;have a:Hid (Row (w.drewN nq) A l.S.length C 1 (txC l.S)):=⟨i.out.len,i.out.nil,i.out.at_⟩;clear c0 c2 i;generalize w.drewN nq=w1 at *;have j:=J6 hb;clear hb
 by_cases c:(l.S.length:Int)<=l.g
 ·have hd:=f.out.trans (if_pos c);have d:=J6 hd;clear hd f;have s:l.g≥(l.S.length:Int):=c;go_wp2;go_ret;rw[d.out];exact⟨rfl,j.out⟩
 ·have hd:=f.out.trans (if_neg c);obtain⟨k,t⟩:∃ k:Nat,l.g=(k:Int):=⟨l.g.toNat,by omega⟩
  rw[t]at r hd c;have m:k<l.S.length:=by omega
  rw[Int.toNat_natCast]at hd;have u:(k:Int)<(l.S.length:Int):=by omega
  have hk0:(0:Int)<=(k:Int):=by omega
  have v:∃ b off,A=some ⟨b,off,none⟩/\w1.cell? ⟨b,off+k,none⟩=some (.string (l.S.getD k ByteArray.empty)):=by
   cases A with
   | none=>have:=(a.out.nil rfl).1;omega
   | some ad =>
    have h:=a.out.at_ ad rfl k _ (z7z l.S k m);have n:=a.out.at_ ad rfl 0 _ (z7z l.S 0 (by omega))
    obtain⟨b,off,sp⟩:=ad;have q:sp=none:=by simpa [Addr.add] using World.cell?_spot n
    subst q;rw[Addr.add_lit]at h;exact⟨b,off,rfl,h⟩
  obtain⟨b,off,rfl,q⟩:=v;generalize l.S.getD k ByteArray.empty=tx at *;have d:=J6 hd;clear hd f a
  go_upto_region 3 with fail
  go_quiet (fail);go_wp2;go_ret;rw[d.out]
  first | exact⟨rfl,below_drewN j.out _⟩ | exact⟨rfl,j.out⟩
theorem q0f(s:ByteArray)(w:World)(c:s.size<=1000):Calls prog 86 #[.string s] w fun e w'=>e=.returned (.string (q1A s))/\Bl w w':=by
 have a:=J6 (Cd.z5M 3 1 0 ((s.size:Int)+1) [] [] none none 0 0 0 0 0 0 w ⟨by simp,by simp,fun h=>absurd h (by simp),fun h=>absurd h (by simp),fun i h=>absurd h (by simp),fun i h=>absurd h (by simp)⟩)
 have d:IntKind.i64.wrap ((s.size:Int)+1)=(s.size:Int)+1:=z7l (by omega) (by omega)
 unfold q1A;generalize Cd.encS 3 1 0 ((s.size:Int)+1) [] []=E at *;generalize Cd.z0s 3 1 0 ((s.size:Int)+1) [] []=N at *
 go_enter func86,ntmps86
 go_wp2_with (go_at_call 117;refine a.out.mono ?_;rintro e w1⟨rfl,b⟩)
 go_ret;exact⟨rfl,b⟩
structure j5t(P:Nat->Prop)(w0:World)(l:Ln.Line)(gn:Nat)(ts:Array Value)(w:World):Prop where
 ex:∃ u1 u2,ts=#[u1,u2,J I l.g,J3 l.cl]/\z0C (fun b=>New P w0 0 b/\b≠gn) w u1 1 16 (txC l.S)/\z0C (fun b=>New P w0 0 b/\b≠gn) w u2 1 8 (inC l.D)
 cat:CAt 48 w gn ts
 bel:Bl w0 w
 le:w0.heap.size<=gn
def Z4':Array Value:=#[J1 none 0 0,J1 none 0 0,J I 0,J3 false]
theorem z0C.sets{P:Nat->Prop}{w:World}{v:Value}{sz bts:Nat}{cs:List Value}(h:z0C P w v sz bts cs){g:Nat}(c:¬ P g)(o:Nat)(a:List Value):z0C P (w.setCells g o a) v sz bts cs:=h.keep fun b hb _=>z0M (show b≠g from fun e=>c (by rw[<- e];exact hb)) a o w
theorem z2V{P Q:Nat->Prop}{w w':World}{u1 u2:Value}{s t d e:Nat}{a b:List Value}(h1:z0C P w u1 s t a)(h2:z0C Q w' u2 d e b)(n:Int)(c:Bool):(#[u1,u2,J I n,J3 c]:Array Value).all (·.oneCell')=true:=by
 obtain⟨A,k,C,D,rfl,-⟩:=h1;obtain⟨B,m,E,F,rfl,-⟩:=h2
 simp[Value.oneCell']
theorem z6I{P:Nat->Prop}{w0 c a:World}{l:Ln.Line}{u1 u2:Value}(h1:z0C (New (fun b=>P b/\b<w0.heap.size) c 0) a u1 1 16 (txC l.S))(h2:z0C (New (fun b=>P b/\b<w0.heap.size) c 0) a u2 1 8 (inC l.D))(e:c.heap.size=w0.heap.size)(hb:Bl w0 a):j5t P w0 l a.heap.size #[u1,u2,J I l.g,J3 l.cl] ((a.alloc (J5 Z4' 48)).setCells a.heap.size 0 (#[u1,u2,J I l.g,J3 l.cl]:Array Value).toList):=by
 have d:Bl a ((a.alloc (J5 Z4' 48)).setCells a.heap.size 0 (#[u1,u2,J I l.g,J3 l.cl]:Array Value).toList):=z0a (Nat.le_refl _) _ _ _ (znw a _)
 have key:∀ b,b<a.heap.size->New (fun b=>P b/\b<w0.heap.size) c 0 b->New P w0 0 b/\b≠a.heap.size:=fun b f hp=>⟨by
  rcases hp with⟨hp,_⟩ | hp
  ·exact .inl hp
  ·exact .inr (by omega),by omega⟩
 exact⟨⟨u1,u2,rfl,(h1.mono key).over d,(h2.mono key).over d⟩,(CAt.new 48 a Z4').z0t rfl,zbt hb d,hb.size⟩
theorem z6H{P:Nat->Prop}{w0 c a:World}{l:Ln.Line}{u1 u2:Value}(h1:z0C (New (fun b=>P b/\b<w0.heap.size) c 0) a u1 1 16 (txC l.S))(h2:z0C (New (fun b=>P b/\b<w0.heap.size) c 0) a u2 1 8 (inC l.D))(d:c.heap.size=w0.heap.size+1)(hb:Bl w0 a)(hc:CAt 48 a w0.heap.size Z4'):j5t P w0 l w0.heap.size #[u1,u2,J I l.g,J3 l.cl] (a.setCells w0.heap.size 0 (#[u1,u2,J I l.g,J3 l.cl]:Array Value).toList):=by
 have key:∀ b,b<a.heap.size->New (fun b=>P b/\b<w0.heap.size) c 0 b->New P w0 0 b/\b≠w0.heap.size:=fun b f hp=>by
  rcases hp with⟨hp,_⟩ | hp
  ·exact⟨.inl hp,by omega⟩
  ·exact⟨.inr (by omega),by omega⟩
 exact⟨⟨u1,u2,rfl,z0C.sets (h1.mono key) (fun e=>e.2 rfl) _ _,z0C.sets (h2.mono key) (fun e=>e.2 rfl) _ _⟩,hc.z0t rfl,z0a (Nat.le_refl _) _ _ _ hb,Nat.le_refl _⟩
def q6x(a v:Value):Sem Unit:=Instr.storeAt 169 a v
theorem z4A(a v:Value):Instr.storeAt 169 a v=q6x a v:=rfl
theorem z9S(w1:World)(p q r:Value)(h:(#[p,q,r]:Array Value).all (·.oneCell')=true):∃ a,(q6x (J2 (some ⟨w1.heap.size,0,none⟩)) (J4 #[p,q,r])).run prog (w1.alloc (J5 #[.pointer none,.pointer none,.pointer none] 169))=.ok () a/\CAt 169 a w1.heap.size #[p,q,r]/\Bl w1 a:=by
 have R0:=CAt.new 169 w1 #[.pointer none,.pointer none,.pointer none];exact⟨_,run_storeAt_mid (P:=prog) _ _ 0 169 #[p,q,r] (R0.there 0 _ (Nat.le_refl _)) (by rw[q1K];rfl) h,R0.z0t rfl,z0a (Nat.le_refl _) _ _ _ (znw w1 _)⟩
theorem q0k(x:Wo)(v:WoV){i:Nat}(a:i<2)(l:Ln.Line)(u1 u2:Value):At (wdC x v) (99+i * 22+14) (lnL (x.c i).out (v.c i).said (v.c i).due) (lnL l u1 u2) (wdC (z3g x i true l) (v.upd i { v.c i with said:=u1,due:=u2 })):=
 (z9W x v a { x.c i with out:=l } { v.c i with said:=u1,due:=u2 }).nest (by simpa using z4Q (x.c i) (v.c i) l u1 u2)
theorem q0B(x:Wo)(v:WoV){i:Nat}(a:i<2)(l:Ln.Line)(u1 u2:Value):At (wdC x v) (68+i * 14+6) (lnL (x.p.L i).out (v.p.l i).said (v.p.l i).due) (lnL l u1 u2) (wdC (z3g x i false l) { v with p:=v.p.upd i { v.p.l i with said:=u1,due:=u2 } }):=by
 have h:=(z7P x v { x.p with L:=z1a x.p.L i { x.p.L i with out:=l } } (v.p.upd i { v.p.l i with said:=u1,due:=u2 })).nest ((q8I x.p v.p a { x.p.L i with out:=l } { v.p.l i with said:=u1,due:=u2 }).nest (q6G (x.p.L i) (v.p.l i) l u1 u2))
 rw[show 2+(66+i * 14+6)=68+i * 14+6 by omega]at h
 exact h
theorem q8c{P:Nat->Prop}{w:World}{g:Nat}{x:Wo}{v:WoV}(n:WIn P w x v)(a:¬ P g)(C0:CAt 97 w g (wdC x v)){i:Nat}(f:i<2){l:Ln.Line}{u1 u2:Value}(h1:z0C P w u1 1 16 (txC l.S))(h2:z0C P w u2 1 8 (inC l.D)):z1b P w g (z3g x i true l) (w.setCells g (99+i * 22+14) (lnL l u1 u2)):=by
 have j:Alt g w (w.setCells g (99+i * 22+14) (lnL l u1 u2)):=(Alt.refl g w).sets _ _;have h:=n.new a j 0;refine⟨_,(q0k x v f l u1 u2).sets C0,⟨h.p,fun k o=>?_⟩,j⟩
 show CIn _ _ (z3y x.c i { x.c i with out:=l } k) (if k=i then { v.c i with said:=u1,due:=u2 } else v.c k)
 unfold z3y
 by_cases e:k=i
 ·rw[if_pos e,if_pos e];have hc:=h.c i f;have m:∀ b,b<(w.setCells g (99+i * 22+14) (lnL l u1 u2)).heap.size->(P b/\b<w.heap.size)->New P w 0 b:=fun b _ hb=>.inl hb;exact⟨hc.set,hc.pd,hc.rp,(z0C.sets (h1.mono (P':=fun b=>P b/\b<w.heap.size) fun b d hp=>⟨hp,d⟩) (fun e=>a e.1) _ _).mono m,(z0C.sets (h2.mono (P':=fun b=>P b/\b<w.heap.size) fun b d hp=>⟨hp,d⟩) (fun e=>a e.1) _ _).mono m⟩
 ·rw[if_neg e,if_neg e];exact h.c k o
theorem q6M{P:Nat->Prop}{w:World}{g:Nat}{x:Wo}{v:WoV}(n:WIn P w x v)(a:¬ P g)(C0:CAt 97 w g (wdC x v)){i:Nat}(f:i<2){l:Ln.Line}{u1 u2:Value}(h1:z0C P w u1 1 16 (txC l.S))(h2:z0C P w u2 1 8 (inC l.D)):z1b P w g (z3g x i false l) (w.setCells g (68+i * 14+6) (lnL l u1 u2)):=by
 have j:Alt g w (w.setCells g (68+i * 14+6) (lnL l u1 u2)):=(Alt.refl g w).sets _ _;have h:=n.new a j 0;refine⟨_,(q0B x v f l u1 u2).sets C0,⟨⟨h.p.ws,h.p.set,fun k o=>?_,h.p.q⟩,h.c⟩,j⟩
 show z5g _ _ (z1a x.p.L i { x.p.L i with out:=l } k) (if k=i then { v.p.l i with said:=u1,due:=u2 } else v.p.l k)
 unfold z1a
 by_cases e:k=i
 ·rw[if_pos e,if_pos e];have hc:=h.p.lk i f;have m:∀ b,b<(w.setCells g (68+i * 14+6) (lnL l u1 u2)).heap.size->(P b/\b<w.heap.size)->New P w 0 b:=fun b _ hb=>.inl hb;exact⟨hc.told,hc.done,(z0C.sets (h1.mono (P':=fun b=>P b/\b<w.heap.size) fun b d hp=>⟨hp,d⟩) (fun e=>a e.1) _ _).mono m,(z0C.sets (h2.mono (P':=fun b=>P b/\b<w.heap.size) fun b d hp=>⟨hp,d⟩) (fun e=>a e.1) _ _).mono m⟩
 ·rw[if_neg e,if_neg e];exact h.p.lk k o
theorem z9m{w:World}{g:Nat}{x:Wo}{v:WoV}(h:CAt 97 w g (wdC x v)){i:Nat}(a:i<2):w.cell? ⟨g,99+i * 22+18+1,none⟩=some (J I (x.c i).h1)/\w.cell? ⟨g,99+i * 22+18+2,none⟩=some (J I (x.c i).h2)/\w.cell? ⟨g,99+i * 22+18+3,none⟩=some (J I (x.c i).h3):=by
 rw[h.cell,h.cell,h.cell]
 match i,a with
 | 0,_=>exact⟨rfl,rfl,rfl⟩
 | 1,_=>exact⟨rfl,rfl,rfl⟩
theorem z9T{w:World}{g:Nat}{x:Wo}{v:WoV}(h:CAt 97 w g (wdC x v)){i:Nat}(a:i<2):w.cell? ⟨g,68+i * 14+10+1,none⟩=some (J I (x.p.L i).h1)/\w.cell? ⟨g,68+i * 14+10+2,none⟩=some (J I (x.p.L i).h2)/\w.cell? ⟨g,68+i * 14+10+3,none⟩=some (J I (x.p.L i).h3):=by
 rw[h.cell,h.cell,h.cell]
 match i,a with
 | 0,_=>exact⟨rfl,rfl,rfl⟩
 | 1,_=>exact⟨rfl,rfl,rfl⟩
theorem z8P{w:World}{g o:Nat}{a b c d:Value}(h:w.rangeAt g o [a,b,c,d]):w.cell? ⟨g,o,none⟩=some a/\w.cell? ⟨g,o+2,none⟩=some c:=⟨by simpa using h 0 a rfl,h 2 c rfl⟩
end Wd
end Go.Proofs.YtddlhnoedldidaaGreat
