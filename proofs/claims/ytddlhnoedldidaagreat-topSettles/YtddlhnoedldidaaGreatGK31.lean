/- Parts of the proof. -/
import Derived.Test.YtddlhnoedldidaaGreatGL
import Derived.Test.YtddlhnoedldidaaGreatGK11
set_option maxRecDepth 100000
set_option maxHeartbeats 16000000
namespace Go.Proofs.YtddlhnoedldidaaGreat
open Go.Proofs.Tryz
open Value renaming int->J,slice->J1,pointer->J2,bool->J3,agg->J4
open IntKind renaming i64->I
open Obj renaming cells->J5
namespace Wd
open Go.RowKit Pv Kc
theorem j9l(l:List ByteArray):∀u∈txC l,u.oneCell'=true:=λu hu=>by
 obtain⟨x,_,rfl⟩:=List.mem_map.1 hu;rfl
theorem j1v(l:List Int):∀u∈inC l,u.oneCell'=true:=λu hu=>by
 obtain⟨x,_,rfl⟩:=List.mem_map.1 hu;rfl
attribute [local go_sem ↓] z3x z2E
theorem z9m(l:Ln.Line)(v1 v2:Value)(P:Nat->Prop)(w:World)(h1:z0U P w v1 1 16 (txC l.S))(h2:z0U P w v2 1 8 (inC l.D)) :
  Calls prog 41 #[J4 #[v1,v2,J I l.g,J3 l.cl]] w λe w'=>∃u1 u2,e=.returned (J4 #[u1,u2,J I l.g,J3 l.cl])/\z0U (λb=>w.heap.size+2<=b) w' u1 1 16 (txC l.S)/\z0U (λb=>w.heap.size+2<=b) w' u2 1 8 (inC l.D)/\Bl w w':=by
 obtain⟨q,r,rfl,R1,j⟩:=z5B h1 (z2a l.S) (by decide)
 obtain⟨s,t,rfl,x,y⟩:=z5B h2 (z0s l.D) (by decide)
 have HT:=J6 (λ(z:World) (hb:Bl w z)=>q5D q l.S.length r (txC l.S) z (by obtain⟨B,D,e,R,-⟩:=z5B (h1.over hb) (z2a l.S) (by decide);cases e;exact R) (j9l _) j)
 have HI:=J6 (λ(z:World) (hb:Bl w z)=>z6R s l.D.length t (inC l.D) z (by obtain⟨B,D,e,R,-⟩:=z5B (h2.over hb) (z0s l.D) (by decide);cases e;exact R) (j1v _) y)
 clear h1 h2 R1 x j y;generalize l.g=lg at *;generalize l.cl=lc at *;have L:=(CAt.new 48 w #[J1 q l.S.length r,J1 s l.D.length t,J I lg,J3 lc]).alloc (J5 Z4' 48);have R0:=CAt.new2 48 w (J5 #[J1 q l.S.length r,J1 s l.D.length t,J I lg,J3 lc] 48) Z4';have b0:Bl w ((w.alloc (J5 #[J1 q l.S.length r,J1 s l.D.length t,J I lg,J3 lc] 48)).alloc (J5 Z4' 48)):=(znw w _).alloc (by simp) _
 go_enter func41,ntmps41
 go_upto_region 1 with fail
 change Code.wp prog _ _ _ ((w.alloc (J5 #[J1 q l.S.length r,J1 s l.D.length t,J I lg,J3 lc] 48)).alloc (J5 Z4' 48));generalize (w.alloc (J5 #[J1 q l.S.length r,J1 s l.D.length t,J I lg,J3 lc] 48)).alloc (J5 Z4' 48)=w0 at *;have a0:w0.cell? ⟨w.heap.size,0,none⟩=some (J1 q l.S.length r):=L.cell 0;have k:=J6 (show _/\_/\_ from⟨L,R0,b0⟩);have M:=R0.lt;clear L R0 b0
 go_upto_region 2 with(go_at_call 66;refine(HT.out _ k.out.2.2).mono ?_;rintro e w1⟨f,i,rfl,W,j⟩;have A:=k.out.1.over j;have f1:=A.free 0;have y1:w1.cell? ⟨w.heap.size,0,none⟩=some (J1 q l.S.length r):=A.cell 0;have a1:=A.lt;have n:=J6 (show _/\_ from⟨W,j⟩);clear a0 W j)
 have N:=A.set 0 (J1 f l.S.length i);have x:=((k.out.2.1.over n.out.2).other (c:=w.heap.size) (o:=0) (by omega) (J1 f l.S.length i))
 have C:=zbt k.out.2.2 n.out.2;have b2:=C.setCell (p:=⟨w.heap.size,0,none⟩) (Nat.le_refl _) (J1 f l.S.length i);have Q:=n.out.1.sets (g:=w.heap.size) (λh=>by omega) 0 [J1 f l.S.length i]
 change Rep _ (w1.setCell ⟨w.heap.size,0,none⟩ (J1 f l.S.length i)) _ _ _ _ at Q;clear y1 f1 A k;generalize w1.setCell ⟨w.heap.size,0,none⟩ (J1 f l.S.length i)=w2 at *;have a2:w2.cell? ⟨w.heap.size,1,none⟩=some (J1 s l.D.length t):=N.cell 1;have k:=J6 (show _/\_/\_/\_ from⟨N,x,b2,Q⟩);have T:=x.lt;have a3:w.heap.size+2<=w0.heap.size:=M;clear N x b2 Q C n
 go_upto_region 3 with(go_at_call 40;refine(HI.out _ k.out.2.2.1).mono ?_;rintro e G⟨a,d,rfl,X,u⟩;have E:=k.out.1.over u;have f3:=E.free 1;have y3:G.cell? ⟨w.heap.size,1,none⟩=some (J1 s l.D.length t):=E.cell 1;have a4:=E.lt;have m:=J6 (show _/\_ from⟨X,u⟩);clear a2 X u)
 have Y:=E.set 1 (J1 a l.D.length d);have H:=((k.out.2.1.over m.out.2).other (c:=w.heap.size) (o:=1) (by omega) (J1 a l.D.length d))
 have Z:=(zbt k.out.2.2.1 m.out.2).setCell (p:=⟨w.heap.size,1,none⟩) (Nat.le_refl _) (J1 a l.D.length d);have U:=m.out.1.sets (g:=w.heap.size) (λh=>by omega) 1 [J1 a l.D.length d]
 have V:=((k.out.2.2.2.over m.out.2).sets (g:=w.heap.size) (λh=>by omega) 1 [J1 a l.D.length d])
 change Rep _ (G.setCell ⟨w.heap.size,1,none⟩ (J1 a l.D.length d)) _ _ _ _ at U;change Rep _ (G.setCell ⟨w.heap.size,1,none⟩ (J1 a l.D.length d)) _ _ _ _ at V;clear y3 f3 E;generalize G.setCell ⟨w.heap.size,1,none⟩ (J1 a l.D.length d)=w4 at *;have a5:=H.lt;have s0:w.heap.size+2<=w2.heap.size:=T;have F:CAt 48 w4 w.heap.size #[J1 f l.S.length i,J1 a l.D.length d,J I lg,J3 lc]:=Y;have l4:=z8j F.range rfl;have s4:=q3t (w:=w4) (g:=w.heap.size+1) (o:=0) (cs:=[J1 f l.S.length i,J1 a l.D.length d,J I lg,J3 lc]) (H.there 0 _ (Nat.le_refl _)) rfl (by simp[Value.oneCell'])
 have R5:CAt 48 (w4.setCells (w.heap.size+1) 0 [J1 f l.S.length i,J1 a l.D.length d,J I lg,J3 lc]) (w.heap.size+1) #[J1 f l.S.length i,J1 a l.D.length d,J I lg,J3 lc]:=H.z0L (ds:=#[J1 f l.S.length i,J1 a l.D.length d,J I lg,J3 lc]) rfl;have b5:=z0b (b:=w.heap.size+1) (Nat.le_succ _) [J1 f l.S.length i,J1 a l.D.length d,J I lg,J3 lc] 0 _ Z;have U5:=U.sets (g:=w.heap.size+1) (λh=>by omega) 0 [J1 f l.S.length i,J1 a l.D.length d,J I lg,J3 lc]
 have V5:=V.sets (g:=w.heap.size+1) (λh=>by omega) 0 [J1 f l.S.length i,J1 a l.D.length d,J I lg,J3 lc]
 have K:=J6 (show _/\_/\_/\_ from⟨R5,b5,(U5.mono (P':=λb=>w.heap.size+2<=b) λb _ hb=>by omega).c,(V5.mono (P':=λb=>w.heap.size+2<=b) λb _ hb=>by omega).c⟩)
 change (z3i (J2 (some ⟨w.heap.size,0,none⟩))).run prog w4=.ok (J4 #[J1 f l.S.length i,J1 a l.D.length d,J I lg,J3 lc]) w4 at l4;change (z3Q (J2 (some ⟨w.heap.size+1,0,none⟩)) (J4 #[J1 f l.S.length i,J1 a l.D.length d,J I lg,J3 lc])).run prog w4=_ at s4;generalize w4.setCells (w.heap.size+1) 0 [J1 f l.S.length i,J1 a l.D.length d,J I lg,J3 lc]=w5 at *;clear Y F H Z U V R5 b5 U5 V5 k m;go_wp2;exact bodyPost_ret (v:=J4 #[J1 f l.S.length i,J1 a l.D.length d,J I lg,J3 lc]) (results_cell_row results41 _ _ (w.heap.size+1) 48 _ (0,0) _ rfl K.out.1 underlying48 rfl (by kernel_rfl)) rfl ⟨_,_,rfl,K.out.2.2.2,K.out.2.2.1,K.out.2.1⟩
theorem z8m(g o:Nat)(ty:TypeId)(cs:Array Value)(S:List (Int×Int))(c:List Int)(v1 v2:Value)(P:Nat->Prop)(w:World)(m:CAt ty w g cs)(G:cs[o+4]?=some v1)(t:cs[o+5]?=some v2)(h1:Rep P w v1 2 16 (pwC S))(h2:Rep P w v2 1 8 (inC c))(V:¬ P g) :
  Calls prog 43 #[J2 (some ⟨g,o,none⟩)] w λe w'=>∃u1 u2,e=.returned (.tuple #[])/\CAt ty w' g ((cs.setIfInBounds (o+4) u1).setIfInBounds (o+5) u2)/\Rep (λb=>w.heap.size<=b) w' u1 2 16 (pwC S)/\Rep (λb=>w.heap.size<=b) w' u2 1 8 (inC c)/\Alt g w w':=by
 obtain⟨u,v,rfl,H,a⟩:=row_of h1 (z0c S) (by decide)
 obtain⟨x,y,rfl,W,j⟩:=row_of h2 (z0s c) (by decide)
 have X:=J6 (z4U u S.length v (pwC S) w H (z6U _) a);have Y:=J6 (λ(K:World) (L:Alt g w K)=>z6R x c.length y (inC c) K (by obtain⟨B,D,e,R,-⟩:=row_of (L.rep V h2) (z0s c) (by decide);cases e;exact R) (j1v _) j)
 have z:=m.lt;have M:w.cell? ⟨g,o+4,none⟩=some (J1 u S.length v):=(m.cell _).trans G;have Z:=J6 m;have h5:o+5<cs.size:=(Array.getElem?_eq_some_iff.1 t).1;have H5:=J6 t;clear h1 h2 H W a j m G t
 go_enter func43,ntmps43
 go_upto_region 1 with(go_at_call 39;refine X.out.mono ?_;rintro e w1⟨n,q,rfl,N,a⟩;have r:=Z.out.over a;have f1:=r.free (o+4);have y1:w1.cell? ⟨g,o+4,none⟩=some (J1 u S.length v):=(by have:=a.cell (p:=⟨g,o+4,none⟩) z;rw[this];exact M);have a0:=r.lt;have f:=J6 (show _/\_ from⟨N,a⟩);clear N a)
 have s:=r.set (o+4) (J1 n S.length q);have k:Alt g w (w1.setCell ⟨g,o+4,none⟩ (J1 n S.length q)):=(Alt.of (g:=g) f.out.2).set _ _;have Q:=((Alt.refl g w1).set (o+4) (J1 n S.length q)).rep (P:=λb=>w.heap.size<=b) (λh=>by omega) f.out.1
 clear y1 f1 M r;generalize w1.setCell ⟨g,o+4,none⟩ (J1 n S.length q)=w2 at *;have a5:w2.cell? ⟨g,o+5,none⟩=some (J1 x c.length y):=by rw[s.cell,Array.getElem?_setIfInBounds_ne (by omega)];exact H5.out
 have A:=s.lt;have l:=J6 (show _/\_/\_ from⟨s,k,Q⟩);clear s k Q f
 go_wp2_with (go_at_call 40;refine(Y.out _ l.out.2.1).mono ?_;rintro e T⟨C,E,rfl,U,d⟩;have F:=l.out.1.over d;have f3:=F.free (o+5);have y3:T.cell? ⟨g,o+5,none⟩=some (J1 x c.length y):=(by have:=d.cell (p:=⟨g,o+5,none⟩) A;rw[this];exact a5);have a1:=F.lt;have i:=J6 (show _/\_ from⟨U,d⟩);clear U d)
 go_end0;have L:=l.out.2.1.size;refine⟨_,_,rfl,F.set (o+5) (J1 C c.length E),?_,?_,l.out.2.1.trans ((Alt.of (g:=g) i.out.2).set _ _)⟩
 ·exact((Alt.of (g:=g) i.out.2).set (o+5) (J1 C c.length E)).rep (P:=λb=>w.heap.size<=b) (λh=>by omega) l.out.2.2
 ·exact(((Alt.refl g T).set (o+5) (J1 C c.length E)).rep (P:=λb=>w2.heap.size<=b) (λh=>by omega) i.out.1).mono λb _ hb=>by omega
end Wd
namespace Wd
open Go.RowKit Pv Kc
theorem q5O(A:Option Addr)(n C:Nat)(cs:List Value)(w:World)(h:Row w A n C 7 cs)(h1:∀u∈cs,u.oneCell'=true)(hb:n*88<=140737488351232) :
  Calls prog 42 #[J1 A n C] w λe w'=>∃A' C',e=.returned (J1 A' n C')/\w'.ownsRow w.heap.size 70 7 (J1 A' n C') n cs/\Bl w w':=by
 cases A with
 | none =>
  obtain⟨rfl,rfl⟩:=h.nil rfl;obtain rfl:cs=[]:=List.length_eq_zero_iff.1 (by rw[h.len])
  have c:=λw=>j4U w none 0 0;clear h h1
  go_enter func42,ntmps42
  go_wp2;go_ret;exact⟨_,_,rfl,World.ownsRow_nil _ _ _ _,Below.refl _ _⟩
 | some a =>
  have c:=λw=>j4U w (some a) n C;have d:=J6 h;have b:=J6 h1;clear h h1
  go_enter func42,ntmps42
  go_upto_region 3 with fail
  apply wp_region_lit
  iterate 6 go_step
  refine q6m rfl rfl _ _ rfl a n C cs rfl rfl d.out b.out hb ?_;rintro A' C' w'⟨h1,h2⟩;have b:=J6 h1;have f:=J6 h2;clear h1 h2;go_wp2;go_ret;exact⟨_,_,rfl,b.out,f.out⟩
theorem q6M(A:Option Addr)(n C:Nat)(cs:List Value)(w:World)(h:Row w A n C 6 cs)(h1:∀u∈cs,u.oneCell'=true)(hb:n*80<=140737488351232) :
  Calls prog 44 #[J1 A n C] w λe w'=>∃A' C',e=.returned (J1 A' n C')/\w'.ownsRow w.heap.size 68 6 (J1 A' n C') n cs/\Bl w w':=by
 cases A with
 | none =>
  obtain⟨rfl,rfl⟩:=h.nil rfl;obtain rfl:cs=[]:=List.length_eq_zero_iff.1 (by rw[h.len])
  have c:=λw=>j4K w none 0 0;clear h h1
  go_enter func44,ntmps44
  go_wp2;go_ret;exact⟨_,_,rfl,World.ownsRow_nil _ _ _ _,Below.refl _ _⟩
 | some a =>
  have c:=λw=>j4K w (some a) n C;have d:=J6 h;have b:=J6 h1;clear h h1
  go_enter func44,ntmps44
  go_upto_region 3 with fail
  apply wp_region_lit
  iterate 6 go_step
  refine q5p rfl rfl _ _ rfl a n C cs rfl rfl d.out b.out hb ?_;rintro A' C' w'⟨h1,h2⟩;have b:=J6 h1;have f:=J6 h2;clear h1 h2;go_wp2;go_ret;exact⟨_,_,rfl,b.out,f.out⟩
theorem z9Y{w:World}{base n C size:Nat}{e:TypeId}{A:Option Addr}{b:List Value}(h:w.ownsRow base e size (J1 A n C) n b)(h0:0<n):∃g a,A=some ⟨g,0,none⟩/\base<=g/\CAt e w g a/\n<=C/\C<=maxLen/\a.size=C*size/\a.toList.take (n*size)=b:=by
 rcases h.2 with⟨_,hn⟩|⟨g,cap,a,hv,h1,h2,h3,h4,h5,h6⟩
 ·omega
 ·cases hv;exact⟨g,a,rfl,h1,h2,h3,h4,h5,h6⟩
theorem q4o{w':World}{base n C size g:Nat}{e:TypeId}{a:Array Value}{b:List Value}(f:b.length=n*size)(hb:base<=g)(h:n<=C)(i:C<=maxLen)(hs:a.size=C*size)(j:a.toList.take (n*size)=b)(c d:Nat)(u1 u2:Value)(hc:CAt e w' g ((a.setIfInBounds c u1).setIfInBounds d u2)):w'.ownsRow base e size (J1 (some ⟨g,0,none⟩) n C) n ((b.set c u1).set d u2):=by
 refine⟨by simpa using f,.inr ⟨g,C,_,rfl,hb,hc,h,i,by simpa using hs,?_⟩⟩
 rw[<-j]
 simp[List.take_set]
theorem z7E{n size k:Nat}{a:Array Value}{b:List Value}(c:a.toList.take (n*size)=b){u:Value}(h:b[k]?=some u):a[k]?=some u:=by
 rw[<-c,List.getElem?_take]at h
 split at h
 ·simpa using h
 ·cases h
theorem q4s:∀(q:List Pkt) (z:List (Value×Value)) (k:Nat) (u1 u2:Value),z.length=q.length->k<q.length->((pdL q z).set (k*6+4) u1).set (k*6+5) u2=pdL q (z.set k (u1,u2))
 | x :: q,y :: z,0,u1,u2,_,_=>by
  show((pkL x y++pdL q z).set (0*6+4) u1).set (0*6+5) u2=pkL x (u1,u2)++pdL q z
  rfl
 | x :: q,y :: z,k+1,u1,u2,h,hk=>by
  have a:=q4s q z k u1 u2 (by simpa using h) (by simpa using hk)
  show((pkL x y++pdL q z).set ((k+1)*6+4) u1).set ((k+1)*6+5) u2=pkL x y++pdL q (z.set k (u1,u2))
  rw[<-a,List.set_append_right _ _ (by show 6<=_;omega),List.set_append_right _ _ (by show 6<=_;omega)]
  show pkL x y++((pdL q z).set ((k+1)*6+4 - 6) u1).set ((k+1)*6+5 - 6) u2=_
  rw[show(k+1)*6+4 - 6=k*6+4 by omega,show(k+1)*6+5 - 6=k*6+5 by omega]
 | [],_,_,_,_,_,hk=>by simp at hk
 | _ :: _,[],_,_,_,h,_=>by simp at h
theorem q4a:∀(q:List (Int×Pkt)) (z:List (Value×Value)) (k:Nat) (u1 u2:Value),z.length=q.length->k<q.length->((quL q z).set (k*7+1+4) u1).set (k*7+1+5) u2=quL q (z.set k (u1,u2))
 | x :: q,y :: z,0,u1,u2,_,_=>by
  show((akL x y++quL q z).set (0*7+1+4) u1).set (0*7+1+5) u2=akL x (u1,u2)++quL q z
  rfl
 | x :: q,y :: z,k+1,u1,u2,h,hk=>by
  have a:=q4a q z k u1 u2 (by simpa using h) (by simpa using hk)
  show((akL x y++quL q z).set ((k+1)*7+1+4) u1).set ((k+1)*7+1+5) u2=akL x y++quL q (z.set k (u1,u2))
  rw[<-a,List.set_append_right _ _ (by show 7<=_;omega),List.set_append_right _ _ (by show 7<=_;omega)]
  show akL x y++((quL q z).set ((k+1)*7+1+4 - 7) u1).set ((k+1)*7+1+5 - 7) u2=_
  rw[show(k+1)*7+1+4 - 7=k*7+1+4 by omega,show(k+1)*7+1+5 - 7=k*7+1+5 by omega]
 | [],_,_,_,_,_,hk=>by simp at hk
 | _ :: _,[],_,_,_,h,_=>by simp at h
structure z8W(P:Nat->Prop)(B g:Nat)(w:World)(q:List Pkt)(z:List (Value×Value))(k:Nat):Prop where
 len:z.length=q.length
 new:∀(i:Nat) (x:Pkt) (y:Value×Value),i<k->q[i]?=some x->z[i]?=some y->Rep (λb=>B<=b/\b≠g) w y.1 2 16 (pwC x.S)/\Rep (λb=>B<=b/\b≠g) w y.2 1 8 (inC x.D)
 old:∀(i:Nat) (x:Pkt) (y:Value×Value),k<=i->q[i]?=some x->z[i]?=some y->Rep P w y.1 2 16 (pwC x.S)/\Rep P w y.2 1 8 (inC x.D)
theorem z8W.keep{P:Nat->Prop}{B g:Nat}{w w':World}{q:List Pkt}{z:List (Value×Value)}{k:Nat}(h:z8W P B g w q z k)(f:∀b,b<w.heap.size->(P b∨(B<=b/\b≠g))->w'.heap[b]?=w.heap[b]?):z8W P B g w' q z k:=
 ⟨h.len,λi x y c d e=>⟨(h.new i x y c d e).1.keep λb hb a=>f b a (.inr hb),(h.new i x y c d e).2.keep λb hb a=>f b a (.inr hb)⟩,λi x y c d e=>⟨(h.old i x y c d e).1.keep λb hb a=>f b a (.inl hb),(h.old i x y c d e).2.keep λb hb a=>f b a (.inl hb)⟩⟩
theorem z8W.step{P:Nat->Prop}{B g:Nat}{w w':World}{q:List Pkt}{z:List (Value×Value)}{k:Nat}(h:z8W P B g w q z k){x:Pkt}(c:q[k]?=some x){u1 u2:Value}(h1:Rep (λb=>w.heap.size<=b) w' u1 2 16 (pwC x.S))(h2:Rep (λb=>w.heap.size<=b) w' u2 1 8 (inC x.D))(n:B<=w.heap.size)(o:g<w.heap.size)(d:Alt g w w')(f:¬ P g):z8W P B g w' q (z.set k (u1,u2)) (k+1):=by
 have h':=h.keep (w':=w') λb j hb=>d.block b j λe=>by
  rcases hb with hb|hb
  ·exact f (e ▸ hb)
  ·exact hb.2 e
 refine⟨by rw[List.length_set];exact h.len,λi y p l a hp=>?_,λi y p l a hp=>?_⟩
 ·by_cases e:i=k
  ·subst e;rw[c]at a;cases a;have m:i<z.length:=by have:=(List.getElem?_eq_some_iff.1 c).1;have:=h.len;omega
   rw[List.getElem?_set_self m]at hp;cases hp;exact⟨h1.mono λb _ hb=>⟨by omega,by omega⟩,h2.mono λb _ hb=>⟨by omega,by omega⟩⟩
  ·rw[List.getElem?_set_ne (by omega)]at hp
   exact h'.new i y p (by omega) a hp
 ·rw[List.getElem?_set_ne (by omega)]at hp
  exact h'.old i y p (by omega) a hp
end Wd
namespace Wd
open Go.RowKit Pv Kc
theorem j4E{P:Nat->Prop}{w:World}:∀(q:List Pkt) (z:List (Value×Value)),(∀(i:Nat) (x:Pkt) (y:Value×Value),q[i]?=some x->z[i]?=some y->Rep P w y.1 2 16 (pwC x.S)/\Rep P w y.2 1 8 (inC x.D))->∀u∈pdL q z,u.oneCell'=true
 | [],_,_,u,hu=>by cases hu
 | _ :: _,[],_,u,hu=>by cases hu
 | x :: q,y :: z,h,u,hu=>by
  rcases List.mem_append.1 hu with h1|h1
  ·obtain⟨a,b⟩:=h 0 x y rfl rfl;have g:=z3w a;have j:=z3w b;simp only[pkL,List.mem_cons,List.not_mem_nil,or_false]at h1
   rcases h1 with rfl|rfl|rfl|rfl|rfl|rfl <;> first|rfl|assumption
  ·exact j4E q z (λi c d e f=>h (i+1) c d (by simpa using e) (by simpa using f)) u h1
theorem j4c{P:Nat->Prop}{w:World}{v:Value}{sz a b:Nat}{cs:List Value}(h:Rep P w v sz a cs)(c:b<=a):Rep P w v sz b cs:=by
 obtain⟨A,n,C,h1,h2,h3,d⟩:=h;exact⟨A,n,C,h1,h2,Nat.le_trans (Nat.mul_le_mul_left _ c) h3,d⟩
structure PdR(w:World)(c:Cs)(v:CsV)(P:Nat->Prop)(A:Option Addr)(C:Nat)(k:Nat)(wl:World):Prop where
 half:∃v' z,v'={ v with set:=v'.set,pd:=J1 A c.pd.length C}/\(∃X n D,v'.set=J1 X n D)/\CAt 75 wl w.heap.size (csC c v')/\wl.ownsRow (w.heap.size+2) 68 6 (J1 A c.pd.length C) c.pd.length (pdL c.pd z)/\(∀g,A=some ⟨g,0,none⟩->z8W (λb=>P b/\b<w.heap.size) (w.heap.size+2) g wl c.pd z k/\Rep (λb=>w.heap.size+2<=b/\b≠g) wl v'.set 2 16 (pwC c.set))/\Rep (λb=>w.heap.size+2<=b) wl v'.set 2 16 (pwC c.set)
 res:CAt 75 wl (w.heap.size+1) Z22
 bel:Bl w wl
structure q1H(w:World)(c:Cs)(v:CsV)(wl:World):Prop where
 cat:CAt 75 wl w.heap.size (csC c v)
 res:CAt 75 wl (w.heap.size+1) Z22
 bel:Bl w wl
theorem q1H.over{w wl w':World}{c:Cs}{v:CsV}(h:q1H w c v wl)(hb:Bl wl w'):q1H w c v w':=⟨h.cat.over hb,h.res.over hb,zbt h.bel hb⟩
theorem q1H.set{w wl:World}{c:Cs}{v v':CsV}(h:q1H w c v wl)(o:Nat)(x:Value)(e:(csC c v).setIfInBounds o x=csC c v'):q1H w c v' (wl.setCell ⟨w.heap.size,o,none⟩ x):=by
 have k:=h.cat.set o x;rw[e]at k;exact⟨k,h.res.other (by omega) x,h.bel.setCell (p:=⟨w.heap.size,o,none⟩) (Nat.le_refl _) x⟩
attribute [local go_sem ↓] z2f z1J z3x z2E
theorem q6a(c:Cs)(v:CsV)(P:Nat->Prop)(w:World)(hp:CIn P w c v)(c9:c.pd.length*80<=140737488351232)(d0:c.rp.length*16<=140737488351232) :
  Calls prog 27 #[J4 (csC c v)] w λe w'=>∃v',e=.returned (J4 (csC c v'))/\CIn (λb=>w.heap.size+2<=b) w' c v'/\Bl w w':=by
 have hp':CIn (λb=>P b/\b<w.heap.size) w c v:=hp.mono λb hl hb=>⟨hb,hl⟩;obtain⟨z,hz,V,E⟩:=id hp'.pd;obtain⟨A1,C1,e1,-,-⟩:=row_of hp'.set (z0c c.set) (by decide)
 obtain⟨A2,C2,e2,-,-⟩:=row_of V (z2D c.pd z hz) (by decide)
 obtain⟨A3,C3,e3,-,-⟩:=row_of hp'.rp (z0c c.rp) (by decide)
 have HS:=J6 (λ(n:World) (hb:Bl w n)=>z4U A1 c.set.length C1 (pwC c.set) n (by obtain⟨B,D,e,R,-⟩:=row_of (hp'.set.over hb) (z0c c.set) (by decide);rw[e1]at e;cases e;exact R) (z6U _) (by obtain⟨_,_,_,_,h⟩:=row_of hp'.set (z0c c.set) (by decide);exact h))
 have HK:=J6 (λ(n:World) (hb:Bl w n)=>q6M A2 c.pd.length C2 (pdL c.pd z) n (by obtain⟨B,D,e,R,-⟩:=row_of (V.over hb) (z2D c.pd z hz) (by decide);rw[e2]at e;cases e;exact R) (j4E c.pd z E) c9)
 have HR:=J6 (λ(n:World) (hb:Bl w n)=>q5y A3 c.rp.length C3 (pwC c.rp) n (by obtain⟨B,D,e,R,-⟩:=row_of (hp'.rp.over hb) (z0c c.rp) (by decide);rw[e3]at e;cases e;exact R) (z6U _) d0)
 have HL:=J6 (λ(n:World) (hb:Bl w n)=>z9m c.out v.said v.due _ n (hp'.said.over hb) (hp'.due.over hb));have b5:Hid (∀g n,w.heap.size<=g->Bl w n->z8W (λb=>P b/\b<w.heap.size) (w.heap.size+2) g n c.pd z 0):=λg n W hb=>⟨hz,λi x y hi=>by omega,λi x y _ j u=>⟨(E i x y j u).1.over hb,(E i x y j u).2.over hb⟩⟩
 have K0:q1H w c v ((w.alloc (J5 (csC c v) 75)).alloc (J5 Z22 75)):=⟨(CAt.new _ w _).alloc _,CAt.new2 _ w _ _,(znw w _).alloc (by simp) _⟩
 clear hp hp' V E
 go_enter func27,ntmps27
 go_upto_region 1 with fail
 change Code.wp prog _ _ _ ((w.alloc (J5 (csC c v) 75)).alloc (J5 Z22 75));generalize (w.alloc (J5 (csC c v) 75)).alloc (J5 Z22 75)=w0 at *;have a5:w0.cell? ⟨w.heap.size,5,none⟩=some (J1 A1 c.set.length C1):=by rw[<-e1];exact K0.cat.cell 5
 have Y:=J6 K0;have d9:w.heap.size+2<=w0.heap.size:=K0.res.lt;clear K0
 go_upto_region 2 with(go_at_call 39;refine(HS.out _ Y.out.bel).mono ?_;rintro e w1⟨B1,D1,rfl,U1,Z⟩;have K1:=Y.out.over Z;have f1:=K1.cat.free 5;have y1:w1.cell? ⟨w.heap.size,5,none⟩=some v.set:=K1.cat.cell 5;have e6:=K1.cat.lt;have a0:=J6 (show _/\_ from⟨U1,Z.size⟩);clear a5 U1 Z)
 have K2:=K1.set 5 (J1 B1 c.set.length D1) (v':={ v with set:=J1 B1 c.set.length D1}) rfl
 have U2:=((Alt.refl w.heap.size w1).set 5 (J1 B1 c.set.length D1)).rep (P:=λb=>w0.heap.size<=b) (λh=>by omega) a0.out.1
 have e7:=a0.out.2;clear y1 f1 K1 a0 Y;generalize w1.setCell ⟨w.heap.size,5,none⟩ (J1 B1 c.set.length D1)=w2 at *;have HE:=J6 (show _/\_/\_ from⟨e1,e2,e3⟩);have a6:w2.cell? ⟨w.heap.size,6,none⟩=some (J1 A2 c.pd.length C2):=by rw[<-e2];exact K2.cat.cell 6
 have F:=J6 (show _/\_ from⟨K2,U2⟩);have e8:w.heap.size+2<=w2.heap.size:=K2.res.lt;clear K2 U2 e1 e2 e3
 go_upto_region 3 with(go_at_call 44;refine(HK.out _ F.out.1.bel).mono ?_;rintro e w3⟨d,a,rfl,U3,a3⟩;have K3:=F.out.1.over a3;have f3:=K3.cat.free 6;have y3:w3.cell? ⟨w.heap.size,6,none⟩=some v.pd:=K3.cat.cell 6;have e9:=K3.cat.lt;have p:=J6 (show _/\_ from⟨U3,a3⟩);clear a6 U3 a3)
 have K4:=K3.set 6 (J1 d c.pd.length a) (v':={ v with set:=J1 B1 c.set.length D1,pd:=J1 d c.pd.length a}) rfl
 have A4:Alt w.heap.size w3 (w3.setCell ⟨w.heap.size,6,none⟩ (J1 d c.pd.length a)):=(Alt.refl _ _).set 6 _;have V4:=A4.rep (P:=λb=>w0.heap.size<=b/\b<w2.heap.size) (λh=>by omega) ((F.out.2.mono (P':=λb=>w0.heap.size<=b/\b<w2.heap.size) λb hl hb=>⟨hb,hl⟩).over p.out.2)
 have C:(w3.setCell ⟨w.heap.size,6,none⟩ (J1 d c.pd.length a)).ownsRow (w.heap.size+2) 68 6 (J1 d c.pd.length a) c.pd.length (pdL c.pd z):=z4u (z1v p.out.1 λk hk=>A4.block k (World.ownsRow.lt p.out.1 k hk).2 (by have:=(World.ownsRow.lt p.out.1 k hk).1;omega)) (by omega)
 have a4:∀g,d=some ⟨g,0,none⟩->w2.heap.size<=g:=λg W=>(World.ownsRow.lt p.out.1 g (by rw[W];rfl)).1
 have b6:Hid (PdR w c v P d a 0 (w3.setCell ⟨w.heap.size,6,none⟩ (J1 d c.pd.length a))):=⟨⟨_,z,rfl,⟨_,_,_,rfl⟩,K4.cat,C,λg W=>⟨b5.out g _ (by have:=a4 g W;omega) K4.bel,V4.mono λb _ hb=>⟨by omega,by have:=a4 g W;omega⟩⟩,V4.mono λb _ hb=>by omega⟩,K4.res,K4.bel⟩
 have a6:(w3.setCell ⟨w.heap.size,6,none⟩ (J1 d c.pd.length a)).cell? ⟨w.heap.size,6,none⟩=some (J1 d c.pd.length a):=K4.cat.cell 6;have f4:=K4.cat.lt;clear y3 f3 K3 K4 A4 V4 C a4 p F b5 HS HK;generalize w3.setCell ⟨w.heap.size,6,none⟩ (J1 d c.pd.length a)=w4 at *
 go_upto_region 4 with fail
 go_loopw [15] (λi wl=>∃(k:Nat),k<=c.pd.length/\i=.int .i64 (k:Int)/\Hid (PdR w c v P d a k wl)) (λi _=>c.pd.length - (intOf i).toNat)
 case atStart=>exact⟨0,Nat.zero_le _,rfl,b6⟩
 case round =>
  obtain⟨k,hk,rfl,f⟩:=hrel;clear b6 a6;obtain⟨v',Q,G,b7,H,C,K,hV⟩:=f.out.half
  by_cases T:k<c.pd.length
  ·obtain⟨U,a7,rfl,d1,Cq,d2,d3,c4,L⟩:=z9Y C (by omega)
   obtain⟨M,a8⟩:=K U rfl;have j:c.pd[k]?=some c.pd[k]:=List.getElem?_eq_getElem T;have d4:k<Q.length:=by have:=M.len;omega
   have u:Q[k]?=some Q[k]:=List.getElem?_eq_getElem d4;generalize c.pd[k]=xk at j;generalize Q[k]=yk at u;have e4:=z7E L ((z8v c.pd Q k xk yk 4 j u (by omega)).trans rfl)
   have e5:=z7E L ((z8v c.pd Q k xk yk 5 j u (by omega)).trans rfl)
   obtain⟨o1,o2⟩:=M.old k xk yk (Nat.le_refl _) j u;have d5:=Cq.lt;have d6:=J6 (z8m U (k*6) 68 a7 xk.S xk.D yk.1 yk.2 _ wr Cq e4 e5 o1 o2 (λh=>by omega))
   have x6:wr.cell? ⟨w.heap.size,6,none⟩=some (J1 (some ⟨U,0,none⟩) c.pd.length a):=by rw[G]at H;exact H.cell 6
   have d7:=H.lt;have f6:(k:Int)<(c.pd.length:Int):=by omega
   have HN:Hid (∀u1 u2 w5,CAt 68 w5 U ((a7.setIfInBounds (k*6+4) u1).setIfInBounds (k*6+5) u2)->Rep (λb=>wr.heap.size<=b) w5 u1 2 16 (pwC xk.S)->Rep (λb=>wr.heap.size<=b) w5 u2 1 8 (inC xk.D)->Alt U wr w5->PdR w c v P (some ⟨U,0,none⟩) a (k+1) w5):=λu1 u2 w5 hc h1 h2 ha=>by
    have d8:w.heap.size+2<=wr.heap.size:=f.out.res.lt;have O5:=q4o (base:=w.heap.size+2) C.1 d1 d2 d3 c4 L (k*6+4) (k*6+5) u1 u2 hc;rw[q4s c.pd Q k u1 u2 M.len T]at O5;refine⟨⟨v',_,G,b7,ha.cat (by omega) H,O5,λg W=>?_,?_⟩,ha.cat (by omega) f.out.res,f.out.bel.trans (ha.below (by omega) f.out.bel.size)⟩
    ·cases W;exact⟨M.step j h1 h2 d8 d5 ha (λh=>by omega),ha.rep (λh=>h.2 rfl) a8⟩
    ·exact(ha.rep (λh=>h.2 rfl) a8).mono λb _ hb=>hb.1
   clear C K hV H Cq M a8 j u e4 e5 o1 o2 L c4
   go_wp2_with (go_at_call 43;refine d6.out.mono ?_;rintro e w5⟨u1,u2,rfl,c5,c6,c7,c8⟩;have HM:=J6 (HN.out u1 u2 w5 c5 c6 c7 c8);clear c5 c6 c7 c8)
   exact⟨⟨k+1,by omega,by go_num,HM⟩,by simp[intOf];omega⟩
  ·obtain rfl:k=c.pd.length:=by omega
   have KR:z7Z (λb=>w.heap.size+2<=b) wr (J1 d c.pd.length a) c.pd:=by
    by_cases h0:0<c.pd.length
    ·obtain⟨U,a7,rfl,-⟩:=z9Y C h0;obtain⟨M,-⟩:=K U rfl;exact⟨Q,M.len,Rep.own C (by omega),λi x y j u=>⟨(M.new i x y (List.getElem?_eq_some_iff.1 j).1 j u).1.mono λb _ hb=>hb.1,(M.new i x y (List.getElem?_eq_some_iff.1 j).1 j u).2.mono λb _ hb=>hb.1⟩⟩
    ·have e0:c.pd=[]:=List.length_eq_zero_iff.1 (by omega)
     have R:=Rep.own (bts:=40) C (by omega)
     rw[e0]at R⊢;exact⟨[],rfl,R,λi x y j=>by cases j⟩
   obtain⟨sv,pv,rv,sd,du⟩:=v';simp only[CsV.mk.injEq,true_and]at G;obtain⟨rfl,rfl,rfl,rfl⟩:=G;obtain⟨X,q,r,rfl⟩:=b7;have x6:wr.cell? ⟨w.heap.size,6,none⟩=some (J1 d c.pd.length a):=H.cell 6;have x7:wr.cell? ⟨w.heap.size,7,none⟩=some (J1 A3 c.rp.length C3):=by rw[<-HE.out.2.2];exact H.cell 7
   have KX:q1H w c ⟨J1 X q r,J1 d c.pd.length a,v.rp,v.said,v.due⟩ wr:=⟨H,f.out.res,f.out.bel⟩;have d7:w.heap.size+2<=wr.heap.size:=f.out.res.lt;have t:=J6 (show _/\_/\_ from⟨KX,KR,hV⟩);clear KX KR hV H C K f
   go_upto_region 9 with(go_at_call 45;refine(HR.out _ t.out.1.bel).mono ?_;rintro e w5⟨l,m,rfl,U5,a9⟩;have K5:=t.out.1.over a9;have f5:=K5.cat.free 7;have y5:w5.cell? ⟨w.heap.size,7,none⟩=some v.rp:=K5.cat.cell 7;have f7:=K5.cat.lt;have N:=J6 (show _/\_ from⟨U5,a9⟩);clear x6 x7 U5 a9)
   have K6:=K5.set 7 (J1 l c.rp.length m) (v':=⟨J1 X q r,J1 d c.pd.length a,J1 l c.rp.length m,v.said,v.due⟩) rfl;have A6:Alt w.heap.size w5 (w5.setCell ⟨w.heap.size,7,none⟩ (J1 l c.rp.length m)):=(Alt.refl _ _).set 7 _;have U6:=(j4c (A6.rep (P:=λb=>wr.heap.size<=b) (λh=>by omega) N.out.1) (b:=8) (by omega)).mono (P':=λb=>w.heap.size+2<=b) λb _ hb=>by omega
   have V6:=A6.rep (P:=λb=>w.heap.size+2<=b) (λh=>by omega) (t.out.2.2.over N.out.2)
   have R6:=(t.out.2.1.over N.out.2).keep (w':=w5.setCell ⟨w.heap.size,7,none⟩ (J1 l c.rp.length m)) λb hb hl=>A6.block b hl (by omega)
   clear y5 f5 K5 A6 N t;generalize w5.setCell ⟨w.heap.size,7,none⟩ (J1 l c.rp.length m)=w6 at *;have l6:=z8j ((q0B c ⟨J1 X q r,J1 d c.pd.length a,J1 l c.rp.length m,v.said,v.due⟩ c.out v.said v.due).part K6.cat) rfl;change (z3i (J2 (some ⟨w.heap.size,14,none⟩))).run prog w6=.ok (J4 #[v.said,v.due,.int .i64 c.out.g,J3 c.out.cl]) w6 at l6;have f8:w.heap.size+2<=w6.heap.size:=K6.res.lt;have t:=J6 (show _/\_/\_/\_ from⟨K6,V6,R6,U6⟩);clear K6 V6 R6 U6 HR
   go_upto_region 10 with(go_at_call 41;refine(HL.out _ t.out.1.bel).mono ?_;rintro e w7⟨u1,u2,rfl,U7,V7,b4⟩;have K7:=t.out.1.over b4;have s7:=q3t (w:=w7) (g:=w.heap.size) (o:=14) (cs:=[u1,u2,.int .i64 c.out.g,J3 c.out.cl]) ((q0B c ⟨J1 X q r,J1 d c.pd.length a,J1 l c.rp.length m,v.said,v.due⟩ c.out u1 u2).there K7.cat) rfl (by have a1:=U7.one;have a2:=V7.one;simp only[List.all_cons,List.all_nil,a1,a2];rfl);change (z3Q (J2 (some ⟨w.heap.size,14,none⟩)) (J4 #[u1,u2,.int .i64 c.out.g,J3 c.out.cl])).run prog w7=_ at s7;have s:=J6 (show _/\_/\_ from⟨U7,V7,b4⟩);have A:=J6 K7;clear l6 U7 V7 b4 K7)
   have f9:=A.out.res.lt;have C8:=(q0B c ⟨J1 X q r,J1 d c.pd.length a,J1 l c.rp.length m,v.said,v.due⟩ c.out u1 u2).sets A.out.cat;change CAt 75 (w7.setCells w.heap.size 14 [u1,u2,.int .i64 c.out.g,J3 c.out.cl]) w.heap.size (csC c ⟨J1 X q r,J1 d c.pd.length a,J1 l c.rp.length m,u1,u2⟩)at C8;have A8:Alt w.heap.size w7 (w7.setCells w.heap.size 14 [u1,u2,.int .i64 c.out.g,J3 c.out.cl]):=Alt.sets _ (Alt.refl _ _) 14;have R8:=A8.cat (by omega) A.out.res
   have b8:=z0b (b:=w.heap.size) (Nat.le_refl _) [u1,u2,.int .i64 c.out.g,J3 c.out.cl] 14 _ A.out.bel
   have I8:CIn (λb=>w.heap.size+2<=b) (w7.setCells w.heap.size 14 [u1,u2,.int .i64 c.out.g,J3 c.out.cl]) c ⟨J1 X q r,J1 d c.pd.length a,J1 l c.rp.length m,u1,u2⟩:=
    CIn.sets ⟨t.out.2.1.over s.out.2.2,t.out.2.2.1.over s.out.2.2,t.out.2.2.2.over s.out.2.2,s.out.1.mono λb _ hb=>by omega,s.out.2.1.mono λb _ hb=>by omega⟩ (by omega) _ _
   clear A8 t s A s7;generalize w7.setCells w.heap.size 14 [u1,u2,.int .i64 c.out.g,J3 c.out.cl]=w8 at *;have l8:=z3n C8 (z0r _ _);have s8:=z2v R8 z0C (z0r c ⟨J1 X q r,J1 d c.pd.length a,J1 l c.rp.length m,u1,u2⟩) (z2p I8);have R9:=R8.z0L (ds:=csC c ⟨J1 X q r,J1 d c.pd.length a,J1 l c.rp.length m,u1,u2⟩) (by rw[z0C];rfl)
   have b9:=z0b (b:=w.heap.size+1) (Nat.le_succ _) (csC c ⟨J1 X q r,J1 d c.pd.length a,J1 l c.rp.length m,u1,u2⟩).toList 0 _ b8;have I9:=I8.sets (g:=w.heap.size+1) (by omega) 0 (csC c ⟨J1 X q r,J1 d c.pd.length a,J1 l c.rp.length m,u1,u2⟩).toList
   have HZ:=J6 (show _/\_/\_ from⟨R9,b9,I9⟩);clear C8 R8 b8 I8 R9 b9 I9;generalize w8.setCells (w.heap.size+1) 0 (csC c ⟨J1 X q r,J1 d c.pd.length a,J1 l c.rp.length m,u1,u2⟩).toList=w9 at *;go_wp2;exact bodyPost_ret (v:=J4 (csC c ⟨J1 X q r,J1 d c.pd.length a,J1 l c.rp.length m,u1,u2⟩)) (z5G results27 _ _ _ _ rfl HZ.out.1 rfl) rfl ⟨_,rfl,HZ.out.2.2,HZ.out.2.1⟩
end Wd
namespace Wd
open Go.RowKit Pv Kc
theorem q9U(L:Nat->Lk)(k:Nat):z0P L k (L k)=L:=by
 funext i
 unfold z0P
 by_cases h:i=k
 ·rw[if_pos h,h]
 ·rw[if_neg h]
theorem q9D{p:Pr}{v:PrV}(k:Nat)(a:k<2)(j:Nat)(y:Value)(u:LkV)(b:j<14)(h:lkL (p.L k) u=(lkL (p.L k) (v.l k)).set j y):(prC p v).setIfInBounds (66+k*14+j) y=prC p (v.upd k u):=by
 have:=q4M (p:=p) (v:=v) k a j y (p.L k) u b h
 rwa [q9U]at this
theorem y1b(p:Pr)(v:PrV){k:Nat}(a:k<2)(u:LkV):At (prC p v) (66+k*14) (lkL (p.L k) (v.l k)) (lkL (p.L k) u) (prC p (v.upd k u)):=by
 have:=q8z p v a (p.L k) u
 rwa [q9U]at this
theorem q0p(p:Pr)(v:PrV){k:Nat}(a:k<2)(u1 u2:Value):At (prC p v) (66+k*14+6) (lnL (p.L k).out (v.l k).said (v.l k).due) (lnL (p.L k).out u1 u2) (prC p (v.upd k { v.l k with said:=u1,due:=u2})):=
 (y1b p v a { v.l k with said:=u1,due:=u2}).nest (by simpa using q8g (p.L k) (v.l k) (p.L k).out u1 u2)
structure z7G(w:World)(p:Pr)(v:PrV)(wl:World):Prop where
 cat:CAt 58 wl w.heap.size (prC p v)
 res:CAt 58 wl (w.heap.size+1) zeroCells58
 bel:Bl w wl
theorem z7G.over{w wl w':World}{p:Pr}{v:PrV}(h:z7G w p v wl)(hb:Bl wl w'):z7G w p v w':=⟨h.cat.over hb,h.res.over hb,zbt h.bel hb⟩
theorem z7G.set{w wl:World}{p:Pr}{v v':PrV}(h:z7G w p v wl)(o:Nat)(x:Value)(e:(prC p v).setIfInBounds o x=prC p v'):z7G w p v' (wl.setCell ⟨w.heap.size,o,none⟩ x):=by
 have k:=h.cat.set o x;rw[e]at k;exact⟨k,h.res.other (by omega) x,h.bel.setCell (p:=⟨w.heap.size,o,none⟩) (Nat.le_refl _) x⟩
theorem z5M.keep'{P:Nat->Prop}{w w':World}{x:Lk}{v:LkV}(h:z5M P w x v)(a:∀b,P b->b<w.heap.size->w'.heap[b]?=w.heap[b]?):z5M P w' x v:=⟨h.told.keep a,h.done.keep a,h.said.keep a,h.due.keep a⟩
structure LkR(w:World)(p:Pr)(v:PrV)(k:Nat)(wl:World):Prop where
 half:∃v',v'.q=v.q/\z7G w p v' wl/\Rep (λb=>w.heap.size+2<=b) wl v'.ws 8 64 (wsL p.s.W)/\Rep (λb=>w.heap.size+2<=b) wl v'.set 2 16 (pwC p.set)/\(∀c,c<k->z5M (λb=>w.heap.size+2<=b) wl (p.L c) (v'.l c))/\∀c,k<=c->v'.l c=v.l c
theorem LkR.step{w:World}{p:Pr}{v:PrV}{k:Nat}(h:k<2){wl w':World}{v':PrV}(u:LkV)(d:v'.q=v.q)(f:z7G w p (v'.upd k u) w')(h1:Rep (λb=>w.heap.size+2<=b) wl v'.ws 8 64 (wsL p.s.W))(h2:Rep (λb=>w.heap.size+2<=b) wl v'.set 2 16 (pwC p.set))(h3:∀c,c<k->z5M (λb=>w.heap.size+2<=b) wl (p.L c) (v'.l c))(g:∀c,k<=c->v'.l c=v.l c)(hu:z5M (λb=>w.heap.size+2<=b) w' (p.L k) u)(a:∀b,w.heap.size+2<=b->b<wl.heap.size->w'.heap[b]?=wl.heap[b]?):LkR w p v (k+1) w':=by
 refine⟨⟨v'.upd k u,d,f,h1.keep a,h2.keep a,λc hc=>?_,λc hc=>?_⟩⟩
 ·by_cases e:c=k
  ·subst e
   show z5M _ _ _ (if c=c then u else _)
   rw[if_pos rfl];exact hu
  ·show z5M _ _ _ (if c=k then u else _)
   rw[if_neg e];exact z5M.keep' (h3 c (by omega)) a
 ·show(if c=k then u else _)=_
  rw[if_neg (by omega)]
  exact g c (by omega)
theorem j1i(v:PrV)(k:Nat)(u:LkV):(v.upd k u).l k=u:=if_pos rfl
theorem q8c(v:PrV)(k:Nat)(u a:LkV):(v.upd k u).upd k a=v.upd k a:=by
 unfold PrV.upd
 congr 1
 funext i
 by_cases h:i=k
 ·simp[h]
 ·simp[h]
theorem j5g{P:Nat->Prop}{w:World}:∀(q:List (Int×Pkt)) (z:List (Value×Value)),(∀(i:Nat) (x:Int×Pkt) (y:Value×Value),q[i]?=some x->z[i]?=some y->Rep P w y.1 2 16 (pwC x.2.S)/\Rep P w y.2 1 8 (inC x.2.D))->∀u∈quL q z,u.oneCell'=true
 | [],_,_,u,hu=>by cases hu
 | _ :: _,[],_,u,hu=>by cases hu
 | x :: q,y :: z,h,u,hu=>by
  rcases List.mem_append.1 hu with h1|h1
  ·obtain⟨a,b⟩:=h 0 x y rfl rfl;have g:=z3w a;have j:=z3w b;simp only[akL,List.mem_cons,List.not_mem_nil,or_false]at h1
   rcases h1 with rfl|rfl|rfl|rfl|rfl|rfl|rfl <;> first|rfl|assumption
  ·exact j5g q z (λi c d e f=>h (i+1) c d (by simpa using e) (by simpa using f)) u h1
structure z8d(P:Nat->Prop)(w:World)(p:Pr)(v:PrV):Prop where
 ws:Rep P w v.ws 8 64 (wsL p.s.W)
 set:Rep P w v.set 2 16 (pwC p.set)
 lk:∀c,c<2->z5M P w (p.L c) (v.l c)
theorem z8d.keep{P:Nat->Prop}{w w':World}{p:Pr}{v:PrV}(h:z8d P w p v)(a:∀b,P b->b<w.heap.size->w'.heap[b]?=w.heap[b]?):z8d P w' p v:=⟨h.ws.keep a,h.set.keep a,λc hc=>z5M.keep' (h.lk c hc) a⟩
theorem z8d.mono{P P':Nat->Prop}{w:World}{p:Pr}{v:PrV}(h:z8d P w p v)(hp:∀b,b<w.heap.size->P b->P' b):z8d P' w p v:=⟨h.ws.mono hp,h.set.mono hp,λc hc=>⟨(h.lk c hc).told.mono hp,(h.lk c hc).done.mono hp,(h.lk c hc).said.mono hp,(h.lk c hc).due.mono hp⟩⟩
structure QuR(w:World)(p:Pr)(P:Nat->Prop)(A:Option Addr)(C:Nat)(k:Nat)(wl:World):Prop where
 half:∃v' z,v'.q=J1 A p.q.length C/\z7G w p v' wl/\wl.ownsRow (w.heap.size+2) 70 7 (J1 A p.q.length C) p.q.length (quL p.q z)/\(∀g,A=some ⟨g,0,none⟩->z8W (λb=>P b/\b<w.heap.size) (w.heap.size+2) g wl (p.q.map (·.2)) z k/\z8d (λb=>w.heap.size+2<=b/\b≠g) wl p v')/\z8d (λb=>w.heap.size+2<=b) wl p v'
attribute [local go_sem ↓] z0T z0F z3x z2E
theorem q6W(p:Pr)(v:PrV)(P:Nat->Prop)(w:World)(hp:PIn P w p v)(f8:p.q.length*88<=140737488351232) :
  Calls prog 24 #[J4 (prC p v)] w λe w'=>∃v',e=.returned (J4 (prC p v'))/\PIn (λb=>w.heap.size+2<=b) w' p v'/\Bl w w':=by
 have hp':PIn (λb=>P b/\b<w.heap.size) w p v:=hp.mono λb t hb=>⟨hb,t⟩;obtain⟨z,hz,N,H⟩:=id hp'.q;obtain⟨A0,C0,h8,h9,e0,-,-,-⟩:=hp'.ws.q0q;obtain⟨A1,C1,e1,-,-⟩:=row_of hp'.set (z0c p.set) (by decide)
 have f9:p.s.W.length*64<=140737488351232:=by obtain⟨_,_,_,_,h⟩:=row_of hp'.ws (z1K p.s.W) (by decide);exact h
 have HW:=J6 (λ(m:World) (hb:Bl w m)=>(show Calls prog 38 #[J1 A0 p.s.W.length C0] m λe w'=>∃A C,e=.returned (J1 A p.s.W.length C)/\z2C m.heap.size w' A C p.s.W/\Bl m w' from by obtain⟨ao,c,sb,so,c8,hW,-,-⟩:=(hp'.ws.over hb).q0q;rw[e0]at c8;cases c8;exact z4e A0 p.s.W C0 sb so m hW))
 have HS:=J6 (λ(m:World) (hb:Bl w m)=>z4U A1 p.set.length C1 (pwC p.set) m (by obtain⟨B,D,e,R,-⟩:=row_of (hp'.set.over hb) (z0c p.set) (by decide);rw[e1]at e;cases e;exact R) (z6U _) (by obtain⟨_,_,_,_,h⟩:=row_of hp'.set (z0c p.set) (by decide);exact h))
 have u:=J6 hp';have K0:z7G w p v ((w.alloc (J5 (prC p v) 58)).alloc (J5 zeroCells58 58)):=⟨(CAt.new _ w _).alloc _,CAt.new2 _ w _ _,(znw w _).alloc (by simp) _⟩
 clear hp hp' N H
 go_enter func24,ntmps24
 go_upto_region 1 with fail
 change Code.wp prog _ _ _ ((w.alloc (J5 (prC p v) 58)).alloc (J5 zeroCells58 58));generalize (w.alloc (J5 (prC p v) 58)).alloc (J5 zeroCells58 58)=w0 at *;have g0:w0.cell? ⟨w.heap.size,63,none⟩=some (J1 A0 p.s.W.length C0):=by rw[<-e0];exact K0.cat.cell 63
 have a6:=J6 K0;have i2:w.heap.size+2<=w0.heap.size:=K0.res.lt;clear K0
 go_upto_region 2 with(go_at_call 38;refine(HW.out _ a6.out.bel).mono ?_;rintro e w1⟨B1,D1,rfl,U1,a7⟩;have K1:=a6.out.over a7;have f1:=K1.cat.free 63;have y1:w1.cell? ⟨w.heap.size,63,none⟩=some v.ws:=K1.cat.cell 63;have i3:=K1.cat.lt;have a8:=J6 (show _/\_ from⟨U1,a7.size⟩);clear g0 U1 a7)
 have K2:=K1.set 63 (J1 B1 p.s.W.length D1) (v':={ v with ws:=J1 B1 p.s.W.length D1}) rfl
 have A2:Alt w.heap.size w1 (w1.setCell ⟨w.heap.size,63,none⟩ (J1 B1 p.s.W.length D1)):=(Alt.refl _ _).set 63 _;have U2:=(A2.rep (P:=λb=>w0.heap.size<=b) (λh=>by omega) (Rep.own (bts:=64) a8.out.1 f9)).mono (P':=λb=>w.heap.size+2<=b) λb _ hb=>by omega
 have i4:=a8.out.2;clear y1 f1 K1 a8 a6 A2;generalize w1.setCell ⟨w.heap.size,63,none⟩ (J1 B1 p.s.W.length D1)=w2 at *;have g1:w2.cell? ⟨w.heap.size,65,none⟩=some (J1 A1 p.set.length C1):=by rw[<-e1];exact K2.cat.cell 65
 have a0:=J6 (show _/\_ from⟨K2,U2⟩);have i5:w.heap.size+2<=w2.heap.size:=K2.res.lt;clear K2 U2 e0 e1
 go_upto_region 3 with(go_at_call 39;refine(HS.out _ a0.out.1.bel).mono ?_;rintro e w3⟨B3,D3,rfl,U3,a9⟩;have K3:=a0.out.1.over a9;have f3:=K3.cat.free 65;have y3:w3.cell? ⟨w.heap.size,65,none⟩=some v.set:=K3.cat.cell 65;have i6:=K3.cat.lt;have b4:=J6 (show _/\_ from⟨U3,a9⟩);clear g1 U3 a9)
 have K4:=K3.set 65 (J1 B3 p.set.length D3) (v':={ v with ws:=J1 B1 p.s.W.length D1,set:=J1 B3 p.set.length D3}) rfl
 have A4:Alt w.heap.size w3 (w3.setCell ⟨w.heap.size,65,none⟩ (J1 B3 p.set.length D3)):=(Alt.refl _ _).set 65 _;have V4:=A4.rep (P:=λb=>w.heap.size+2<=b) (λh=>by omega) (a0.out.2.over b4.out.2)
 have S4:=(A4.rep (P:=λb=>w2.heap.size<=b) (λh=>by omega) b4.out.1).mono (P':=λb=>w.heap.size+2<=b) λb _ hb=>by omega
 have c9:Hid (LkR w p v 0 (w3.setCell ⟨w.heap.size,65,none⟩ (J1 B3 p.set.length D3))):=⟨⟨{ v with ws:=J1 B1 p.s.W.length D1,set:=J1 B3 p.set.length D3},rfl,K4,V4,S4,λc hc=>by omega,λc _=>rfl⟩⟩
 have i7:=K4.cat.lt;clear y3 f3 K3 K4 A4 V4 S4 b4 a0 HS HW;generalize w3.setCell ⟨w.heap.size,65,none⟩ (J1 B3 p.set.length D3)=w4 at *
 go_upto_region 4 with fail
 go_loopw [16] (λi wl=>∃(k:Nat),k<=2/\i=.int .i64 (k:Int)/\Hid (LkR w p v k wl)) (λi _=>2 - (intOf i).toNat)
 case atStart=>exact⟨0,by omega,rfl,c9⟩
 case round =>
  obtain⟨k,hk,rfl,Q⟩:=hrel;clear c9;obtain⟨v',hq,n,W4,S4,L4,N4⟩:=Q.out.half
  by_cases a:k<2
  ·have g2:(k:Int)<2:=by omega
   have b5:v'.l k=v.l k:=N4 k (Nat.le_refl _);obtain⟨At,Ct,et,-,d0⟩:=row_of (u.out.lk k a).told (z0c _) (by decide)
   obtain⟨Ad,Cd,ed,-,d1⟩:=row_of (u.out.lk k a).done (z0s _) (by decide)
   have HT:=J6 (λ(m:World) (hb:Bl w m)=>z4U At (p.L k).told.length Ct (pwC (p.L k).told) m (by obtain⟨B,D,e,R,-⟩:=row_of ((u.out.lk k a).told.over hb) (z0c _) (by decide);rw[et]at e;cases e;exact R) (z6U _) d0)
   have HD:=J6 (λ(m:World) (hb:Bl w m)=>z6R Ad (p.L k).done.length Cd (inC (p.L k).done) m (by obtain⟨B,D,e,R,-⟩:=row_of ((u.out.lk k a).done.over hb) (z0s _) (by decide);rw[ed]at e;cases e;exact R) (j1v _) d1)
   have HL:=J6 (λ(m:World) (hb:Bl w m)=>z9m (p.L k).out (v.l k).said (v.l k).due _ m ((u.out.lk k a).said.over hb) ((u.out.lk k a).due.over hb));have d2:w.heap.size+2<=wr.heap.size:=n.res.lt;have c3:wr.cell? ⟨w.heap.size,66+k*14+3,none⟩=some (J1 At (p.L k).told.length Ct):=(n.cat.cell (66+k*14+3)).trans ((z4o k a 3 (by omega)).trans (by rw[b5,<-et];rfl))
   have E:=J6 (show _/\_/\_/\_/\_/\_/\_/\_ from⟨n,W4,S4,L4,N4,b5,et,ed⟩);clear n W4 S4 L4 N4 b5 et ed d0 d1
   go_upto_region 8 with(go_at_call 39;refine(HT.out _ E.out.1.bel).mono ?_;rintro e w5⟨j,d,rfl,U5,F⟩;have T:=E.out.1.over F;have f5:=T.cat.free (66+k*14+3);have g3:=T.cat.lt;have y5:w5.cell? ⟨w.heap.size,66+k*14+3,none⟩=some (v.l k).told:=(T.cat.cell (66+k*14+3)).trans ((z4o k a 3 (by omega)).trans (by rw[E.out.2.2.2.2.2.1];rfl));have f:=J6 (show _/\_ from⟨U5,F⟩);clear c3 U5 F)
   have Y:=T.set (66+k*14+3) (J1 j (p.L k).told.length d) (q9D k a 3 _ ⟨J1 j (p.L k).told.length d,(v.l k).done,(v.l k).said,(v.l k).due⟩ (by omega) (by rw[E.out.2.2.2.2.2.1];rfl))
   have A6:Alt w.heap.size w5 (w5.setCell ⟨w.heap.size,66+k*14+3,none⟩ (J1 j (p.L k).told.length d)):=(Alt.refl _ _).set _ _;have U6:=(A6.rep (P:=λb=>wr.heap.size<=b) (λh=>by omega) f.out.1).mono (P':=λb=>w.heap.size+2<=b) λb _ hb=>by omega
   have Q6:∀b,w.heap.size+2<=b->b<wr.heap.size->(w5.setCell ⟨w.heap.size,66+k*14+3,none⟩ (J1 j (p.L k).told.length d)).heap[b]?=wr.heap[b]?:=λb hb t=>(A6.block b (by have:=f.out.2.size;omega) (by omega)).trans (f.out.2.block b t)
   have z6:=f.out.2.size;have d3:=A6.size;clear y5 f5 T A6 f HT;generalize w5.setCell ⟨w.heap.size,66+k*14+3,none⟩ (J1 j (p.L k).told.length d)=w6 at *;have c5:w6.cell? ⟨w.heap.size,66+k*14+5,none⟩=some (J1 Ad (p.L k).done.length Cd):=(Y.cat.cell (66+k*14+5)).trans ((z4o k a 5 (by omega)).trans (by rw[j1i,<-E.out.2.2.2.2.2.2.2];rfl))
   have g5:w.heap.size+2<=w6.heap.size:=Y.res.lt;have r:=J6 (show _/\_/\_/\_/\_ from⟨Y,U6,Q6,z6,d3⟩);clear Y U6 Q6 z6 d3
   go_upto_region 9 with(go_at_call 40;refine(HD.out _ r.out.1.bel).mono ?_;rintro e w7⟨B7,D7,rfl,U7,b6⟩;have K7:=r.out.1.over b6;have f7:=K7.cat.free (66+k*14+5);have i8:=K7.cat.lt;have y7:w7.cell? ⟨w.heap.size,66+k*14+5,none⟩=some (v.l k).done:=(K7.cat.cell (66+k*14+5)).trans ((z4o k a 5 (by omega)).trans (by rw[j1i];rfl));have U:=J6 (show _/\_ from⟨U7,b6⟩);clear c5 U7 b6)
   have K8:=K7.set (66+k*14+5) (J1 B7 (p.L k).done.length D7) (q9D k a 5 _ ⟨J1 j (p.L k).told.length d,J1 B7 (p.L k).done.length D7,(v.l k).said,(v.l k).due⟩ (by omega) (by rw[j1i];rfl))
   rw[q8c]at K8;have A8:Alt w.heap.size w7 (w7.setCell ⟨w.heap.size,66+k*14+5,none⟩ (J1 B7 (p.L k).done.length D7)):=(Alt.refl _ _).set _ _;have U8:=A8.rep (P:=λb=>w.heap.size+2<=b) (λh=>by omega) (r.out.2.1.over U.out.2)
   have V8:=(A8.rep (P:=λb=>w6.heap.size<=b) (λh=>by omega) U.out.1).mono (P':=λb=>w.heap.size+2<=b) λb _ hb=>by omega
   have z8:wr.heap.size<=w7.heap.size:=by have h1:=U.out.2.size;have h2:=r.out.2.2.2.1;have h3:=r.out.2.2.2.2;omega
   have Q8:∀b,w.heap.size+2<=b->b<wr.heap.size->(w7.setCell ⟨w.heap.size,66+k*14+5,none⟩ (J1 B7 (p.L k).done.length D7)).heap[b]?=wr.heap[b]?:=λb hb t=>((A8.block b (by omega) (by omega)).trans (U.out.2.block b (by have h2:=r.out.2.2.2.1;have h3:=r.out.2.2.2.2;omega))).trans (r.out.2.2.1 b hb t)
   have d4:=A8.size;clear y7 f7 K7 A8 U r HD;generalize w7.setCell ⟨w.heap.size,66+k*14+5,none⟩ (J1 B7 (p.L k).done.length D7)=w8 at *;have l8:=z8j ((q0p p _ a (v.l k).said (v.l k).due).part K8.cat) rfl;rw[j1i]at l8;change (z3i (J2 (some ⟨w.heap.size,66+k*14+6,none⟩))).run prog w8=.ok (J4 #[(v.l k).said,(v.l k).due,.int .i64 (p.L k).out.g,J3 (p.L k).out.cl]) w8 at l8;have i9:w.heap.size+2<=w8.heap.size:=K8.res.lt;have r:=J6 (show _/\_/\_/\_/\_/\_ from⟨K8,U8,V8,Q8,z8,d4⟩);clear K8 U8 V8 Q8 z8 d4
   go_upto_region 10 with(go_at_call 41;refine(HL.out _ r.out.1.bel).mono ?_;rintro e w9⟨u1,u2,rfl,U9,V9,b7⟩;have K9:=r.out.1.over b7;have s9:=q3t (w:=w9) (g:=w.heap.size) (o:=66+k*14+6) (cs:=[u1,u2,.int .i64 (p.L k).out.g,J3 (p.L k).out.cl]) ((q0p p _ a u1 u2).there K9.cat) rfl (by have a1:=U9.one;have a2:=V9.one;simp only[List.all_cons,List.all_nil,a1,a2];rfl);change (z3Q (J2 (some ⟨w.heap.size,66+k*14+6,none⟩)) (J4 #[u1,u2,.int .i64 (p.L k).out.g,J3 (p.L k).out.cl])).run prog w9=_ at s9;have G:=J6 (show _/\_/\_ from⟨U9,V9,b7⟩);have V:=J6 K9;clear l8 U9 V9 b7 K9)
   have j0:=V.out.res.lt;have a3:Alt w.heap.size w9 (w9.setCells w.heap.size (66+k*14+6) [u1,u2,.int .i64 (p.L k).out.g,J3 (p.L k).out.cl]):=Alt.sets _ (Alt.refl _ _) _;have b8:=(q0p p _ a u1 u2).sets V.out.cat;rw[j1i,q8c]at b8;have d5:z7G w p (v'.upd k ⟨J1 j (p.L k).told.length d,J1 B7 (p.L k).done.length D7,u1,u2⟩) (w9.setCells w.heap.size (66+k*14+6) [u1,u2,.int .i64 (p.L k).out.g,J3 (p.L k).out.cl]):=⟨b8,a3.cat (by omega) V.out.res,z0b (b:=w.heap.size) (Nat.le_refl _) _ _ _ V.out.bel⟩
   have d6:z5M (λb=>w.heap.size+2<=b) (w9.setCells w.heap.size (66+k*14+6) [u1,u2,.int .i64 (p.L k).out.g,J3 (p.L k).out.cl]) (p.L k) ⟨J1 j (p.L k).told.length d,J1 B7 (p.L k).done.length D7,u1,u2⟩:=
    z5M.keep' (w:=w9) ⟨r.out.2.1.over G.out.2.2,r.out.2.2.1.over G.out.2.2,G.out.1.mono λb _ hb=>by omega,G.out.2.1.mono λb _ hb=>by omega⟩ λb hb t=>a3.block b t (by omega)
   have HM:=J6 (LkR.step a _ hq d5 E.out.2.1 E.out.2.2.1 E.out.2.2.2.1 E.out.2.2.2.2.1 d6 λb hb t=>((a3.block b (by have h1:=G.out.2.2.size;have h2:=r.out.2.2.2.2.1;have h3:=r.out.2.2.2.2.2;omega) (by omega)).trans (G.out.2.2.block b (by have h2:=r.out.2.2.2.2.1;have h3:=r.out.2.2.2.2.2;omega))).trans (r.out.2.2.2.1 b hb t))
   clear a3 b8 d5 d6 E r G V s9;generalize w9.setCells w.heap.size (66+k*14+6) [u1,u2,.int .i64 (p.L k).out.g,J3 (p.L k).out.cl]=w10 at *;go_wp2;exact⟨⟨k+1,by omega,by go_num,HM⟩,by simp[intOf];omega⟩
  ·obtain rfl:k=2:=by omega
   obtain⟨z,hz,N,H⟩:=u.out.q;obtain⟨A2,C2,e2,-,-⟩:=row_of N (z2I p.q z hz) (by decide)
   have HK:=J6 (λ(m:World) (hb:Bl w m)=>q5O A2 p.q.length C2 (quL p.q z) m (by obtain⟨B,D,e,R,-⟩:=row_of (N.over hb) (z2I p.q z hz) (by decide);rw[e2]at e;cases e;exact R) (j5g p.q z H) f8)
   have d7:Hid (∀g m,w.heap.size<=g->Bl w m->z8W (λb=>P b/\b<w.heap.size) (w.heap.size+2) g m (p.q.map (·.2)) z 0):=λg m hg hb=>⟨by simpa using hz,λi x y hi=>by omega,λi x y _ M Z=>by
    obtain⟨x',d8,rfl⟩:∃x',p.q[i]?=some x'/\x'.2=x:=by simpa using M
    exact⟨(H i x' y d8 Z).1.over hb,(H i x' y d8 Z).2.over hb⟩⟩
   have c4:wr.cell? ⟨w.heap.size,96,none⟩=some (J1 A2 p.q.length C2):=by rw[<-e2,<-hq];exact n.cat.cell 96
   have PR:z8d (λb=>w.heap.size+2<=b) wr p v':=⟨W4,S4,L4⟩;have d2:w.heap.size+2<=wr.heap.size:=n.res.lt;have E:=J6 (show _/\_ from⟨n,PR⟩);clear n PR W4 S4 L4 N4 Q N H
   go_upto_region 12 with(go_at_call 42;refine(HK.out _ E.out.1.bel).mono ?_;rintro e w5⟨j,d,rfl,U5,F⟩;have T:=E.out.1.over F;have f5:=T.cat.free 96;have y5:w5.cell? ⟨w.heap.size,96,none⟩=some v'.q:=T.cat.cell 96;have g3:=T.cat.lt;have f:=J6 (show _/\_ from⟨U5,F⟩);clear c4 U5 F)
   have Y:=T.set 96 (J1 j p.q.length d) (v':={ v' with q:=J1 j p.q.length d}) rfl
   have A6:Alt w.heap.size w5 (w5.setCell ⟨w.heap.size,96,none⟩ (J1 j p.q.length d)):=(Alt.refl _ _).set 96 _;have O6:(w5.setCell ⟨w.heap.size,96,none⟩ (J1 j p.q.length d)).ownsRow (w.heap.size+2) 70 7 (J1 j p.q.length d) p.q.length (quL p.q z):=z4u (z1v f.out.1 λk hk=>A6.block k (World.ownsRow.lt f.out.1 k hk).2 (by have:=(World.ownsRow.lt f.out.1 k hk).1;omega)) (by omega)
   have c6:∀g,j=some ⟨g,0,none⟩->wr.heap.size<=g:=λg hg=>(World.ownsRow.lt f.out.1 g (by rw[hg];rfl)).1
   have R6:z8d (λb=>w.heap.size+2<=b/\b<wr.heap.size) (w5.setCell ⟨w.heap.size,96,none⟩ (J1 j p.q.length d)) p { v' with q:=J1 j p.q.length d}:=
    let R:=(E.out.2.mono (P':=λb=>w.heap.size+2<=b/\b<wr.heap.size) λb t hb=>⟨hb,t⟩).keep (w':=w5.setCell ⟨w.heap.size,96,none⟩ (J1 j p.q.length d)) λb hb t=>(A6.block b (by have:=f.out.2.size;omega) (by omega)).trans (f.out.2.block b t)
    ⟨R.ws,R.set,R.lk⟩
   have d9:Hid (QuR w p P j d 0 (w5.setCell ⟨w.heap.size,96,none⟩ (J1 j p.q.length d))):=⟨⟨_,z,rfl,Y,O6,λg hg=>⟨d7.out g _ (by have:=c6 g hg;omega) Y.bel,R6.mono λb _ hb=>⟨hb.1,by have:=c6 g hg;omega⟩⟩,R6.mono λb _ hb=>hb.1⟩⟩
   have g6:(w5.setCell ⟨w.heap.size,96,none⟩ (J1 j p.q.length d)).cell? ⟨w.heap.size,96,none⟩=some (J1 j p.q.length d):=Y.cat.cell 96;have g5:=Y.cat.lt;clear y5 f5 T Y A6 R6 O6 c6 f E d7 HK e2 hq;generalize w5.setCell ⟨w.heap.size,96,none⟩ (J1 j p.q.length d)=w6 at *
   go_upto_region 13 with fail
   go_loopw [54] (λi wl=>∃(k:Nat),k<=p.q.length/\i=.int .i64 (k:Int)/\Hid (QuR w p P j d k wl)) (λi _=>p.q.length - (intOf i).toNat)
   case atStart=>exact⟨0,Nat.zero_le _,rfl,d9⟩
   case round =>
    obtain⟨k,hk,rfl,Q⟩:=hrel;clear d9 g6 a;obtain⟨v2,z',K,n,O4,a4,hV⟩:=Q.out.half
    by_cases a:k<p.q.length
    ·obtain⟨gq,X,rfl,g8,Cq,g9,h4,e3,a5⟩:=z9Y O4 (by omega)
     obtain⟨KK,e6⟩:=a4 gq rfl;have e7:z'.length=p.q.length:=by have:=KK.len;simpa using this
     have M:p.q[k]?=some p.q[k]:=List.getElem?_eq_getElem a;have Z:z'[k]?=some z'[k]:=List.getElem?_eq_getElem (by omega)
     generalize p.q[k]=xk at M;generalize z'[k]=yk at Z;have c7:(p.q.map (·.2))[k]?=some xk.2:=by simp[M]
     have e4:X[k*7+1+4]?=some yk.1:=z7E a5 ((z6O p.q z' k xk yk 5 M Z (by omega)).trans rfl)
     have e5:X[k*7+1+5]?=some yk.2:=z7E a5 ((z6O p.q z' k xk yk 6 M Z (by omega)).trans rfl)
     obtain⟨o1,o2⟩:=KK.old k xk.2 yk (Nat.le_refl _) c7 Z;have h5:=Cq.lt;have h6:=J6 (z8m gq (k*7+1) 70 X xk.2.S xk.2.D yk.1 yk.2 _ wr Cq e4 e5 o1 o2 (λh=>by omega))
     have c4:wr.cell? ⟨w.heap.size,96,none⟩=some (J1 (some ⟨gq,0,none⟩) p.q.length d):=by rw[<-K];exact n.cat.cell 96
     have d2:=n.cat.lt;have g2:(k:Int)<(p.q.length:Int):=by omega
     have HN:Hid (∀u1 u2 w5,CAt 70 w5 gq ((X.setIfInBounds (k*7+1+4) u1).setIfInBounds (k*7+1+5) u2)->Rep (λb=>wr.heap.size<=b) w5 u1 2 16 (pwC xk.2.S)->Rep (λb=>wr.heap.size<=b) w5 u2 1 8 (inC xk.2.D)->Alt gq wr w5->QuR w p P (some ⟨gq,0,none⟩) d (k+1) w5):=λu1 u2 w5 hc h1 h2 ha=>by
      have h7:w.heap.size+2<=wr.heap.size:=n.res.lt;have O5:=q4o (base:=w.heap.size+2) O4.1 g8 g9 h4 e3 a5 (k*7+1+4) (k*7+1+5) u1 u2 hc;rw[q4a p.q z' k u1 u2 e7 a]at O5;have hR:z8d (λb=>w.heap.size+2<=b/\b≠gq) w5 p v2:=e6.keep λb hb t=>ha.block b t hb.2;refine⟨⟨v2,_,K,⟨ha.cat (by omega) n.cat,ha.cat (by omega) n.res,n.bel.trans (ha.below (by omega) n.bel.size)⟩,O5,λg hg=>?_,hR.mono λb _ hb=>hb.1⟩⟩
      cases hg;exact⟨KK.step c7 h1 h2 h7 h5 ha (λh=>by omega),hR⟩
     clear O4 a4 hV n Cq KK e6 M Z c7 e4 e5 o1 o2 a5 e3 e7 K
     go_wp2_with (go_at_call 43;refine h6.out.mono ?_;rintro e w5⟨u1,u2,rfl,e8,e9,f4,f6⟩;have HM:=J6 (HN.out u1 u2 w5 e8 e9 f4 f6);clear e8 e9 f4 f6)
     exact⟨⟨k+1,by omega,by go_num,HM⟩,by simp[intOf];omega⟩
    ·obtain rfl:k=p.q.length:=by omega
     have QR:q4E (λb=>w.heap.size+2<=b) wr (J1 j p.q.length d) p.q:=by
      by_cases h0:0<p.q.length
      ·obtain⟨gq,X,rfl,-⟩:=z9Y O4 h0;obtain⟨KK,-⟩:=a4 gq rfl;refine⟨z',by have:=KK.len;simpa using this,Rep.own O4 (by omega),λi x y M Z=>?_⟩
       have:=KK.new i x.2 y (List.getElem?_eq_some_iff.1 M).1 (by simp[M]) Z
       exact⟨this.1.mono λb _ hb=>hb.1,this.2.mono λb _ hb=>hb.1⟩
      ·have e0:p.q=[]:=List.length_eq_zero_iff.1 (by omega)
       have R:=Rep.own (bts:=80) O4 (by omega)
       rw[e0]at R⊢;exact⟨[],rfl,R,λi x y M=>by cases M⟩
     have I8:PIn (λb=>w.heap.size+2<=b) wr p v2:=⟨hV.ws,hV.set,hV.lk,by rw[K];exact QR⟩
     have c4:wr.cell? ⟨w.heap.size,96,none⟩=some (J1 j p.q.length d):=by rw[<-K];exact n.cat.cell 96
     have l8:=z0l n.cat (z0a _ _);have s8:=z0m n.res z0e (z0a p v2) (z1m I8);have R9:=n.res.z0L (ds:=prC p v2) (by rw[z0e];rfl)
     have b9:=z0b (b:=w.heap.size+1) (Nat.le_succ _) (prC p v2).toList 0 _ n.bel;have I9:=I8.sets (g:=w.heap.size+1) (by omega) 0 (prC p v2).toList
     have HZ:=J6 (show _/\_/\_ from⟨R9,b9,I9⟩);clear O4 a4 hV n QR I8 R9 b9 I9 K Q;generalize wr.setCells (w.heap.size+1) 0 (prC p v2).toList=w9 at *;go_wp2;exact bodyPost_ret (v:=J4 (prC p v2)) (results_cell_row results24 _ _ (w.heap.size+1) 58 _ (0,0) _ rfl HZ.out.1 underlying58 rfl (by rw[z3y];rfl)) rfl ⟨_,rfl,HZ.out.2.2,HZ.out.2.1⟩
end Wd
namespace Wd
open Go.RowKit Pv Kc
attribute [local go_sem ↓] z0T z0F z2f z1J
theorem j8b{x:Wo}(h:Inv x):x.p.q.length*88<=140737488351232:=by
 have h1:=h.ql;have h2:=h.n1;omega
theorem y0O{x:Wo}(h:Inv x){i:Nat}(a:i<2):(x.c i).pd.length*80<=140737488351232/\(x.c i).rp.length*16<=140737488351232:=by
 have h1:=h.cl i a;have h2:=h.n1;omega
theorem q8y(g:Nat)(x:Wo)(v:WoV)(P:Nat->Prop)(w:World)(h:CAt 97 w g (wdC x v))(k:WIn P w x v)(n:Inv x) :
  Calls prog 11 #[J2 (some ⟨g,0,none⟩)] w λe w'=>∃v',e=.returned (J4 (prC x.p v'))/\PIn (λb=>w.heap.size+1<=b) w' x.p v'/\Bl w w':=by
 have d:PIn (λb=>P b/\b<w.heap.size) w x.p v.p:=k.p.mono λb o hp=>⟨hp,o⟩;have q:=J6 (λ(c:World) (hb:Bl w c)=>q6W x.p v.p _ c (d.over hb) (j8b n));have r:=J6 (λ(c:World) (hb:Bl w c)=>(show(q0T (J2 (some ⟨g,2,none⟩))).run prog c=.ok (J4 (prC x.p v.p)) c from j2x ((z8T x v x.p v.p).part (h.over hb)) (z0a _ _)));have R0:CAt 58 (w.alloc (J5 zeroCells58 58)) w.heap.size zeroCells58:=CAt.new _ w _;have B0:Bl w (w.alloc (J5 zeroCells58 58)):=znw w _;have s:=h.lt;clear h k d
 go_enter func11,ntmps11
 go_upto_region 1 with fail
 generalize w.alloc (J5 zeroCells58 58)=w0 at *;have t:=R0.lt;have u:=r.out w0 B0;have a:=J6 (show _/\_ from⟨R0,B0⟩);clear R0 B0
 go_wp2_with (go_at_call 24;refine(q.out _ a.out.2).mono ?_;rintro e w1⟨v',rfl,i,b1⟩;have f:=a.out.1.over b1;have y:=f.lt;have z:=z0m f z0e (z0a x.p v') (z1m i);have l:=f.z0L (ds:=prC x.p v') (by rw[z0e];rfl);have b2:=z0b (b:=w.heap.size) (Nat.le_refl _) (prC x.p v').toList 0 _ (zbt a.out.2 b1);have m:=(i.sets (g:=w.heap.size) (by omega) 0 (prC x.p v').toList).mono (P':=λb=>w.heap.size+1<=b) (λb _ hb=>by omega);have j:=J6 (show _/\_/\_ from⟨l,b2,m⟩);clear f l b1 b2 i m u;generalize w1.setCells w.heap.size 0 (prC x.p v').toList=w2 at *)
 exact bodyPost_ret (v:=J4 (prC x.p v')) (results_cell_row results11 _ _ w.heap.size 58 _ (0,0) _ rfl j.out.1 underlying58 rfl (by rw[z3y];rfl)) rfl ⟨_,rfl,j.out.2.2,j.out.2.1⟩
theorem j0p(g:Nat)(x:Wo)(v:WoV)(P:Nat->Prop)(w:World)(i:Nat)(h:i<2)(k:CAt 97 w g (wdC x v))(p:WIn P w x v)(q:Inv x) :
  Calls prog 13 #[J2 (some ⟨g,0,none⟩),J I (i:Int)] w λe w'=>∃v',e=.returned (J4 (csC (x.c i) v'))/\CIn (λb=>w.heap.size+1<=b) w' (x.c i) v'/\Bl w w':=by
 have f:CIn (λb=>P b/\b<w.heap.size) w (x.c i) (v.c i):=(p.c i h).mono λb t hp=>⟨hp,t⟩;have u:=J6 (λ(a:World) (hb:Bl w a)=>q6a (x.c i) (v.c i) _ a (f.over hb) (y0O q h).1 (y0O q h).2);have y:=J6 (λ(a:World) (hb:Bl w a)=>(show(z7n (J2 (some ⟨g,99+i*22,none⟩))).run prog a=.ok (J4 (csC (x.c i) (v.c i))) a from j6H ((q1x x v h (x.c i) (v.c i)).part (k.over hb)) (z0r _ _)));have R0:CAt 75 (w.alloc (J5 Z22 75)) w.heap.size Z22:=CAt.new _ w _;have B0:Bl w (w.alloc (J5 Z22 75)):=znw w _;have z:=k.lt;have i1:(i:Int)<2:=by omega
 have l:isC (i:Int)=true:=by unfold isC;simp;omega
 have m:Hid (∀a,Calls prog 26 #[J I (i:Int)] a λe w'=>e=.returned (J3 true)/\a=w'):=λa=>by rw[<-l];exact z3z i a
 clear k p f
 go_enter func13,ntmps13
 go_upto_region 1 with fail
 change Code.wp prog _ _ _ (w.alloc (J5 Z22 75));generalize w.alloc (J5 Z22 75)=w0 at *;have A:=R0.lt;have B:=y.out w0 B0;have d:=J6 (show _/\_ from⟨R0,B0⟩);clear R0 B0
 go_wp2_with (first
  | (go_at_call 26;refine(m.out _).mono ?_;rintro e w'⟨rfl,rfl⟩)
  | (go_at_call 27;refine(u.out _ d.out.2).mono ?_;rintro e w1⟨v',rfl,n,b1⟩;have j:=d.out.1.over b1;have C:=j.lt;have D:=z2v j z0C (z0r (x.c i) v') (z2p n);have r:=j.z0L (ds:=csC (x.c i) v') (by rw[z0C];rfl);have b2:=z0b (b:=w.heap.size) (Nat.le_refl _) (csC (x.c i) v').toList 0 _ (zbt d.out.2 b1);have s:=(n.sets (g:=w.heap.size) (by omega) 0 (csC (x.c i) v').toList).mono (P':=λb=>w.heap.size+1<=b) (λb _ hb=>by omega);have o:=J6 (show _/\_/\_ from⟨r,b2,s⟩);clear j r b1 b2 n s B;generalize w1.setCells w.heap.size 0 (csC (x.c i) v').toList=w2 at *))
 exact bodyPost_ret (v:=J4 (csC (x.c i) v')) (z5G results13 _ _ _ _ rfl o.out.1 rfl) rfl ⟨_,rfl,o.out.2.2,o.out.2.1⟩
end Wd
namespace Wd
open Go.RowKit Pv Kc
attribute [local go_sem ↓] z3x z2E z4T
theorem y1a(f:Bool)(g:Nat)(x:Wo)(v:WoV)(P:Nat->Prop)(w:World)(i:Nat)(V:i<2)(hC:CAt 97 w g (wdC x v))(hI:WIn P w x v)(hg:¬ P g)(a0:Ln.z1a (z0Y x i true)=true)(a1:small (z0Y x i true).S)(W:x.p.q.length*88<=140737488351232)(a7:(x.c i).pd.length*80<=140737488351232) :
  Calls prog 63 #[J2 (some ⟨g,0,none⟩),.int .i64 (i:Int),J3 true,J3 f] w (q0Q P w g (z7s x i true f)):=by
 have hD:z7s x i true f=if Ln.z4B (x.c i).out ((x.c i).out.g+1) (z0t x i true f) (x.p.L i).h2 x.ck=0 then(if(z1B x i true (z0t x i true f)).2=0 then(z1j (z1B x i true (z0t x i true f)).1 i true (Ln.z5L (x.c i).out ((x.c i).out.g+1) (z0t x i true f) (x.p.L i).h2 x.ck),(x.c i).out.g+1,0)else((z1B x i true (z0t x i true f)).1,0,(z1B x i true (z0t x i true f)).2))else(x,0,Ln.z4B (x.c i).out ((x.c i).out.g+1) (z0t x i true f) (x.p.L i).h2 x.ck):=rfl;have a8:Ln.z4B (x.c i).out ((x.c i).out.g+1) (z0t x i true f) (x.p.L i).h2 x.ck=0->(Ln.z5L (x.c i).out ((x.c i).out.g+1) (z0t x i true f) (x.p.L i).h2 x.ck).g=(x.c i).out.g+1:=λh=>by rw[q0h h]
 change Ln.z1a (x.c i).out=true at a0;change small (x.c i).out.S at a1;obtain⟨-,d5,-,a9,d6⟩:=(z1A _).1 a0
 have b4:(z3Z (x.c i).out).size<=100:=by
  unfold z3Z
  split
  ·decide
  ·rename_i hn;refine a1 _ ?_;rw[List.getD_eq_getElem?_getD,List.getElem?_eq_getElem (by omega)]
   exact List.getElem_mem _
 have b5:(z0t x i true f).size<=maxLen:=by
  have hm:(1000:Nat)<=maxLen:=by decide
  have h2:(q2W (z3Z (x.c i).out)).size<=100:=z6b (by simp) (by simp)
  have h3:(z0t x i true f).size<=100:=by
   cases f
   ·exact b4
   ·exact h2
  omega
 have d7:=hC.lt;have e8:(i:Int)<2:=by omega
 have e9:(0:Int)<=(i:Int):=by omega
 have f4:IntKind.i64.wrap ((x.c i).out.g+1)=(x.c i).out.g+1:=z5z (by omega) (by omega)
 have a2:z0U P w (v.c i).said 1 16 (txC (x.c i).out.S):=(hI.c i V).said;have b6:z0U P w (v.c i).due 1 8 (inC (x.c i).out.D):=(hI.c i V).due;have C:=J6 (λ(a:World) (hb:Bl w a)=>(q1m x v V (x.c i).out (v.c i).said (v.c i).due).part (hC.over hb));have a3:=J6 (λ(a:World) (hb:Bl w a)=>q1E g (99+i*22+14) (x.c i).out (v.c i).said P a (a2.over hb) (z9g (C.out a hb)).1 (z9g (C.out a hb)).2 a9);have E:=J6 (λ(a:World)=>q1b (z3Z (x.c i).out) a (by omega))
 have b7:=J6 (λ(k a:World) (h4:Bl w k) (hb:Bl k a)=>q9R (x.c i).out ((x.c i).out.g+1) (z0t x i true f) (x.p.L i).h2 x.ck (v.c i).said (v.c i).due (λb=>P b/\b<k.heap.size) a ((((a2.over h4).mono (P':=λb=>P b/\b<k.heap.size) λb N hp=>⟨hp,N⟩).over hb)) ((((b6.over h4).mono (P':=λb=>P b/\b<k.heap.size) λb N hp=>⟨hp,N⟩).over hb)));have b8:=J6 (λ(a:World) (hb:Bl w a)=>(show(z3i (J2 (some ⟨g,99+i*22+14,none⟩))).run prog a=.ok (J4 #[(v.c i).said,(v.c i).due,.int .i64 (x.c i).out.g,J3 (x.c i).out.cl]) a/\a.cell? ⟨g,99+i*22+14+2,none⟩=some (.int .i64 (x.c i).out.g)/\a.cell? ⟨g,68+i*14+10+2,none⟩=some (.int .i64 (x.p.L i).h2)/\a.cell? ⟨g,0,none⟩=some (.int .i64 x.ck)from⟨z8j (C.out a hb) rfl,(z9g (C.out a hb)).2,(q0y (hC.over hb) V).2.1,(hC.over hb).cell 0⟩));have b9:=J6 (λ(a:World) (hb:Bl w a)=>q1K g x v P a i V true (z0t x i true f) (hC.over hb) (hI.over hb) hg b5 W a7);have c4:=J6 (q3V g i V w);have HC:=J6 hC;have HI:=J6 hI;clear hC hI a2 b6 C W a7 a0 a1 d5 a9 d6 b4 b5;generalize z7s x i true f=D at *;generalize z1B x i true (z0t x i true f)=rh at *;obtain⟨xh,he⟩:=rh;dsimp only at hD;generalize Ln.z4B (x.c i).out ((x.c i).out.g+1) (z0t x i true f) (x.p.L i).h2 x.ck=de at *;generalize Ln.z5L (x.c i).out ((x.c i).out.g+1) (z0t x i true f) (x.p.L i).h2 x.ck=dl at *
 have c5:Hid (f=false/\z0t x i true f=z3Z (x.c i).out∨f=true/\z0t x i true f=q2W (z3Z (x.c i).out)):=by
  cases f
  ·exact .inl ⟨rfl,rfl⟩
  ·exact .inr ⟨rfl,rfl⟩
 generalize z0t x i true f=tx at *;generalize z3Z (x.c i).out=nx at *;generalize Value.agg #[(v.c i).said,(v.c i).due,.int .i64 (x.c i).out.g,J3 (x.c i).out.cl]=V0 at *;generalize (x.c i).out.g=lg at *;generalize (x.p.L i).h2=sd at *;have HD:=J6 hD;have c6:=J6 a8;clear hD a8
 go_enter func63,ntmps63
 go_upto_region 2 with(go_at_call 84;refine c4.out.mono ?_;rintro e w1⟨rfl,a4⟩;obtain⟨w2,s2,K2,bS⟩:=q0K w1 (J2 (some ⟨g,99+i*22+14,none⟩)) (J2 (some ⟨g,99+i*22+18,none⟩)) (J2 (some ⟨g,68+i*14+10,none⟩)) (by simp[Value.oneCell']);have r:=J6 (show _/\_ from⟨K2,zbt a4 bS⟩);have d8:=a4.size;clear K2 bS a4)
 clear s2 c4;obtain⟨Q,c7⟩:∃y,y=w1.heap.size:=⟨_,rfl⟩;rw[<-c7]at r d8⊢;clear c7;have f5:g≠Q:=by omega
 have k0:w2.cell? ⟨Q,0,none⟩=some (J2 (some ⟨g,99+i*22+14,none⟩)):=r.out.1.cell 0;have f6:=r.out.1.lt
 rcases c5.out with⟨rfl,e0⟩|⟨rfl,e1⟩
 all_goals clear c5
 all_goals first|(subst e0;clear E)|(rw[<-e1]at E;clear e1)
 all_goals
  go_upto_region 5 with(first|(go_at_call 86;refine(E.out _).mono ?_;rintro e k⟨rfl,z⟩;have F:=J6 (zbt c8.out z);have H:=J6 (c9.out.over z);clear z)|(go_at_call 85;have _m:=E;refine(a3.out _ (by with_reducible exact r.out.2)).mono ?_;rintro e w3⟨rfl,s⟩;have c8:=J6 (zbt r.out.2 s);have c9:=J6 (r.out.1.over s);clear s)|(go_at_call 85;refine(a3.out _ (by with_reducible exact r.out.2)).mono ?_;rintro e k⟨rfl,z⟩;have F:=J6 (zbt r.out.2 z);have H:=J6 (r.out.1.over z);clear z))
  clear k0 r a3
  try clear c8 c9 E _m
  have f7:=F.out.size;have a5:=J6 (λ(a:World) (hb:Bl k a)=>b7.out k a F.out hb);have t:Hid (∀(a:World),Bl k a->a.cell? ⟨Q,0,none⟩=some (J2 (some ⟨g,99+i*22+14,none⟩))/\a.cell? ⟨Q,2,none⟩=some (J2 (some ⟨g,68+i*14+10,none⟩))/\(z3i (J2 (some ⟨g,99+i*22+14,none⟩))).run prog a=.ok V0 a/\a.cell? ⟨g,99+i*22+14+2,none⟩=some (.int .i64 lg)/\a.cell? ⟨g,68+i*14+10+2,none⟩=some (.int .i64 sd)/\a.cell? ⟨g,0,none⟩=some (.int .i64 x.ck)):=λa hb=>⟨(H.out.over hb).cell 0,(H.out.over hb).cell 2,b8.out a (zbt F.out hb)⟩;have B:Hid (Bl k (k.alloc (J5 Z4' 48)).drew):=(znw k _).drew;have X:Hid (CAt 48 (k.alloc (J5 Z4' 48)).drew k.heap.size Z4'):=CAt.new 48 k Z4';unfold Z4' at B;clear b7 b8;apply q1P (λ(gn:Nat) (ts:Array Value) w'=>j8I P k dl gn ts w')
  ·skip;refine wp_region_noPanic ?_;refine wp_region_held_drew (S:=λa=>Bl k a) (by kernel_rfl) (Below.refl _ _).drew (λn=>?_)
   refine O.G 0 (J2 (some ⟨Q,0,none⟩)) 26 rfl rfl n ?_;refine O.Z 1 (J2 (some ⟨g,99+i*22+14,none⟩)) 27 rfl rfl n (λa d=>by obtain⟨k0,k2,l3,l4,l5,l6⟩:=t.out a d;go_simp) ?_
   refine O.G 2 (J2 (some ⟨g,99+i*22+14,none⟩)) 28 rfl rfl n ?_;refine O.Z 3 V0 29 rfl rfl n (λa d=>by obtain⟨k0,k2,l3,l4,l5,l6⟩:=t.out a d;go_simp) ?_
   refine O.G 4 (J2 (some ⟨Q,0,none⟩)) 30 rfl rfl n ?_;refine O.Z 5 (J2 (some ⟨g,99+i*22+14,none⟩)) 31 rfl rfl n (λa d=>by obtain⟨k0,k2,l3,l4,l5,l6⟩:=t.out a d;go_simp) ?_
   refine O.G 6 (J2 (some ⟨g,99+i*22+14,none⟩)) 32 rfl rfl n ?_;refine O.G 7 (J2 (some ⟨g,99+i*22+14+2,none⟩)) 33 rfl rfl n ?_;refine O.Z 8 (.int .i64 lg) 34 rfl rfl n (λa d=>by obtain⟨k0,k2,l3,l4,l5,l6⟩:=t.out a d;go_simp) ?_
   refine O.G 9 (.int .i64 (lg+1)) 35 rfl rfl n ?_;refine O.G 10 (.string tx) 36 rfl rfl n ?_;refine O.G 11 (J2 (some ⟨Q,2,none⟩)) 37 rfl rfl n ?_;refine O.Z 12 (J2 (some ⟨g,68+i*14+10,none⟩)) 38 rfl rfl n (λa d=>by obtain⟨k0,k2,l3,l4,l5,l6⟩:=t.out a d;go_simp) ?_
   refine O.G 13 (J2 (some ⟨g,68+i*14+10,none⟩)) 39 rfl rfl n ?_;refine O.G 14 (J2 (some ⟨g,68+i*14+10+2,none⟩)) 40 rfl rfl n ?_;refine O.Z 15 (.int .i64 sd) 41 rfl rfl n (λa d=>by obtain⟨k0,k2,l3,l4,l5,l6⟩:=t.out a d;go_simp) ?_
   refine O.G 16 (J2 (some ⟨g,0,none⟩)) 42 rfl rfl n ?_;refine O.G 17 (J2 (some ⟨g,0,none⟩)) 43 rfl rfl n ?_;refine O.G 18 (J2 (some ⟨g,0,none⟩)) 44 rfl rfl n ?_;refine O.Z 19 (.int .i64 x.ck) 45 rfl rfl n (λa d=>by obtain⟨k0,k2,l3,l4,l5,l6⟩:=t.out a d;go_simp) ?_
   refine O.z4n (i:=20) (j:=24) (by kernel_rfl) rfl rfl rfl rfl (λK M=>?_) (λK M=>?_)
   ·go_simp
    go_at_call 87
    refine(a5.out _ (by with_reducible exact(Below.refl k.heap.size k).drew)).mono ?_
    rintro e w3⟨u1,u2,rfl,U1,U2,s⟩;skip;have hb:=(Below.refl k.heap.size k).drew.trans (s.mono (Below.refl k.heap.size k).drew.size);obtain⟨ts,A⟩:∃y:Array Value,y=#[u1,u2,.int .i64 dl.g,J3 dl.cl]:=⟨_,rfl⟩;dsimp only;rw[<-A];have R:=J6 A;clear A;refine M _ _ hb ?_;clear M K;refine O.Z 21 (.tuple #[J4 ts,(.int .i64 de)]) 25 rfl rfl hb (λa d=>?_) ?_
    ·go_simp
    refine O.Z 22 (J4 ts) 47 rfl rfl hb (λa d=>?_) ?_
    ·go_simp
    refine O.Z 23 (.int .i64 de) 48 rfl rfl hb (λa d=>?_) ?_
    ·go_simp
    refine O.z1k (i:=24) (by kernel_rfl) rfl rfl (λK M=>?_)
    go_simp;refine M _ _ (hb.alloc hb.size _) ?_;clear M K;have q2:ts.all (λx=>x.oneCell')=true:=by rw[R.out];exact z3r U1 U2 _ _
    have m:=z7v (l:=dl) U1 U2 (by rfl) hb
    rw[<-R.out]at m;change wpAnyH _ _ _ _ _ _ _ _ (w3.alloc (J5 Z4' 48));refine O.z0D (i:=25) (by kernel_rfl) rfl rfl 48 _ _ rfl rfl w3.heap.size 0 ts rfl rfl ((CAt.new 48 w3 Z4').there 0 _ (by rw[R.out];exact Nat.le_of_eq rfl)) (by rw[R.out,z4L];rfl) q2 m.bel ?_
    refine O.Z 26 (.int .i64 de) 13 rfl rfl m.bel (λa d=>?_) ?_
    ·go_simp
    refine wpAnyH_done (by kernel_rfl) ?_ _
    obtain⟨gn,T⟩:∃y,y=w3.heap.size:=⟨_,rfl⟩;rw[<-T]at m⊢;simp only[O.pp,O.pb,O.pc];exact NoPanic.normal ⟨gn,ts,rfl,rfl,m⟩
   ·go_simp;refine M _ _ (n.alloc n.size _) ?_;clear M K;refine O.z1k (i:=20) (by kernel_rfl) rfl rfl (λK M=>?_)
    go_simp
    go_at_call 87
    refine(a5.out _ (by with_reducible exact B.out)).mono ?_
    rintro e w3⟨u1,u2,rfl,U1,U2,s⟩;skip;have hb:=zbt B.out s;obtain⟨ts,A⟩:∃y:Array Value,y=#[u1,u2,.int .i64 dl.g,J3 dl.cl]:=⟨_,rfl⟩;dsimp only;rw[<-A];have R:=J6 A;clear A;refine M _ _ hb ?_;clear M K;refine O.Z 21 (.tuple #[J4 ts,(.int .i64 de)]) 25 rfl rfl hb (λa d=>?_) ?_
    ·go_simp
    refine O.Z 22 (J4 ts) 47 rfl rfl hb (λa d=>?_) ?_
    ·go_simp
    refine O.Z 23 (.int .i64 de) 48 rfl rfl hb (λa d=>?_) ?_
    ·go_simp
    have q2:ts.all (λx=>x.oneCell')=true:=by rw[R.out];exact z3r U1 U2 _ _
    have R3:=X.out.over s;have m:=z7z (l:=dl) U1 U2 (by simp) hb R3
    rw[<-R.out]at m;refine O.z0D (i:=25) (by kernel_rfl) rfl rfl 48 _ _ rfl rfl k.heap.size 0 ts rfl rfl (R3.there 0 _ (by rw[R.out];exact Nat.le_of_eq rfl)) (by rw[R.out,z4L];rfl) q2 m.bel ?_
    refine O.Z 26 (.int .i64 de) 13 rfl rfl m.bel (λa d=>?_) ?_
    ·go_simp
    refine wpAnyH_done (by kernel_rfl) ?_ _
    obtain⟨gn,T⟩:∃y,y=k.heap.size:=⟨_,rfl⟩;rw[<-T]at m⊢;simp only[O.pp,O.pb,O.pc];exact NoPanic.normal ⟨gn,ts,rfl,rfl,m⟩
  rintro gn ts w5 S5;have d0:=J6 S5;have f8:=S5.le;have e3:=S5.cat.lt;have u:=J6 (zbt F.out S5.bel);have d9:=J6 (H.out.over S5.bel);clear S5 t a5 B X H;have T:g≠gn:=by omega
  simp only[Exit.then];apply_assumption
  by_cases hE:de=0
  case neg =>
   replace HD:=J6 (HD.out.trans (if_neg hE));have f9:(de != 0)=true:=by simpa using hE
   go_wp2;go_ret2;rw[HD.out];exact⟨rfl,.same (HC.out.over u.out) HI.out hg (Alt.of u.out)⟩
  subst hE;replace HD:=J6 (HD.out.trans (if_pos rfl));have e2:=c6.out rfl;obtain⟨u1,u2,d1,d2,d3⟩:=d0.out.ex;have HU:=J6 (show _/\_/\_ from⟨d1,d2,d3⟩);clear d1 d2 d3 c6
  by_cases hH:he=0
  case neg =>
   replace HD:=J6 (HD.out.trans (if_neg hH));have g0:(he != 0)=true:=by simpa using hH
   go_wp2_with (go_at_call 88;refine(b9.out _ u.out).mono ?_;rintro e w6⟨rfl,Z6⟩;have U:=J6 Z6;clear Z6;dsimp only)
   go_ret2;rw[HD.out];obtain⟨v6,C6,I6,Y⟩:=U.out
   exact⟨rfl,v6,C6,I6.mono λb _ hb=>by
    rcases hb with⟨hb,N⟩|hb
    ·by_cases hw:b<w.heap.size
     ·exact .inl ⟨hb,hw⟩
     ·exact .inr (by omega)
    ·exact .inr (by have:=u.out.size;omega),(Alt.of (g:=g) u.out).trans Y⟩
  subst hH;replace HD:=J6 (HD.out.trans (if_pos rfl))
  go_upto_region 11 with(go_at_call 88;refine(b9.out _ u.out).mono ?_;rintro e w6⟨rfl,Z6⟩;have U:=J6 Z6;clear Z6;dsimp only)
  obtain⟨v6,C6,I6,Y⟩:=U.out
  have d4:WIn (New P w 0) w6 xh v6:=I6.mono λb _ hb=>by
   rcases hb with⟨hb,N⟩|hb
   ·by_cases hw:b<w.heap.size
    ·exact .inl ⟨hb,hw⟩
    ·exact .inr (by omega)
   ·exact .inr (by have:=u.out.size;omega)
  have a6:¬ New P w 0 g:=Pv.z0R hg d7
  have key:∀b,b<w5.heap.size->(New P k 0 b/\b≠gn)->New P w 0 b:=λb _ hb=>by
   rcases hb.1 with⟨hb,N⟩|hb
   ·by_cases hw:b<w.heap.size
    ·exact .inl ⟨hb,hw⟩
    ·exact .inr (by omega)
   ·exact .inr (by omega)
  have K6:=Y.cat (b:=Q) (by omega) d9.out
  have L6:=Y.cat (b:=gn) (by omega) d0.out.cat
  have y0:w6.cell? ⟨Q,0,none⟩=some (J2 (some ⟨g,99+i*22+14,none⟩)):=K6.cell 0;have R1:z0U (New P w 0) w6 u1 1 16 (txC dl.S):=(HU.out.2.1.mono key).keep λb hb N=>Y.block b N λe=>a6 (e ▸ hb);have R2:z0U (New P w 0) w6 u2 1 8 (inC dl.D):=(HU.out.2.2.mono key).keep λb hb N=>Y.block b N λe=>a6 (e ▸ hb)
  have l6:(z3i (J2 (some ⟨gn,0,none⟩))).run prog w6=.ok (J4 ts) w6:=by
   have h:=z8j L6.range (by rw[HU.out.1];rfl)
   simpa using h
  have s6:=q3t ((q1m xh v6 V dl u1 u2).there C6) rfl (by have h:=z3r R1 R2 dl.g dl.cl;simpa [lnL] using h)
  have Z7:=q9e d4 a6 C6 V R1 R2;change (z3Q (J2 (some ⟨g,99+i*22+14,none⟩)) (J4 #[u1,u2,.int .i64 dl.g,J3 dl.cl])).run prog w6=_ at s6;rw[<-HU.out.1]at s6;have L7:=L6.others (c:=g) (o:=99+i*22+14) (by omega) (lnL dl u1 u2)
  have HX:=J6 (z1h.trans ((Alt.of (g:=g) u.out).trans Y) Z7);rw[HU.out.1]at L7;generalize w6.setCells g (99+i*22+14) (lnL dl u1 u2)=w7 at *;have y7:w7.cell? ⟨gn,2,none⟩=some (.int .i64 (lg+1)):=by rw[<-e2];exact L7.cell 2
  have e4:=C6.lt;have e5:=K6.lt;have e6:=L6.lt;have e7:=L7.lt;clear C6 I6 d4 Y K6 L6 R1 R2 Z7 L7 U key;go_wp2;go_ret2;rw[HD.out];exact⟨rfl,HX.out⟩
end Wd
namespace Wd
open Go.RowKit Pv Kc
def y2l(l:List Dd):Wo:=l.foldl (λx d=>(doW x d).1) z8y
def stW(l:List Dd)(k:Nat):Wo:=y2l (l.take k)
theorem z3f{l:List Dd}{k:Nat}{d:Dd}(h:l[k]?=some d):stW l (k+1)=(doW (stW l k) d).1:=by
 unfold stW y2l;rw[List.take_add_one,h,List.foldl_append];rfl
def dA:Dd:=⟨1,0,0,0,700,false,false⟩
def dB:Dd:=⟨5,0,0,0,5,false,false⟩
def dC:Dd:=⟨6,0,0,0,0,false,false⟩
def dD:Dd:=⟨4,0,0,0,0,false,false⟩
theorem j6c:(doW z8y dA).2.1=0:=by decide+kernel
theorem j7z:(doW (doW z8y dA).1 dB).2.2=5:=by decide+kernel
theorem j5K:(doW (doW (doW z8y dA).1 dB).1 dC).2.1=0:=by decide+kernel
theorem j7c:(doW (doW (doW (doW z8y dA).1 dB).1 dC).1 dD).2.2=1:=by decide+kernel
theorem j6r:(doW (doW (doW (doW z8y dA).1 dB).1 dC).1 dD).1.ck=5:=by decide+kernel
theorem j6m:((doW (doW (doW (doW z8y dA).1 dB).1 dC).1 dD).1.c 0).set.length=1:=by decide+kernel
abbrev Pws:=List (Int×Int)
def j4i(H:Int->Pws)(h:Int)(s:Pws):Int->Pws:=λk=>if k=h then s else H k
def hsW(l:List Dd):Nat->Int->Pws
 | 0=>λ_=>[]
 | k+1=>j4i (hsW l k) (stW l (k+1)).p.h (stW l (k+1)).p.set
def z1M(i:Nat)(u:Wt):Int:=if i=0 then u.h0 else u.h1
def Hw(i:Nat)(m:Int)(W:List Wt):Prop:=∀u∈W,m<u.hei->z1M i u=u.hei
structure HW(x:Wo):Prop where
 hei:∀u∈x.p.s.W,u.hei<=x.p.h+1
 held:∀i,i<2->(x.c i).on=true->Hw i (x.c i).id x.p.s.W
def z3j(x:Wo)(c:Nat)(r:Int):Prop:=∃(n:Nat) (s:ByteArray),(n:Int)<(x.c c).out.g/\(x.c c).out.S[n]?=some s/\Cd.z4x (Cd.bs s)=0/\(z0X (Cd.bs s)).k=2/\r<=(z0X (Cd.bs s)).i
end Wd
end Go.Proofs.YtddlhnoedldidaaGreat
