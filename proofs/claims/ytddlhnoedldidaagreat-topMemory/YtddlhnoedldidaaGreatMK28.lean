/- Parts of the proof. -/
import Derived.Test.YtddlhnoedldidaaGreatML
import Derived.Test.YtddlhnoedldidaaGreatMK6
import Derived.Test.YtddlhnoedldidaaGreatMK27
set_option maxRecDepth 100000
set_option maxHeartbeats 16000000
namespace Go.Proofs.YtddlhnoedldidaaGreat
open Go.Proofs.Tryz
open Value renaming int->J,slice->J1,pointer->J2,bool->J3,agg->J4
open IntKind renaming i64->I
open Obj renaming cells->J5
namespace Wd
open Go.RowKit Pv Kc
theorem j7k{P:Nat->Prop}{a:World}{r:Pr}{v2:PrV}(d:PIn P a r v2):∃ c,(z6x (J2 (some ⟨a.heap.size,0,none⟩)) (J4 (prC r v2))).run prog (a.alloc (J5 zeroCells58 58))=.ok () c/\CAt 58 c a.heap.size (prC r v2)/\PIn (fun b=>P b/\b<a.heap.size) c r v2/\Bl a c:=by
 have R0:=CAt.new 58 a zeroCells58;have e:Bl a ((a.alloc (J5 zeroCells58 58)).setCells a.heap.size 0 (prC r v2).toList):=z0a (Nat.le_refl _) _ _ _ (znw a _);exact⟨_,z0k R0 z0d (z0b _ _) (z0Y d),R0.z0t (by rw[z0d];rfl),(d.mono (P':=fun b=>P b/\b<a.heap.size) fun _ f hp=>⟨hp,f⟩).over e,e⟩
theorem j3D{P:Nat->Prop}{w:World}{g:Nat}{x:Wo}{v:WoV}(d:WIn P w x v)(e:¬ P g)(C0:CAt 97 w g (wdC x v)){a:Wo}{o:Nat}{ds es:List Value}(f:At (wdC x v) o ds es (wdC a v))(hp:a.p=x.p)(hc:a.c=x.c):z1b P w g a (w.setCells g o es):=by
 have b:Alt g w (w.setCells g o es):=(Alt.refl g w).sets _ _;have h:=d.new e b 0;exact⟨v,f.sets C0,⟨by rw[hp];exact h.p,fun i j=>by rw[hc];exact h.c i j⟩,b⟩
attribute [local go_sem ↓] z0H z0w z1r z1j q4I
theorem q5p(g:Nat)(x:Wo)(v:WoV)(P:Nat->Prop)(w:World)(c:Int)(U:CAt 97 w g (wdC x v))(hI:WIn P w x v)(B:¬ P g) :
  Calls prog 36 #[J2 (some ⟨g,0,none⟩),J I c] w (z9z P w g (z4I x c)):=by
 have hD:z4I x c=if isC c=true then (if (z1R x.p c).2=0 then ({ x with p:=(z1R x.p c).1,c:=z3y x.c c.toNat (z2G (z1R x.p c).1.set (z1R x.p c).1.h x.ck),hp:=q5U x.hp c.toNat hd0,hc:=q5U x.hc c.toNat hd0 },(z1R x.p c).1.h,0) else (x,0,(z1R x.p c).2)) else (x,0,4):=by unfold z4I;rfl
 have C:=J6 (q4n x.p v.p P w c hI.p);generalize z4I x c=D at *;generalize z1R x.p c=r at *;obtain⟨rp,re⟩:=r;dsimp only at hD;have k:=J6 hD;have n:=J6 (fun (d:World)=>z2v c d);clear hD;have E:=U.lt;have m0:=q9F ((z7P x v x.p v.p).part U) (z0b _ _);have V:=J6 U;have HI:=J6 hI;clear U hI
 go_enter func36,ntmps36
 by_cases f:isC c=true
 case neg =>
  replace k:=J6 (k.out.trans (if_neg f));have F:isC c=false:=by simpa using f
  rw[F]at n
  go_wp2_with (go_at_call 26;refine (n.out _).mono ?_;rintro e w'⟨rfl,rfl⟩)
  go_ret2;rw[k.out];exact⟨rfl,.same V.out HI.out B (Alt.refl _ _)⟩
 replace k:=J6 (k.out.trans (if_pos f));obtain⟨i,rfl,W⟩:=z9a f;rw[f]at n;rw[Int.toNat_natCast]at k;clear f;have a4:(i:Int)<2:=by omega
 have a5:(0:Int)<=(i:Int):=by omega
 go_upto_region 4 with (first
  | (go_at_call 26;refine (n.out _).mono ?_;rintro e w'⟨rfl,rfl⟩)
  | (go_at_call 59;refine C.out.mono ?_;rintro e w2⟨u2,rfl,U2,u⟩;dsimp only at U2;dsimp only;clear m0;obtain⟨w3,s2,D3,Q3,bS⟩:=j7k U2;have a:=J6 (show _/\_/\_ from⟨D3,Q3,zbt u bS⟩);have a0:=u.size;clear D3 Q3 bS u U2))
 clear s2 C;obtain⟨gn,z⟩:∃ y,y=w2.heap.size:=⟨_,rfl⟩;rw[<- z]at a a0 ⊢;have a6:g≠gn:=by omega
 have a7:=J6 z;clear z;generalize Value.agg (prC x.p v.p)=V0
 by_cases hE:re=0
 case neg =>
  replace k:=J6 (k.out.trans (if_neg hE));have a8:(re != 0)=true:=by simpa using hE
  generalize Value.agg (prC rp u2)=V2;go_wp2;go_ret2;rw[k.out];exact⟨rfl,.same (V.out.over a.out.2.2) HI.out B (Alt.of a.out.2.2)⟩
 subst hE;replace k:=J6 (k.out.trans (if_pos rfl));have G:=z0Y a.out.2.1;have l3:=z0j a.out.1 (z0b _ _);have s3:=j7h ((z7P x v rp u2).there (V.out.over a.out.2.2)) (z0b _ _) G;have hw:New P w 2=New P w 2:=rfl;have H:=J6 (q0Z HI.out B (Below.refl _ w) V.out E a.out.2.2 (a.out.2.1.mono (P':=New P w 2) fun b _ hb=>hb.1));have L:=a.out.2.1.sets (g:=g) (fun h=>by rcases h.1 with⟨h,_⟩ | h;exact B h;omega) 2 (prC rp u2).toList
 have q:=a.out.1.others (c:=g) (o:=2) (by omega) (prC rp u2).toList
 have s:=J6 (show _/\_/\_ from⟨H.out,L,q⟩);clear L q hw H G;generalize a1:Value.agg (prC rp u2)=V2 at l3 s3 ⊢;clear a1;generalize w3.setCells g 2 (prC rp u2).toList=w4 at *
 go_upto_region 7 with fail
 clear l3 s3;obtain⟨⟨v4,Z,I4,A4⟩,L,q⟩:=s.out;clear s;have m:=(Below.refl w4.heap.size w4).drew;have HS:w4.drew.cell? ⟨gn,65,none⟩=some u2.set/\w4.drew.cell? ⟨gn,0,none⟩=some (J I rp.h)/\w4.drew.cell? ⟨g,0,none⟩=some (J I x.ck):=⟨(q.over m).cell 65,(q.over m).cell 0,(Z.over m).cell 0⟩;have M:=J6 (q5E rp.set u2.set rp.h x.ck (fun b=>New P w 2 b/\b<gn) w4.drew (L.set.over m));have t:=Z.lt;have a2:=q.lt;have N:¬ New P w 0 g:=Pv.z0I B E;have s:=J6 (show _/\_/\_/\_ from⟨Z,I4,A4,q⟩);clear Z I4 A4 q L m;refine O.z1l (c:=10) (S:=fun d=>d=w4.drew) (by kernel_rfl) ?_
 have j:w4.drew=w4.drew:=rfl;refine O.z0v (i:=0) (v:=(J2 (some ⟨g,0,none⟩))) (some 27) rfl rfl (by kernel_rfl) (by kernel_rfl) (by kernel_rfl) (by decide) (fun _ _ _ h=>h) (Or.inl ⟨by rfl,?_⟩) j ?_
 ·intro d;go_simp
 refine O.z0v (i:=1) (v:=(J I (i:Int))) (some 28) rfl rfl (by kernel_rfl) (by kernel_rfl) (by kernel_rfl) (by decide) (fun _ _ _ h=>h) (Or.inl ⟨by rfl,?_⟩) j ?_
 ·intro d;go_simp
 refine O.z0v (i:=11) (v:=(J2 (some ⟨g,0,none⟩))) (some 38) rfl rfl (by kernel_rfl) (by kernel_rfl) (by kernel_rfl) (by decide) (fun _ _ _ h=>h) (Or.inl ⟨by rfl,?_⟩) j ?_
 ·intro d;go_simp
 refine O.z0v (i:=12) (v:=(J2 (some ⟨g,99,none⟩))) (some 39) rfl rfl (by kernel_rfl) (by kernel_rfl) (by kernel_rfl) (by decide) (fun _ _ _ h=>h) (Or.inl ⟨by rfl,?_⟩) j ?_
 ·intro d;go_simp
 refine O.Y 2 (J2 (some ⟨gn,65,none⟩)) 29 rfl rfl j ?_ ?_
 ·rintro d rfl;go_simp
 refine O.Y 3 u2.set 30 rfl rfl j ?_ ?_
 ·rintro d rfl;have l:=HS.1;go_simp
 refine O.Y 4 (J2 (some ⟨gn,0,none⟩)) 31 rfl rfl j ?_ ?_
 ·rintro d rfl;go_simp
 refine O.Y 5 (J I rp.h) 32 rfl rfl j ?_ ?_
 ·rintro d rfl;have l:=HS.2.1;go_simp
 refine O.Y 6 (J2 (some ⟨g,0,none⟩)) 33 rfl rfl j ?_ ?_
 ·rintro d rfl;go_simp
 refine O.Y 7 (J2 (some ⟨g,0,none⟩)) 34 rfl rfl j ?_ ?_
 ·rintro d rfl;go_simp
 refine O.Y 8 (J2 (some ⟨g,0,none⟩)) 35 rfl rfl j ?_ ?_
 ·rintro d rfl;go_simp
 refine O.Y 9 (J I x.ck) 36 rfl rfl j ?_ ?_
 ·rintro d rfl;have l:=HS.2.2;go_simp
 refine O.z1X (by kernel_rfl) rfl (fun K hK=>?_)
 refine z0B rfl ?_;go_simp;refine M.out.mono ?_;rintro e w5⟨u5,rfl,U5,Q⟩;dsimp only;have b5:=(Below.refl w4.heap.size w4).drew.trans Q;obtain⟨ts,A⟩:∃ y,y=csC (z2G rp.set rp.h x.ck) u5:=⟨_,rfl⟩;rw[<- A];have HT:=J6 A;clear A;refine hK _ _ ?_;clear hK K;refine O.X 13 (J2 (some ⟨g,99+i * 22,none⟩)) 40 rfl rfl ?_ ?_
 ·intro d;go_simp
 have q1:(Option.map (fun x=>x.size) (prog.info? 75))=some ts.size:=by rw[HT.out,z3q];rfl
 have q2:ts.all (fun x=>x.oneCell')=true:=by rw[HT.out];exact z1E U5
 have q3:w5.there g (99+i * 22) ts.size:=by rw[HT.out];exact by simpa using (z9W { x with p:=rp } v4 W (z2G rp.set rp.h x.ck) u5).there (s.out.1.over b5)
 refine O.z1Y (i:=14) (by kernel_rfl) rfl rfl 75 _ _ rfl rfl g (99+i * 22) ts rfl rfl q3 q1 q2 ?_
 refine wpAny_done (by kernel_rfl) ?_ _
 have R:CIn (New (New P w 0) w4 0) w5 (z2G rp.set rp.h x.ck) u5:=U5.mono fun b _ hb=>by
  rcases hb with⟨hb,hl⟩ | hb
  ·rcases hb.1 with h | h
   ·exact .inl ⟨.inl h,hl⟩
   ·exact .inl ⟨.inr (by omega),hl⟩
  ·exact .inr (by have:w4.drew.heap.size=w4.heap.size:=rfl;omega)
 have HZ:=J6 (q1Z s.out.2.1 N (Below.refl _ w4) s.out.1 t b5 W R);have D6:=(s.out.2.2.2.over b5).others (c:=g) (o:=99+i * 22) (by omega) ts.toList
 rw[<- HT.out]at HZ;generalize w5.setCells g (99+i * 22) ts.toList=w6 at *;clear q1 q2 q3 HS j U5 R Q M;obtain⟨v6,C6,I6,A6⟩:=HZ.out;have T:¬ New (New P w 0) w4 0 g:=Pv.z0I N t;have s8:=j7J ((j8o { x with p:=rp,c:=z3y x.c i (z2G rp.set rp.h x.ck) } v6 W hd0 hd0).there C6) rfl (by rfl)
 have Z7:=j3D I6 T C6 (j8o { x with p:=rp,c:=z3y x.c i (z2G rp.set rp.h x.ck) } v6 W hd0 hd0) rfl rfl
 have D7:=D6.others (c:=g) (o:=143+i * 8) (by omega) (hdL hd0 ++ hdL hd0)
 change (q1y (J2 (some ⟨g,143+i * 8,none⟩)) (J4 #[J I 0,J I 0,J I 0,J I 0,J I 0,J I 0,J I 0,J I 0])).run prog w6=_ at s8;have a3:=C6.lt;have HX:=J6 (z1b.trans s.out.2.2.1 (z1b.trans A6 Z7));generalize w6.setCells g (143+i * 8) (hdL hd0 ++ hdL hd0)=w7 at *;have y7:w7.cell? ⟨gn,0,none⟩=some (J I rp.h):=D7.cell 0;have a9:=D7.lt;clear C6 I6 A6 Z7 D6 D7 HZ;go_simp;go_wp2;go_ret2;rw[k.out];exact⟨rfl,HX.out⟩
end Wd
namespace Wd
open Go.RowKit Pv Kc
def Jn2{α β:Type}(A:α->β->Act)(R:α->β->World->Prop)(ex:Exit)(a:Act)(w:World):Prop:=∃ x y,ex=Exit.normal/\a=A x y/\R x y w
theorem q0p{α β:Type}{P:Program}{c:Code}{Q:Exit->Act->World->Prop}{a:Act}{w:World}(R:α->β->World->Prop)(A:α->β->Act)(h1:Code.wp P c (Jn2 A R) a w)(h2:∀ x y w',R x y w'->Q Exit.normal (A x y) w'):Code.wp P c Q a w:=
 Code.wp_mono (fun e b w' h=>by obtain⟨x,y,rfl,rfl,h⟩:=h;exact h2 x y w' h) h1
def Jn3{α β γ:Type}(A:α->β->γ->Act)(R:α->β->γ->World->Prop)(ex:Exit)(a:Act)(w:World):Prop:=∃ x y z,ex=Exit.normal/\a=A x y z/\R x y z w
theorem j5F{α β γ:Type}{P:Program}{c:Code}{Q:Exit->Act->World->Prop}{a:Act}{w:World}(R:α->β->γ->World->Prop)(A:α->β->γ->Act)(h1:Code.wp P c (Jn3 A R) a w)(h2:∀ x y z w',R x y z w'->Q Exit.normal (A x y z) w'):Code.wp P c Q a w:=
 Code.wp_mono (fun e b w' h=>by obtain⟨x,y,z,rfl,rfl,h⟩:=h;exact h2 x y z w' h) h1
structure j7H(P:Nat->Prop)(w0:World)(rc:Cs)(gn:Nat)(ts:Array Value)(w:World):Prop where
 ex:∃ u,ts=csC rc u/\CIn (fun b=>New P w0 0 b/\b≠gn) w rc u
 cat:CAt 75 w gn ts
 bel:Bl w0 w
 le:w0.heap.size<=gn
theorem q9K{P:Nat->Prop}{w0 c a:World}{rc:Cs}{u:CsV}{k:Nat}(h:CIn (New (fun b=>P b/\b<w0.heap.size) c k) a rc u)(e:c.heap.size=w0.heap.size)(hb:Bl w0 a):j7H P w0 rc a.heap.size (csC rc u) ((a.alloc (J5 Z22 75)).setCells a.heap.size 0 (csC rc u).toList):=by
 have d:Bl a ((a.alloc (J5 Z22 75)).setCells a.heap.size 0 (csC rc u).toList):=z0a (Nat.le_refl _) _ _ _ (znw a _);refine⟨⟨u,rfl,?_⟩,(CAt.new 75 a Z22).z0t (by rw[z0p];rfl),zbt hb d,hb.size⟩
 refine ((h.mono (P':=fun b=>New P w0 0 b/\b≠a.heap.size) fun b f hp=>⟨?_,by omega⟩).over d)
 rcases hp with⟨hp,_⟩ | hp
 ·exact .inl hp
 ·exact .inr (by omega)
theorem j1q{P:Nat->Prop}{w0 c a:World}{rc:Cs}{u:CsV}{k:Nat}(h:CIn (New (fun b=>P b/\b<w0.heap.size) c k) a rc u)(f:c.heap.size=w0.heap.size+1)(hb:Bl w0 a)(hc:CAt 75 a w0.heap.size Z22):j7H P w0 rc w0.heap.size (csC rc u) (a.setCells w0.heap.size 0 (csC rc u).toList):=by
 refine⟨⟨u,rfl,?_⟩,hc.z0t (by rw[z0p];rfl),z0a (Nat.le_refl _) _ _ _ hb,Nat.le_refl _⟩
 have d:CIn (fun b=>New P w0 0 b/\b≠w0.heap.size) a rc u:=h.mono fun b _ hp=>by
  rcases hp with⟨hp,_⟩ | hp
  ·exact⟨.inl hp,by omega⟩
  ·exact⟨.inr (by omega),by omega⟩
 exact d.sets (fun e=>e.2 rfl) _ _
theorem j2E{w:World}{g:Nat}{x:Wo}{v:WoV}(h:CAt 97 w g (wdC x v)){i:Nat}(a:i<2):w.cell? ⟨g,68+i * 14+6+2,none⟩=some (J I (x.p.L i).out.g):=by
 rw[h.cell]
 match i,a with
 | 0,_=>rfl
 | 1,_=>rfl
theorem z1b.q3L{P:Nat->Prop}{w w' w1:World}{g:Nat}{x:Wo}(h:z1b P w g x w')(_:¬ P g)(d:w1.heap.size=w.heap.size:=by rfl):z1b (New P w1 0) w g x w':=by
 obtain⟨v,c,i,a⟩:=h;refine⟨v,c,i.mono fun b _ hb=>?_,a⟩
 rcases hb with⟨hb,hl⟩ | hb
 ·exact .inl ⟨.inl ⟨hb,by omega⟩,hl⟩
 ·exact .inr hb
attribute [local go_sem ↓] z1r z1j z6b
theorem q6m(g:Nat)(x:Wo)(v:WoV)(P:Nat->Prop)(w:World)(i:Nat)(N:i<2)(hC:CAt 97 w g (wdC x v))(hI:WIn P w x v)(hg:¬ P g)(a0:((x.c i).rp.length+(x.c i).pd.length) * 16<=168884986026393) :
  Calls prog 61 #[J2 (some ⟨g,0,none⟩),J I (i:Int)] w (q2s P w g (z6G x i)):=by
 have hD:z6G x i=if (q1r (x.c i) x.ck).2=0 then ({ x with c:=z3y x.c i (q1r (x.c i) x.ck).1,hc:=q5U x.hc i (z8a (q1r (x.c i) x.ck).1 (x.p.L i).out.g) },0) else (x,(q1r (x.c i) x.ck).2):=by unfold z6G;rfl
 have a1:=hC.lt;have a8:(i:Int)<2:=by omega
 have a9:(0:Int)<=(i:Int):=by omega
 have B:=J6 (fun (f:World) (hb:Bl w f)=>j1O (x.c i) (v.c i) (fun b=>P b/\b<w.heap.size) f x.ck (((hI.c i N).mono (P':=fun b=>P b/\b<w.heap.size) fun b hl hp=>⟨hp,hl⟩).over hb) a0);have C:=J6 (fun (f:World) (hb:Bl w f)=>(show (z5b (J2 (some ⟨g,99+i * 22,none⟩))).run prog f=.ok (J4 (csC (x.c i) (v.c i))) f/\f.cell? ⟨g,0,none⟩=some (J I x.ck) from⟨j2k ((z9W x v N (x.c i) (v.c i)).part (hC.over hb)) (z0i _ _),(hC.over hb).cell 0⟩));generalize z6G x i=D at *;generalize q1r (x.c i) x.ck=r at *;obtain⟨rc,H⟩:=r;dsimp only at hD;have V:=J6 hD;have HC:=J6 hC;have HI:=J6 hI;clear hD hC hI a0;generalize Value.agg (csC (x.c i) (v.c i))=V0 at B C;have s:Hid (Bl w (w.alloc (J5 Z22 75)).drew):=(znw w _).drew;have M:Hid (CAt 75 (w.alloc (J5 Z22 75)).drew w.heap.size Z22):=CAt.new 75 w Z22;unfold Z22 at s
 go_enter func61,ntmps61
 go_upto_region 1 with fail
 apply q0p (fun (gn:Nat) (ts:Array Value) w'=>j7H P w rc gn ts w')
 ·skip;refine wp_region_noPanic ?_;refine wp_region_held_drew (S:=fun f=>Bl w f) (by kernel_rfl) (Below.refl _ _).drew (fun a=>?_)
  refine O.G 0 (J2 (some ⟨g,0,none⟩)) 8 rfl rfl a ?_;refine O.G 1 (J I (i:Int)) 9 rfl rfl a ?_;refine O.G 2 (J2 (some ⟨g,0,none⟩)) 10 rfl rfl a ?_;refine O.G 3 (J2 (some ⟨g,99,none⟩)) 11 rfl rfl a ?_;refine O.G 4 (J2 (some ⟨g,99+i * 22,none⟩)) 12 rfl rfl a ?_;refine O.Z 5 V0 13 rfl rfl a (fun f d=>by obtain⟨l1,l2⟩:=C.out f d;go_simp) ?_
  refine O.G 6 (J2 (some ⟨g,0,none⟩)) 14 rfl rfl a ?_;refine O.G 7 (J2 (some ⟨g,0,none⟩)) 15 rfl rfl a ?_;refine O.G 8 (J2 (some ⟨g,0,none⟩)) 16 rfl rfl a ?_;refine O.Z 9 (J I x.ck) 17 rfl rfl a (fun f d=>by obtain⟨l1,l2⟩:=C.out f d;go_simp) ?_
  refine O.z3j (i:=10) (j:=14) (by kernel_rfl) rfl rfl rfl rfl (fun K z=>?_) (fun K z=>?_)
  ·go_simp
   go_at_call 83
   refine (B.out _ (by with_reducible exact (Below.refl w.heap.size w).drew)).mono ?_
   rintro e w3⟨u3,rfl,Q,E⟩;dsimp only at Q;have hb:=(Below.refl w.heap.size w).drew.trans (E.mono (Below.refl w.heap.size w).drew.size);obtain⟨ts,k⟩:∃ y:Array Value,y=csC rc u3:=⟨_,rfl⟩;dsimp only;rw[<- k];have F:=J6 k;clear k;refine z _ _ hb ?_;clear z K;refine O.Z 11 (.tuple #[J4 ts,(J I H)]) 7 rfl rfl hb (fun f d=>?_) ?_
   ·go_simp
   refine O.Z 12 (J4 ts) 19 rfl rfl hb (fun f d=>?_) ?_
   ·go_simp
   refine O.Z 13 (J I H) 20 rfl rfl hb (fun f d=>?_) ?_
   ·go_simp
   refine O.z0R (i:=14) (by kernel_rfl) rfl rfl (fun K z=>?_)
   go_simp;refine z _ _ (hb.alloc hb.size _) ?_;clear z K;have q2:ts.all (fun x=>x.oneCell')=true:=by rw[F.out];exact z1E Q
   have m:=q9K Q (by rfl) hb
   rw[<- F.out]at m;change wpAnyH _ _ _ _ _ _ _ _ (w3.alloc (J5 Z22 75));refine O.z0n (i:=15) (by kernel_rfl) rfl rfl 75 _ _ rfl rfl w3.heap.size 0 ts rfl rfl ((CAt.new 75 w3 Z22).there 0 _ (by rw[F.out];exact Nat.le_of_eq rfl)) (by rw[F.out,z3q];rfl) q2 m.bel ?_
   refine O.Z 16 (J I H) 6 rfl rfl m.bel (fun f d=>?_) ?_
   ·go_simp
   refine wpAnyH_done (by kernel_rfl) ?_ _
   obtain⟨gn,R⟩:∃ y,y=w3.heap.size:=⟨_,rfl⟩;rw[<- R]at m ⊢;simp only[O.pp,O.pb,O.pc];exact NoPanic.normal ⟨gn,ts,rfl,rfl,m⟩
  ·go_simp;refine z _ _ (a.alloc a.size _) ?_;clear z K;refine O.z0R (i:=10) (by kernel_rfl) rfl rfl (fun K z=>?_)
   go_simp
   go_at_call 83
   refine (B.out _ (by with_reducible exact s.out)).mono ?_
   rintro e w3⟨u3,rfl,Q,E⟩;dsimp only at Q;have hb:=zbt s.out E;obtain⟨ts,k⟩:∃ y:Array Value,y=csC rc u3:=⟨_,rfl⟩;dsimp only;rw[<- k];have F:=J6 k;clear k;refine z _ _ hb ?_;clear z K;refine O.Z 11 (.tuple #[J4 ts,(J I H)]) 7 rfl rfl hb (fun f d=>?_) ?_
   ·go_simp
   refine O.Z 12 (J4 ts) 19 rfl rfl hb (fun f d=>?_) ?_
   ·go_simp
   refine O.Z 13 (J I H) 20 rfl rfl hb (fun f d=>?_) ?_
   ·go_simp
   have q2:ts.all (fun x=>x.oneCell')=true:=by rw[F.out];exact z1E Q
   have R3:=M.out.over E;have m:=j1q Q (by simp) hb R3
   rw[<- F.out]at m;refine O.z0n (i:=15) (by kernel_rfl) rfl rfl 75 _ _ rfl rfl w.heap.size 0 ts rfl rfl (R3.there 0 _ (by rw[F.out];exact Nat.le_of_eq rfl)) (by rw[F.out,z3q];rfl) q2 m.bel ?_
   refine O.Z 16 (J I H) 6 rfl rfl m.bel (fun f d=>?_) ?_
   ·go_simp
   refine wpAnyH_done (by kernel_rfl) ?_ _
   obtain⟨gn,R⟩:∃ y,y=w.heap.size:=⟨_,rfl⟩;rw[<- R]at m ⊢;simp only[O.pp,O.pb,O.pc];exact NoPanic.normal ⟨gn,ts,rfl,rfl,m⟩
 rintro gn ts w5 S5;have q:=J6 S5;have b4:=S5.le;have a6:=S5.cat.lt;clear S5 C B s M;have b5:g≠gn:=by omega
 simp only[Exit.then];apply_assumption
 by_cases hE:H=0
 case neg =>
  replace V:=J6 (V.out.trans (if_neg hE));have b6:(H != 0)=true:=by simpa using hE
  go_wp2;go_ret;rw[V.out];exact⟨rfl,.same (HC.out.over q.out.bel) HI.out hg (Alt.of q.out.bel)⟩
 subst hE;replace V:=J6 (V.out.trans (if_pos rfl))
 go_upto_region 4 with fail
 obtain⟨u,T,U⟩:=q.out.ex;have k:ts.size=22:=by rw[T];rfl
 have W:=J6 (show _/\_ from⟨T,U.over (Below.refl w5.heap.size w5).drew⟩);clear T;refine wp_region_held_drew (S:=fun f=>(z5b (J2 (some ⟨gn,0,none⟩))).run prog f=.ok (J4 ts) f) (by kernel_rfl) (z2p (q.out.cat.over (Below.refl w5.heap.size w5).drew) k) (fun a=>?_)
 refine O.G 0 (J2 (some ⟨g,0,none⟩)) 24 rfl rfl a ?_;refine O.G 1 (J I (i:Int)) 25 rfl rfl a ?_;refine O.Z 2 (J4 ts) 26 rfl rfl a (fun f d=>?_) ?_
 ·(try dsimp only at d);have l:=d;go_simp
 refine O.G 3 (J2 (some ⟨g,0,none⟩)) 27 rfl rfl a ?_;refine O.G 4 (J2 (some ⟨g,99,none⟩)) 28 rfl rfl a ?_;refine O.G 5 (J2 (some ⟨g,99+i * 22,none⟩)) 29 rfl rfl a ?_;have q1:(Option.map (fun x=>x.size) (prog.info? 75))=some ts.size:=by rw[k,z3q]
 have q2:ts.all (fun x=>x.oneCell')=true:=by rw[W.out.1];exact z1E W.out.2
 have q3:w5.drew.there g (99+i * 22) ts.size:=by rw[W.out.1];exact by simpa using (z9W x v N rc u).there ((HC.out.over q.out.bel).over (Below.refl w5.heap.size w5).drew)
 have qS:=z2p ((q.out.cat.over (Below.refl w5.heap.size w5).drew).others (c:=g) (o:=99+i * 22) (by omega) ts.toList) k
 simp only[O.pp,O.pb,O.pc];refine O.z0n (i:=6) (by kernel_rfl) rfl rfl 75 _ _ rfl rfl g (99+i * 22) ts rfl rfl q3 q1 q2 qS ?_
 refine wpAnyH_done (by kernel_rfl) ?_ _
 have Z6:=q1Z HI.out hg (Below.refl _ w) HC.out a1 (q.out.bel.trans ((Below.refl w5.heap.size w5).drew.mono q.out.bel.size)) N (W.out.2.mono (P':=New P w 0) fun b _ hb=>hb.1);rw[<- W.out.1]at Z6;have X:=(q.out.cat.over (Below.refl w5.heap.size w5).drew).others (c:=g) (o:=99+i * 22) (by omega) ts.toList
 clear q1 q2 q3 qS a;generalize w5.drew.setCells g (99+i * 22) ts.toList=w6 at *;obtain⟨v6,Y,I6,A6⟩:=Z6;obtain⟨As,Ds,es,-,-⟩:=z3b U.said (z0V rc.out.S) (by decide)
 rw[W.out.1]at X;have a7:=Y.lt;have n:=(Below.refl w6.heap.size w6).drew
 have a2:w6.drew.cell? ⟨gn,2,none⟩=some (J I rc.h)/\w6.drew.cell? ⟨gn,3,none⟩=some (J I rc.t)/\w6.drew.cell? ⟨gn,14,none⟩=some (J1 As rc.out.S.length Ds)/\w6.drew.cell? ⟨g,68+i * 14+6+2,none⟩=some (J I (x.p.L i).out.g):=
  ⟨(X.over n).cell 2,(X.over n).cell 3,by rw[<- es];exact (X.over n).cell 14,j2E (Y.over n) N⟩
 have A:=j5S { x with c:=z3y x.c i rc } v6 N (z8a rc (x.p.L i).out.g)
 rw[show 147+i * 8=143+i * 8+4 by omega]at A
 have a5:=J6 A;have D7:=(X.over n).others (c:=g) (o:=143+i * 8+4) (by omega) (hdL (z8a rc (x.p.L i).out.g))
 have C7:=A.sets (Y.over n)
 have a3:Hid ((w6.drew.setCells g (143+i * 8+4) (hdL (z8a rc (x.p.L i).out.g))).cell? ⟨gn,2,none⟩=some (J I rc.h)/\(w6.drew.setCells g (143+i * 8+4) (hdL (z8a rc (x.p.L i).out.g))).cell? ⟨gn,3,none⟩=some (J I rc.t)/\(w6.drew.setCells g (143+i * 8+4) (hdL (z8a rc (x.p.L i).out.g))).cell? ⟨gn,14,none⟩=some (J1 As rc.out.S.length Ds)/\(w6.drew.setCells g (143+i * 8+4) (hdL (z8a rc (x.p.L i).out.g))).cell? ⟨g,68+i * 14+6+2,none⟩=some (J I (x.p.L i).out.g)):=
  ⟨D7.cell 2,D7.cell 3,by rw[<- es];exact D7.cell 14,j2E C7 N⟩
 have a4:¬ New P w 0 g:=Pv.z0I hg a1;have Z7:=j3D (I6.over n) a4 (Y.over n) A rfl rfl;have HX:=J6 (z1b.trans A6 (z1b.trans (Alt.of (g:=g) n) (Z7.q3L a4)));have H6:=J6 (show _/\_ from⟨Y,I6⟩);clear Y I6 A6 X D7 C7 Z7 A n es U;go_simp
 go_upto_region 5 with fail
 refine wp_region_held_drew (S:=fun f=>f.cell? ⟨gn,2,none⟩=some (J I rc.h)/\f.cell? ⟨gn,3,none⟩=some (J I rc.t)/\f.cell? ⟨gn,14,none⟩=some (J1 As rc.out.S.length Ds)/\f.cell? ⟨g,68+i * 14+6+2,none⟩=some (J I (x.p.L i).out.g)) (by kernel_rfl) a2 (fun a=>?_)
 refine O.G 0 (J2 (some ⟨g,0,none⟩)) 30 rfl rfl a ?_;refine O.G 1 (J I (i:Int)) 31 rfl rfl a ?_;refine O.G 2 (J2 (some ⟨gn,2,none⟩)) 32 rfl rfl a ?_;refine O.Z 3 (J I rc.h) 33 rfl rfl a (fun f d=>by obtain⟨l1,l2,l3,l4⟩:=d;go_simp) ?_
 refine O.G 4 (J2 (some ⟨gn,3,none⟩)) 34 rfl rfl a ?_;refine O.Z 5 (J I rc.t) 35 rfl rfl a (fun f d=>by obtain⟨l1,l2,l3,l4⟩:=d;go_simp) ?_
 refine O.G 6 (J2 (some ⟨gn,14,none⟩)) 36 rfl rfl a ?_;refine O.G 7 (J2 (some ⟨gn,14,none⟩)) 37 rfl rfl a ?_;refine O.Z 8 (J1 As rc.out.S.length Ds) 38 rfl rfl a (fun f d=>by obtain⟨l1,l2,l3,l4⟩:=d;go_simp) ?_
 refine O.G 9 (J I (rc.out.S.length:Int)) 39 rfl rfl a ?_;refine O.G 10 (J2 (some ⟨g,0,none⟩)) 40 rfl rfl a ?_;refine O.G 11 (J I (i:Int)) 41 rfl rfl a ?_;refine O.G 12 (J2 (some ⟨g,0,none⟩)) 42 rfl rfl a ?_;refine O.G 13 (J2 (some ⟨g,2,none⟩)) 43 rfl rfl a ?_;refine O.G 14 (J2 (some ⟨g,68,none⟩)) 44 rfl rfl a ?_;refine O.G 15 (J2 (some ⟨g,68+i * 14,none⟩)) 45 rfl rfl a ?_;refine O.G 16 (J2 (some ⟨g,68+i * 14+6,none⟩)) 46 rfl rfl a ?_;refine O.G 17 (J2 (some ⟨g,68+i * 14+6+2,none⟩)) 47 rfl rfl a ?_;refine O.Z 18 (J I (x.p.L i).out.g) 48 rfl rfl a (fun f d=>by obtain⟨l1,l2,l3,l4⟩:=d;go_simp) ?_
 refine O.G 19 (J4 #[J I rc.h,J I rc.t,J I (rc.out.S.length:Int),J I (x.p.L i).out.g]) 49 rfl rfl a ?_;refine O.G 20 (J2 (some ⟨g,0,none⟩)) 50 rfl rfl a ?_;refine O.G 21 (J2 (some ⟨g,143,none⟩)) 51 rfl rfl a ?_;refine O.G 22 (J2 (some ⟨g,143+i * 8,none⟩)) 52 rfl rfl a ?_;refine O.G 23 (J2 (some ⟨g,143+i * 8+4,none⟩)) 53 rfl rfl a ?_;have q1:(Option.map (fun x=>x.size) (prog.info? 50))=some (#[J I rc.h,J I rc.t,J I (rc.out.S.length:Int),J I (x.p.L i).out.g]:Array Value).size:=by rw[q2L];rfl
 have q2:(#[J I rc.h,J I rc.t,J I (rc.out.S.length:Int),J I (x.p.L i).out.g]:Array Value).all (fun x=>x.oneCell')=true:=by simp[Value.oneCell']
 have q3:w6.drew.there g (143+i * 8+4) (#[J I rc.h,J I rc.t,J I (rc.out.S.length:Int),J I (x.p.L i).out.g]:Array Value).size:=a5.out.there (H6.out.1.over (Below.refl w6.heap.size w6).drew);simp only[O.pp,O.pb,O.pc];refine O.z0n (i:=24) (by kernel_rfl) rfl rfl 50 _ _ rfl rfl g (143+i * 8+4) #[J I rc.h,J I rc.t,J I (rc.out.S.length:Int),J I (x.p.L i).out.g] rfl rfl q3 q1 q2 a3.out ?_
 refine wpAnyH_done (by kernel_rfl) ?_ _
 change Exit.then _ _ _ _ (w6.drew.setCells g (143+i * 8+4) (hdL (z8a rc (x.p.L i).out.g)));clear q1 q2 q3 a a2 a3;generalize w6.drew.setCells g (143+i * 8+4) (hdL (z8a rc (x.p.L i).out.g))=w7 at *;go_simp;go_wp2;go_ret;rw[V.out];exact⟨rfl,HX.out⟩
end Wd
end Go.Proofs.YtddlhnoedldidaaGreat
