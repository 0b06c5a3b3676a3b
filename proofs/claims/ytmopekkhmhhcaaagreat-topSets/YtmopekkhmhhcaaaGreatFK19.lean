/- Parts of the proof. -/
import Derived.Test.YtmopekkhmhhcaaaGreatFL
import Derived.Test.YtmopekkhmhhcaaaGreatFK18
import Derived.Test.YtmopekkhmhhcaaaGreatFK29
import Derived.Deep.RegionLaw
import Derived.Laws.OwnMore
import Derived.Deep.SlicePairs
import Derived.OpenShut
import Derived.Deep.Slices
import Derived.SizedLaws
set_option maxRecDepth 100000
set_option maxHeartbeats 16000000
namespace Go.Proofs.YtmopekkhmhhcaaaGreat
open Go.Proofs.Tryz
namespace Ln
open Go.RowKit
theorem z1n{w w':World}{b e z n:Nat}{v:Value}{xs:List Value}(h:w.ownsRow b e z v n xs)(hk:∀ k,v.ownBlock=some k->w'.heap[k]?=w.heap[k]?):w'.ownsRow b e z v n xs:=by
 refine⟨h.1,?_⟩
 rcases h.2 with hn | ⟨g,cap,cur,rfl,hb,hg,rest⟩
 ·exact .inl hn
 ·exact .inr ⟨g,cap,cur,rfl,hb,(hk g rfl).trans hg,rest⟩
theorem z4g{w w':World}{b e z n:Nat}{v:Value}{xs:List Value}(h:w.ownsRow b e z v n xs)(hb:Below w.heap.size w w'):w'.ownsRow b e z v n xs:=z1n h fun k hk=>hb.block k (World.ownsRow.lt h k hk).2
theorem z3E{w:World}{b e z n:Nat}{v:Value}{xs:List Value}(h:w.ownsRow b e z v n xs):∃ A C,v=.slice A n C:=by
 rcases h.2 with⟨hv,hn⟩ | ⟨g,cap,cur,hv,_⟩
 ·subst hn;exact⟨_,_,hv⟩
 ·exact⟨_,_,hv⟩
end Ln
namespace Cd
open Go.ChangeShapes Go.WideShapes Go.ChangeAt Go.RowKit Go.Deep
structure q6U(w:World)(S:List (Int×Int))(D:List Int)(sa da:Option Addr)(sb so db dO:Nat):Prop where
 hls:S.length<=maxLen
 hld:D.length<=maxLen
 hsa:0<S.length->sa=some ⟨sb,so,none⟩
 hda:0<D.length->da=some ⟨db,dO,none⟩
 PS:z5z w sb so S
 PD:z1b w db dO D
theorem q6U.later{w w':World}{S:List (Int×Int)}{D:List Int}{sa da:Option Addr}{sb so db dO:Nat}(h:q6U w S D sa da sb so db dO)(hb:Below w.heap.size w w'):q6U w' S D sa da sb so db dO:=
 ⟨h.hls,h.hld,h.hsa,h.hda,h.PS.later hb,h.PD.later hb⟩
section
variable {H:Type} {enc:TypeId×Value->H} {W:World}
end
end Cd
namespace Cd
open Go.RowKit
theorem j8S:(prog.info? 68).map (fun i=>(i.zero,i.size,i.bytes))=some (some (.agg #[.int .i64 0,.int .i64 0]),2,16):=by kernel_rfl
theorem info3:(prog.info? 3).map (fun i=>(i.zero,i.size,i.bytes))=some (some (.int .i64 0),1,8):=by kernel_rfl
theorem so{w:World}{b i j:Nat}{v u:Value}(hij:i≠j)(h:w.cell? ⟨b,j,none⟩=some u):(w.setCell ⟨b,i,none⟩ v).cell? ⟨b,j,none⟩=some u:=
 (World.cell?_setCell_other _ _ _ _ (fun e=>hij (by cases e;rfl))).trans h
theorem ss{w:World}{b i:Nat}{v u:Value}(h:w.cell? ⟨b,i,none⟩=some u):(w.setCell ⟨b,i,none⟩ v).cell? ⟨b,i,none⟩=some v:=World.cell?_setCell_same _ _ _ h
def z3M(w:World)(b:Nat)(v0 v1 v2 v3 v4 v5:Value):World:=
 (((((w.setCell ⟨b,0,none⟩ v0).setCell ⟨b,1,none⟩ v1).setCell ⟨b,2,none⟩ v2).setCell ⟨b,3,none⟩ v3).setCell ⟨b,4,none⟩ v4).setCell ⟨b,5,none⟩ v5
theorem z4V{w:World}{b:Nat}(v0 v1 v2 v3 v4 v5:Value)(h:∀ o,o<6->∃ u,w.cell? ⟨b,o,none⟩=some u) :
  (z3M w b v0 v1 v2 v3 v4 v5).cell? ⟨b,0,none⟩=some v0/\(z3M w b v0 v1 v2 v3 v4 v5).cell? ⟨b,1,none⟩=some v1/\(z3M w b v0 v1 v2 v3 v4 v5).cell? ⟨b,2,none⟩=some v2 /\
  (z3M w b v0 v1 v2 v3 v4 v5).cell? ⟨b,3,none⟩=some v3/\(z3M w b v0 v1 v2 v3 v4 v5).cell? ⟨b,4,none⟩=some v4/\(z3M w b v0 v1 v2 v3 v4 v5).cell? ⟨b,5,none⟩=some v5:=by
 obtain⟨u0,h0⟩:=h 0 (by omega)
 obtain⟨u1,h1⟩:=h 1 (by omega)
 obtain⟨u2,h2⟩:=h 2 (by omega)
 obtain⟨u3,h3⟩:=h 3 (by omega)
 obtain⟨u4,h4⟩:=h 4 (by omega)
 obtain⟨u5,h5⟩:=h 5 (by omega)
 exact⟨so (by decide) (so (by decide) (so (by decide) (so (by decide) (so (by decide) (ss (h0)))))),so (by decide) (so (by decide) (so (by decide) (so (by decide) (ss (so (by decide) (h1)))))),so (by decide) (so (by decide) (so (by decide) (ss (so (by decide) (so (by decide) (h2)))))),so (by decide) (so (by decide) (ss (so (by decide) (so (by decide) (so (by decide) (h3)))))),so (by decide) (ss (so (by decide) (so (by decide) (so (by decide) (so (by decide) (h4)))))),ss (so (by decide) (so (by decide) (so (by decide) (so (by decide) (so (by decide) (h5))))))⟩
theorem z3S{B:Nat}{w0 w:World}{b:Nat}(v0 v1 v2 v3 v4 v5:Value)(h:Below B w0 w)(hB:B<=b):Below B w0 (z3M w b v0 v1 v2 v3 v4 v5):=
 (((((h.setCell hB _).setCell hB _).setCell hB _).setCell hB _).setCell hB _).setCell hB _
theorem z6R{w:World}{b:Nat}(v0 v1 v2 v3 v4 v5:Value){c:Nat}(hc:c≠b):(z3M w b v0 v1 v2 v3 v4 v5).heap[c]?=w.heap[c]?:=by
 unfold z3M;rw[Below.heap_setCell _ _ _ _ hc,Below.heap_setCell _ _ _ _ hc,Below.heap_setCell _ _ _ _ hc,Below.heap_setCell _ _ _ _ hc,Below.heap_setCell _ _ _ _ hc,Below.heap_setCell _ _ _ _ hc]
end Cd
namespace Pv
open Go.RowKit
section
variable {P:Nat->Prop} {w w':World} {v:Value} {sz bts:Nat} {cs:List Value}
theorem Rep.line{x:Ln.Line}{v1 v2:Value}(h1:Rep P w v1 1 16 (txC x.S))(h2:Rep P w v2 1 8 (inC x.D)):∃ A1 C1 A2 C2 sb so db dO,v1=.slice A1 x.S.length C1/\v2=.slice A2 x.D.length C2/\Ln.LAt w x A1 A2 C1 C2 sb so db dO/\(0<x.S.length->P sb)/\(0<x.D.length->P db):=by
 obtain⟨A1,n1,C1,a1,a2,a3,a4,a5⟩:=h1;obtain⟨A2,n2,C2,b1,b2,b3,b4,b5⟩:=h2;rw[z2c]at a2;rw[z0r]at b2;have e1:n1=x.S.length:=by omega
 have e2:n2=x.D.length:=by omega
 subst e1 e2
 have hs:∃ sb so,(0<x.S.length->A1=some ⟨sb,so,none⟩/\P sb)/\Ln.z3B w sb so x.S:=by
  rcases Nat.eq_zero_or_pos x.S.length with h0 | h0
  ·exact⟨0,0,fun h=>by omega,fun i hi=>by omega⟩
  ·obtain⟨b,off,e,hp,_,hc⟩:=a5 h0;exact⟨b,off,fun _=>⟨e,hp⟩,fun i hi=>hc i _ (z7x _ i hi)⟩
 have hd:∃ db dO,(0<x.D.length->A2=some ⟨db,dO,none⟩/\P db)/\Ln.z1b w db dO x.D:=by
  rcases Nat.eq_zero_or_pos x.D.length with h0 | h0
  ·exact⟨0,0,fun h=>by omega,fun i hi=>by omega⟩
  ·obtain⟨b,off,e,hp,_,hc⟩:=b5 h0;exact⟨b,off,fun _=>⟨e,hp⟩,fun i hi=>hc i _ (z4J _ i hi)⟩
 obtain⟨sb,so,s1,s2⟩:=hs;obtain⟨db,dO,d1,d2⟩:=hd;exact⟨A1,C1,A2,C2,sb,so,db,dO,a1,b1,⟨a3,b3,fun h=>(s1 h).1,fun h=>(d1 h).1,a4.1,b4.1,s2,d2⟩,fun h=>(s1 h).2,fun h=>(d1 h).2⟩
theorem Rep.lies{S:List (Int×Int)}{D:List Int}{v1 v2:Value}(h1:Rep P w v1 2 16 (pwC S))(h2:Rep P w v2 1 8 (inC D)):∃ A1 C1 A2 C2 sb so db dO,v1=.slice A1 S.length C1/\v2=.slice A2 D.length C2/\Cd.q6U w S D A1 A2 sb so db dO:=by
 obtain⟨A1,n1,C1,a1,a2,a3,a4,a5⟩:=h1;obtain⟨A2,n2,C2,b1,b2,b3,b4,b5⟩:=h2;rw[z0c]at a2;rw[z0r]at b2;have e1:n1=S.length:=by omega
 have e2:n2=D.length:=by omega
 subst e1 e2
 have hs:∃ sb so,(0<S.length->A1=some ⟨sb,so,none⟩)/\Cd.z5z w sb so S:=by
  rcases Nat.eq_zero_or_pos S.length with h0 | h0
  ·exact⟨0,0,fun h=>by omega,fun i hi=>by omega⟩
  ·obtain⟨b,off,e,hp,_,hc⟩:=a5 h0;exact⟨b,off,fun _=>e,fun i hi=>⟨hc _ _ (z2h _ i hi).1,hc _ _ (z2h _ i hi).2⟩⟩
 have hd:∃ db dO,(0<D.length->A2=some ⟨db,dO,none⟩)/\Cd.z1b w db dO D:=by
  rcases Nat.eq_zero_or_pos D.length with h0 | h0
  ·exact⟨0,0,fun h=>by omega,fun i hi=>by omega⟩
  ·obtain⟨b,off,e,hp,_,hc⟩:=b5 h0;exact⟨b,off,fun _=>e,fun i hi=>hc i _ (z4J _ i hi)⟩
 obtain⟨sb,so,s1,s2⟩:=hs;obtain⟨db,dO,d1,d2⟩:=hd;exact⟨A1,C1,A2,C2,sb,so,db,dO,a1,b1,⟨by unfold maxLen;omega,by unfold maxLen;omega,s1,d1,s2,d2⟩⟩
end
theorem j0V(a x c y:List Value)(h:x.length=y.length):spl (a ++ (x ++ c)).toArray a.length y=(a ++ (y ++ c)).toArray:=by
 apply Array.ext_getElem?;intro i;rw[q2p _ _ _ _ (by simp;omega)]
 simp only[List.getElem?_toArray]
 by_cases h1:i<a.length
 ·rw[if_neg (by omega),List.getElem?_append_left h1,List.getElem?_append_left h1]
 ·obtain⟨j,rfl⟩:∃ j,i=a.length+j:=⟨i - a.length,by omega⟩
  have e:∀ z:List Value,(a ++ z)[a.length+j]?=z[j]?:=fun z=>by rw[List.getElem?_append_right (by omega),Nat.add_sub_cancel_left]
  rw[e,e,Nat.add_sub_cancel_left]
  by_cases h2:j<y.length
  ·rw[if_pos ⟨by omega,by omega⟩,List.getElem?_append_left h2]
  ·rw[if_neg (by omega),List.getElem?_append_right (by omega),List.getElem?_append_right (by omega),h]
theorem set_mid(a x c:List Value)(n j:Nat)(u:Value)(hn:a.length=n)(hj:j<x.length):((a ++ (x ++ c)).toArray).setIfInBounds (n+j) u=(a ++ (x.set j u ++ c)).toArray:=by
 subst hn;rw[List.setIfInBounds_toArray,List.set_append_right _ _ (by omega),Nat.add_sub_cancel_left,List.set_append_left _ _ hj]
def Join(A:Act)(R:World->Prop)(ex:Exit)(a:Act)(w:World):Prop:=ex=Exit.normal/\a=A/\R w
theorem z4l{P:Program}{c:Code}{Q:Exit->Act->World->Prop}{a:Act}{w:World}(R:World->Prop)(A:Act)(h1:Code.wp P c (Join A R) a w)(h2:∀ w',R w'->Q Exit.normal A w'):Code.wp P c Q a w:=
 Code.wp_mono (fun e a' w' h=>by obtain⟨rfl,rfl,h⟩:=h;exact h2 w' h) h1
def y0l(A:Value->Act)(R:Value->World->Prop)(ex:Exit)(a:Act)(w:World):Prop:=∃ x,ex=Exit.normal/\a=A x/\R x w
theorem q3G{P:Program}{c:Code}{Q:Exit->Act->World->Prop}{a:Act}{w:World}(R:Value->World->Prop)(A:Value->Act)(h1:Code.wp P c (y0l A R) a w)(h2:∀ x w',R x w'->Q Exit.normal (A x) w'):Code.wp P c Q a w:=
 Code.wp_mono (fun e a' w' h=>by obtain⟨x,rfl,rfl,h⟩:=h;exact h2 x w' h) h1
end Pv
namespace Pv
open Go.RowKit
structure Alt(g:Nat)(w w':World):Prop where
 os:w'.os=w.os
 tape:w'.tape=w.tape
 output:w'.output=w.output
 size:w.heap.size<=w'.heap.size
 block:∀ k,k<w.heap.size->k≠g->w'.heap[k]?=w.heap[k]?
theorem Alt.refl(g:Nat)(w:World):Alt g w w:=⟨rfl,rfl,rfl,Nat.le_refl _,fun _ _ _=>rfl⟩
theorem Alt.trans{g:Nat}{w w1 w2:World}(h:Alt g w w1)(k:Alt g w1 w2):Alt g w w2:=⟨k.os.trans h.os,k.tape.trans h.tape,k.output.trans h.output,Nat.le_trans h.size k.size,fun i hi hn=>(k.block i (Nat.lt_of_lt_of_le hi h.size) hn).trans (h.block i hi hn)⟩
theorem Alt.of{g:Nat}{w w':World}(h:Below w.heap.size w w'):Alt g w w':=⟨h.os,h.tape,h.output,h.size,fun k hk _=>h.block k hk⟩
theorem Alt.below{g B:Nat}{w w':World}(h:Alt g w w')(hB:B<=g)(hw:B<=w.heap.size):Below B w w':=⟨h.os,h.tape,h.output,h.size,fun k hk=>h.block k (by omega) (by omega)⟩
theorem Alt.set{g:Nat}{w w':World}(h:Alt g w w')(o:Nat)(v:Value):Alt g w (w'.setCell ⟨g,o,none⟩ v):=
 ⟨h.os,h.tape,h.output,(by simp[World.setCell];exact h.size),fun k hk hn=>(Below.heap_setCell _ _ _ _ hn).trans (h.block k hk hn)⟩
theorem Alt.sets{g:Nat}:∀ (vs:List Value) {w w':World} (_:Alt g w w') (o:Nat),Alt g w (w'.setCells g o vs)
 | [],_,_,h,_=>h
 | _ :: r,_,_,h,o=>Alt.sets r (h.set o _) (o+1)
theorem Alt.cat{g:Nat}{w w':World}(h:Alt g w w'){b:Nat}(hb:b≠g){t:TypeId}{cs:Array Value}(c:CAt t w b cs):CAt t w' b cs:=(h.block b c.lt hb).trans c
theorem Alt.rep{g:Nat}{w w':World}(h:Alt g w w'){P:Nat->Prop}(hP:¬ P g){v:Value}{sz bts:Nat}{cs:List Value}(hp:Rep P w v sz bts cs):Rep P w' v sz bts cs:=hp.keep fun b hb hlt=>h.block b hlt (fun e=>hP (e ▸ hb))
def New(P:Nat->Prop)(w:World)(k b:Nat):Prop:=(P b/\b<w.heap.size)∨w.heap.size+k<=b
theorem z3P{P:Nat->Prop}{w:World}{k j:Nat}(h:j<k):¬ New P w k (w.heap.size+j):=fun hn=>by
 rcases hn with⟨_,h1⟩ | h1 <;> omega
end Pv
namespace Wd
open Go.ChangeShapes Go.WideShapes Go.ChangeAt Go.RowKit Go.Deep
section
variable {H:Type} {enc:TypeId×Value->H} {W:World}
structure Dd where
 k:Int
 c:Int
 d:Int
 v:Int
 n:Int
 b:Bool
 f:Bool
def ddC(x:Dd):Array Value:=#[.int .i64 x.k,.int .i64 x.c,.int .i64 x.d,.int .i64 x.v,.int .i64 x.n,.bool x.b,.bool x.f]
end
end Wd
namespace Cd
open Go.RowKit
def z4x(acc:Int)(l:List Int):Int:=l.foldl (fun n c=>n * 256+c) acc
theorem z8f(m:Nat):(2:Int) ^ (8 * (m+1))=2 ^ (8 * m) * 256:=by
 rw[show 8 * (m+1)=8 * m+8 by omega,Int.pow_add];rfl
theorem q4a(m:Nat):(0:Int)<2 ^ (8 * m):=Int.pow_pos (by decide)
theorem j7h(n:Int)(m:Nat):∀ c∈be n m,0<=c/\c<256:=by
 induction m with
 | zero=>simp[be]
 | succ m ih =>
  intro c hc
  rcases List.mem_cons.1 hc with rfl | hc
  ·omega
  ·exact ih c hc
theorem j3A(k i v n:Int)(S:List (Int×Int))(D:List Int):∀ c∈enc k i v n S D,0<=c/\c<256:=by
 intro c hc;unfold enc q4j at hc;simp only[List.mem_append,List.mem_flatMap,z5h]at hc
 rcases hc with ((((((h | h) | h) | h) | h) | ⟨p,_,h | h⟩) | h) | ⟨p,_,h⟩ <;> exact j7h _ _ c h
def encS(k i v n:Int)(S:List (Int×Int))(D:List Int):ByteArray:=if z0m k i v n S D=0 then strOfNums (enc k i v n S D) else ⟨#[]⟩
theorem z6L(k i v n:Int)(S:List (Int×Int))(D:List Int)(sa da:Option Addr)(cs cd sb so db dO:Nat)(w:World)(L:q6U w S D sa da sb so db dO) :
  Calls prog 122 #[.agg #[.int .i64 k,.int .i64 i,.int .i64 v,.int .i64 n,.slice sa S.length cs,.slice da D.length cd]] w fun e w'=>e=.returned (.tuple #[.string (encS k i v n S D),.int .i64 (z0m k i v n S D)])/\Below w.heap.size w w':=by
 by_cases h:z0m k i v n S D=0
 ·rw[encS,if_pos h,h];exact q9W k i v n S D sa da cs cd sb so db dO w L.hls L.hld L.hsa L.hda L.PS L.PD h
 ·rw[encS,if_neg h];exact q6q k i v n S D sa da cs cd sb so db dO w L.hls L.hld L.hsa L.hda L.PS L.PD h
end Cd
namespace Pv
open Go.RowKit
def z8E(last:Int)(x:Int×Int):Bool:=decide (last<x.1) && decide (x.1<=5) && decide (1<=x.2) && decide (x.2<=1125899906842624)
def z2N(last:Int):List (Int×Int)->Bool
 | []=>true
 | x :: l=>z8E last x && z2N x.1 l
def z2g(last:Int):List Int->Bool
 | []=>true
 | x :: l=>(decide (last<x) && decide (x<=5)) && z2g x l
theorem z3H{α:Type}{l:List α}{k:Nat}(h:k<l.length):∃ x,l[k]?=some x/\l.drop k=x :: l.drop (k+1):=⟨l[k],List.getElem?_eq_getElem h,List.drop_eq_getElem_cons h⟩
end Pv
section
open Go.RowKit
theorem y0e(g cap:Nat)(lim:Int)(l:List Pw)(w:World)(h:z1V w g l)(hn:l.length<=12) :
  Calls prog 158 #[.slice (some ⟨g,0,none⟩) l.length cap,.int .i64 0,.int .i64 (l.length:Int),.int .i64 lim,.func (.func 118) #[] #[]] w fun e w'=>e=.returned (.tuple #[])/\z1V w' g (z2G ltP l)/\z3f g w w':=by
 have hI:=j2S g cap l w h hn;have hn':(l.length:Int)<=12:=by omega
 clear h
 go_enter func158,ntmps158
 go_wp2_with fail
 go_loopw [1,2] (fun a b wl=>a=.int .i64 0/\b=.int .i64 (l.length:Int)/\Hid (wl=w)) (fun _ _ _=>0)
 case atStart=>exact⟨rfl,rfl,rfl⟩
 case round =>
  obtain⟨rfl,rfl,HW⟩:=hrel;have e:=HW.out;subst e;clear HW
  go_wp2_with (go_at_call 179;refine hI.mono ?_;rintro e w1⟨rfl,h1⟩;have H1:=hide h1;clear h1)
  exact bodyPost_ret (v:=.tuple #[]) (by simp[results,results158]) rfl ⟨rfl,H1.out⟩
theorem q1H(n:Nat)(hn:n<=12)(w:World):Calls prog 159 #[.int .u64 (n:Int)] w fun e w'=>(∃ k,e=.returned (.int .i64 k))/\w=w':=by
 have hL:=Ra.j2B n (by omega)
 go_enter func159,ntmps159
 go_wp2_with (go_at_call 188;refine (hL _).mono ?_;rintro e w1⟨rfl,rfl⟩)
 go_ret;exact⟨⟨_,rfl⟩,rfl⟩
theorem j6s(g cap:Nat)(l:List Pw)(w:World)(h:z1V w g l)(hn:l.length<=12) :
  Calls prog 117 #[.slice (some ⟨g,0,none⟩) l.length cap,.func (.func 118) #[] #[]] w fun e w'=>e=.returned (.tuple #[])/\z1V w' g (z2G ltP l)/\z3f g w w':=by
 have hP:=fun lim=>y0e g cap lim l w h hn;have hL:=q1H l.length hn w;clear h
 go_enter func117,ntmps117
 go_wp2_with (first
  | (go_at_call 159;refine hL.mono ?_;rintro e w1⟨⟨k,rfl⟩,rfl⟩)
  | (go_at_call 158;refine (hP _).mono ?_;rintro e w2⟨rfl,h1⟩;have H1:=hide h1;clear h1))
 go_end0;exact⟨rfl,H1.out⟩
def pwL:List Pw->List Value
 | []=>[]
 | x :: r=>.int .i64 x.1 :: .int .i64 x.2 :: pwL r
theorem z9I:∀ (a b:List Pw),pwL (a ++ b)=pwL a ++ pwL b
 | [],_=>rfl
 | x :: r,b=>by simp only[List.cons_append,pwL,z9I r b]
theorem j0U:∀ (l:List Pw) (i:Nat) (x:Pw),l[i]?=some x->(pwL l)[i * 2]?=some (.int .i64 x.1)/\(pwL l)[i * 2+1]?=some (.int .i64 x.2)
 | [],i,x,h=>by simp at h
 | y :: r,0,x,h=>by simp at h;subst h;exact⟨rfl,rfl⟩
 | y :: r,i+1,x,h=>by
  have:=j0U r i x (by simpa using h)
  rw[show (i+1) * 2=i * 2+1+1 by omega]
  simpa [pwL] using this
theorem q7j:(prog.info? 68).map (fun i=>(i.zero,i.size,i.bytes))=some (some (.agg #[.int .i64 0,.int .i64 0]),2,16):=by kernel_rfl
def z6h(w:World)(B:Nat)(v:Value)(l:List Pw):Prop:=w.ownsRow B 68 2 v l.length (pwL l)
theorem z6h.nil(w:World)(B:Nat):z6h w B (.slice none 0 0) []:=⟨rfl,.inl ⟨rfl,rfl⟩⟩
theorem z6h.row{w:World}{B:Nat}{v:Value}{l:List Pw}(h:z6h w B v l):(v=.slice none 0 0/\l=[])∨∃ g cap,v=.slice (some ⟨g,0,none⟩) l.length cap/\B<=g/\z1V w g l/\l.length<=cap/\cap<=maxLen:=by
 obtain⟨_,h⟩:=h
 rcases h with⟨h1,h2⟩ | ⟨g,cap,cur,h1,h2,h3,h4,h5,h6,h7⟩
 ·exact .inl ⟨h1,List.length_eq_zero_iff.1 h2⟩
 ·refine .inr ⟨g,cap,h1,h2,⟨cur,h3,fun i x hx=>?_⟩,h4,h5⟩;obtain⟨g1,g2⟩:=j0U l i x hx;have hi:=(List.getElem?_eq_some_iff.1 hx).1;rw[← h7,List.getElem?_take_of_lt (by omega)]at g1 g2
  exact⟨by simpa using g1,by simpa using g2⟩
def y0Z(w:World)(B:Nat)(v:Value)(l:List Pw):Prop:=(v=.slice none 0 0/\l=[])∨∃ g cap,v=.slice (some ⟨g,0,none⟩) l.length cap/\B<=g/\z1V w g l/\l.length<=cap/\cap<=maxLen
theorem q2B(w:World)(a b:Int)(t:TypeId):∀ j u,([.int .i64 a,.int .i64 b]:List Value)[j]?=some u->(w.alloc (.cells #[.int .i64 a,.int .i64 b] t)).cell? ((⟨w.heap.size,0,none⟩:Addr).add j)=some u:=by
 intro j u hj
 rcases j with _ | _ | j
 ·simp at hj;subst hj;simp[Addr.add]
 ·simp at hj;subst hj;simp[Addr.add]
 ·simp at hj
theorem z6h.append{w:World}{B:Nat}{v:Value}{l:List Pw}{x:Pw}{n:Nat}(h:w.ownsRow B 68 2 v n (pwL l ++ [.int .i64 x.1,.int .i64 x.2]))(hn:n=l.length+1):z6h w B v (l ++ [x]):=by
 unfold z6h;rw[List.length_append,z9I];subst hn;exact h
theorem z6h.own{w:World}{B:Nat}{v:Value}{l:List Pw}(h:z6h w B v l):∀ k,v.ownBlock=some k->B<=k:=by
 intro k hk
 rcases h.row with⟨rfl,_⟩ | ⟨g,cap,rfl,hg,_⟩
 ·simp[Value.ownBlock]at hk
 ·simp[Value.ownBlock]at hk;omega
theorem z6h.grow{w w1:World}{B C:Nat}{v:Value}{l:List Pw}{a:World}{o:Obj}(h:z6h w B v l)(hb:Below C a w)(hg:(w.alloc o).grownBy w1 v.ownBlock)(hB:C<=B)(hs:B<=w.heap.size):Below C a w1:=
 (hb.alloc (Nat.le_trans hB hs) o).grown hg (by simp;omega) (fun k hk=>Nat.le_trans hB (h.own k hk))
theorem q3l(fv:Value)(w:World):Calls prog 179 #[.slice none 0 0,.int .i64 0,.int .i64 0,fv] w fun e w'=>e=.returned (.tuple #[])/\w=w':=by
 go_enter func179,ntmps179
 go_wp2
 go_loop [8] (fun i=>i=.int .i64 1) (fun _=>0)
 case atStart=>rfl
 case round =>
  subst hrel;go_wp2;go_end0;exact⟨rfl,rfl⟩
theorem q5G(fv:Value)(w:World):Calls prog 117 #[.slice none 0 0,fv] w fun e w'=>e=.returned (.tuple #[])/\w=w':=by
 have hL:=q1H 0 (by omega) w
 have hP:∀ k,Calls prog 158 #[.slice none 0 0,.int .i64 0,.int .i64 0,.int .i64 k,fv] w fun e w'=>e=.returned (.tuple #[])/\w=w':=by
  intro k;have hI:=q3l fv w
  go_enter func158,ntmps158
  go_wp2_with fail
  go_loopw [1,2] (fun a b wl=>a=.int .i64 0/\b=.int .i64 0/\Hid (wl=w)) (fun _ _ _=>0)
  case atStart=>exact⟨rfl,rfl,rfl⟩
  case round =>
   obtain⟨rfl,rfl,HW⟩:=hrel;have e:=HW.out;subst e;clear HW
   go_wp2_with (go_at_call 179;refine hI.mono ?_;rintro e w1⟨rfl,h1⟩;have H1:=hide h1;clear h1)
   exact bodyPost_ret (v:=.tuple #[]) (by simp[results,results158]) rfl ⟨rfl,H1.out⟩
 go_enter func117,ntmps117
 go_wp2_with (first
  | (go_at_call 159;refine hL.mono ?_;rintro e w1⟨⟨k,rfl⟩,rfl⟩)
  | (go_at_call 158;refine (hP _).mono ?_;rintro e w2⟨rfl,h1⟩;have H1:=hide h1;clear h1))
 go_end0;exact⟨rfl,H1.out⟩
end
end Go.Proofs.YtmopekkhmhhcaaaGreat
