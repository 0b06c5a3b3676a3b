/- Parts of the proof. -/
import Derived.Test.YtjghbciepinofaaGreatPL
import Derived.Test.YtjghbciepinofaaGreatPK17
import Derived.Test.YtjghbciepinofaaGreatPK28
set_option maxRecDepth 100000
set_option maxHeartbeats 16000000
namespace Go.Proofs.YtjghbciepinofaaGreat
open Go.Proofs.Tryz
open Value renaming int->J,slice->J1,pointer->J2,bool->J3,agg->J4
open IntKind renaming i64->I
open Obj renaming cells->J5
section
open Go.RowKit
def YAt(w:World)(y:Nat)(x:Wt):Prop:=w.heap[y]?=some (J5 #[J I x.num,J I x.d,J I x.v,J I x.amt,J I x.hei,J I x.due,J I x.h0,J I x.h1] 127)
theorem YAt.later{w w':World}{y B:Nat}{x:Wt}(h:YAt w y x)(a:Below B w w')(b:y<B):YAt w' y x:=(a.block y b).trans h
theorem YAt.lt{w:World}{y:Nat}{x:Wt}(h:YAt w y x):y<w.heap.size:=(Array.getElem?_eq_some_iff.1 h).1
theorem YAt.cells{w:World}{y:Nat}{x:Wt}(h:YAt w y x):w.cell? ⟨y,0,none⟩=some (J I x.num)/\w.cell? ⟨y,1,none⟩=some (J I x.d)/\w.cell? ⟨y,2,none⟩=some (J I x.v)/\w.cell? ⟨y,3,none⟩=some (J I x.amt)/\w.cell? ⟨y,4,none⟩=some (J I x.hei)/\w.cell? ⟨y,5,none⟩=some (J I x.due)/\w.cell? ⟨y,6,none⟩=some (J I x.h0)/\w.cell? ⟨y,7,none⟩=some (J I x.h1):=by
 unfold YAt at h
 simp[World.cell?,h]
def q8x:St:=⟨⟨100000,100000,100000,100000,0,0,0⟩,fun _=>⟨0,0,0,false,false⟩,fun _ _=>0,[],1⟩
theorem z6e{c:Func}{p:Tmp}(h:c.results=#[.cell p 32])(a:Array Value)(w:World)(g:Nat)(cs:Array Value)
  (d:a.getD p undef=J2 (some ⟨g,0,none⟩)) (e:SAt w g cs) (b:cs.size=63) :
  (results c a).run prog w=.ok (J4 cs) w:=
 results_cell_row h _ _ g 32 cs (0,0) _ d e underlying32 rfl (by rw[z0l,b])
theorem q5q(w:World):Calls prog 65 #[] w fun e w'=>e=.returned (J4 (stC q8x (J1 none 0 0)))/\Bl w w':=by
 have b:=SAt.new w Z63;have a:Hid (Bl w (w.alloc (J5 Z63 32))):=znw w _;have d:=q7P
 go_enter func65,ntmps65
 go_upto_region 1 with fail
 change Code.wp prog _ _ _ (w.alloc (J5 Z63 32));generalize w.alloc (J5 Z63 32)=w0 at *;apply wp_region_lit
 go_step
 go_step
 refine (d _).mono ?_;rintro e w1⟨rfl,h1⟩;have f:=b.later h1 b.lt;have c:=J6 (zbt a.out h1);clear h1 b a d;dsimp only
 go_step
 go_step
 go_step
 go_step
 refine wpList_store_mid rfl 32 _ _ rfl _ 0 (stC q8x (J1 none 0 0)) rfl rfl (f.there 0 _ (by rw[z0p,z0d];omega)) (by rw[z0l];rfl) (z0q _ _ _ _) ?_
 go_wp2;have g:=f.z0C (ds:=stC q8x (J1 none 0 0)) (by rw[z0d];rfl)
 exact bodyPost_ret (v:=J4 (stC q8x (J1 none 0 0))) (z6e results65 _ _ _ _ rfl g rfl) rfl ⟨rfl,z0b (Nat.le_refl _) _ _ _ c.out⟩
def q8F:St:=(z1u q8x 0 1 250).1
end
end Go.Proofs.YtjghbciepinofaaGreat
