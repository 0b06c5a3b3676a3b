/- Parts of the proof. -/
import Derived.Test.YtjghbciepinofaaGreatPL
import Derived.Test.YtjghbciepinofaaGreatPK13
set_option maxRecDepth 100000
set_option maxHeartbeats 16000000
namespace Go.Proofs.YtjghbciepinofaaGreat
open Go.Proofs.Tryz
open Value renaming int->J,slice->J1,pointer->J2,bool->J3,agg->J4
open IntKind renaming i64->I
open Obj renaming cells->J5
section
open Go.RowKit
theorem z7S(w:World)(x:Wt)(e:TypeId):∀ j v,(wtL x)[j]?=some v->(w.alloc (J5 #[J I x.num,J I x.d,J I x.v,J I x.amt,J I x.hei,J I x.due,J I x.h0,J I x.h1] e)).cell? ⟨w.heap.size,j,none⟩=some v:=by
 intro j v a;rw[World.cell?_alloc_at _ _ _ _ rfl]
 simpa [wtL] using a
end
end Go.Proofs.YtjghbciepinofaaGreat
