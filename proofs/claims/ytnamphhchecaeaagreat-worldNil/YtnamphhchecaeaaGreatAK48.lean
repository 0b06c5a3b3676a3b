/- Parts of the proof: KC0. -/
import Derived.Test.YtnamphhchecaeaaGreatRows
import Derived.Test.YtnamphhchecaeaaGreatAK16
import Derived.Test.YtnamphhchecaeaaGreatAK17
import Derived.Test.YtnamphhchecaeaaGreatAK19
import Derived.Test.YtnamphhchecaeaaGreatAK43
import Derived.Test.YtnamphhchecaeaaGreatAK44
import Derived.Test.YtnamphhchecaeaaGreatAK47
set_option maxRecDepth 100000
namespace Go.Proofs.YtnamphhchecaeaaGreat.Kc
open Go.RowKit Pv
structure Cs where
  on : Bool
  gone : Bool
  h : Int
  t : Int
  id : Int
  set : List (Int × Int)
  pd : List Pkt
  rp : List (Int × Int)
  fl : Nat → Bool
  out : Ln.Line
  h0 : Int
  h1 : Int
  h2 : Int
  h3 : Int
/-- its slices -/
structure CsV where
  set : Value
  pd : Value
  rp : Value
  said : Value
  due : Value
def csC (c : Cs) (v : CsV) : Array Value := #[.bool c.on, .bool c.gone, .int .i64 c.h, .int .i64 c.t, .int .i64 c.id, v.set, v.pd, v.rp, .bool (c.fl 0), .bool (c.fl 1), .bool (c.fl 2), .bool (c.fl 3), .bool (c.fl 4), .bool (c.fl 5), v.said, v.due, .int .i64 c.out.g, .bool c.out.cl, .int .i64 c.h0, .int .i64 c.h1, .int .i64 c.h2, .int .i64 c.h3]
theorem csC_size (c : Cs) (v : CsV) : (csC c v).size = 22 := rfl
/-- packets' cells in a list -/
def pkL (x : Pkt) (y : Value × Value) : List Value := [.int .i64 x.k, .int .i64 x.i, .int .i64 x.v, .int .i64 x.n, y.1, y.2]
def pdL : List Pkt → List (Value × Value) → List Value
  | x :: q, y :: z => pkL x y ++ pdL q z
  | _, _ => []
/-- packets lie in memory -/
def KRep (P : Nat → Prop) (w : World) (v : Value) (q : List Pkt) : Prop :=
  ∃ z : List (Value × Value), z.length = q.length ∧ Rep P w v 6 40 (pdL q z) ∧ ∀ (i : Nat) (x : Pkt) (y : Value × Value), q[i]? = some x → z[i]? = some y → Rep P w y.1 2 16 (pwC x.S) ∧ Rep P w y.2 1 8 (inC x.D)
/-- a consumer's lists lie in memory -/
structure CIn (P : Nat → Prop) (w : World) (c : Cs) (v : CsV) : Prop where
  set : Rep P w v.set 2 16 (pwC c.set)
  pd : KRep P w v.pd c.pd
  rp : Rep P w v.rp 2 8 (pwC c.rp)
  said : RepC P w v.said 1 16 (txC c.out.S)
  due : RepC P w v.due 1 8 (inC c.out.D)
theorem pdL_length : ∀ (q : List Pkt) (z : List (Value × Value)), z.length = q.length → (pdL q z).length = q.length * 6
  | [], [], _ => rfl
  | x :: q, y :: z, h => by
    have := pdL_length q z (by simpa using h)
    show (pkL x y ++ pdL q z).length = _
    rw [List.length_append, this, List.length_cons]
    show 6 + _ = _
    omega
  | [], _ :: _, h => by simp at h
  | _ :: _, [], h => by simp at h
theorem pdL_get : ∀ (q : List Pkt) (z : List (Value × Value)) (i : Nat) (x : Pkt) (y : Value × Value) (j : Nat), q[i]? = some x → z[i]? = some y → j < 6 → (pdL q z)[i * 6 + j]? = (pkL x y)[j]?
  | a :: q, b :: z, 0, x, y, j, h1, h2, hj => by
    simp at h1 h2
    subst h1 h2
    show (pkL a b ++ pdL q z)[0 * 6 + j]? = _
    rw [Nat.zero_mul, Nat.zero_add, List.getElem?_append_left (by exact hj)]
  | a :: q, b :: z, i + 1, x, y, j, h1, h2, hj => by
    show (pkL a b ++ pdL q z)[(i + 1) * 6 + j]? = _
    rw [List.getElem?_append_right (by show 6 ≤ _; omega)]
    rw [show (i + 1) * 6 + j - (pkL a b).length = i * 6 + j by show (i + 1) * 6 + j - 6 = _; omega]
    exact pdL_get q z i x y j (by simpa using h1) (by simpa using h2) hj
  | [], _, i, _, _, _, h1, _, _ => by simp at h1
  | _ :: _, [], i, _, _, _, _, h2, _ => by simp at h2
section
variable {P P' : Nat → Prop} {w w' : World}
theorem KRep.nil (P : Nat → Prop) (w : World) : KRep P w (.slice none 0 0) [] := ⟨[], rfl, Rep.nil _ _ _ _, fun i x y h => by simp at h⟩
theorem KRep.mono {v : Value} {q : List Pkt} (h : KRep P w v q) (hp : ∀ b, b < w.heap.size → P b → P' b) : KRep P' w v q := by
  obtain ⟨z, h1, h2, h3⟩ := h
  exact ⟨z, h1, h2.mono hp, fun i x y hx hy => ⟨(h3 i x y hx hy).1.mono hp, (h3 i x y hx hy).2.mono hp⟩⟩
theorem KRep.keep {v : Value} {q : List Pkt} (h : KRep P w v q) (hk : ∀ b, P b → b < w.heap.size → w'.heap[b]? = w.heap[b]?) : KRep P w' v q := by
  obtain ⟨z, h1, h2, h3⟩ := h
  exact ⟨z, h1, h2.keep hk, fun i x y hx hy => ⟨(h3 i x y hx hy).1.keep hk, (h3 i x y hx hy).2.keep hk⟩⟩
theorem KRep.over {v : Value} {q : List Pkt} (h : KRep P w v q) (hb : Below w.heap.size w w') : KRep P w' v q := h.keep fun b _ hlt => hb.block b hlt
theorem CIn.mono {c : Cs} {v : CsV} (h : CIn P w c v) (hp : ∀ b, b < w.heap.size → P b → P' b) : CIn P' w c v := ⟨h.set.mono hp, h.pd.mono hp, h.rp.mono hp, h.said.mono hp, h.due.mono hp⟩
theorem CIn.keep {c : Cs} {v : CsV} (h : CIn P w c v) (hk : ∀ b, P b → b < w.heap.size → w'.heap[b]? = w.heap[b]?) : CIn P w' c v := ⟨h.set.keep hk, h.pd.keep hk, h.rp.keep hk, h.said.keep hk, h.due.keep hk⟩
theorem CIn.over {c : Cs} {v : CsV} (h : CIn P w c v) (hb : Below w.heap.size w w') : CIn P w' c v := h.keep fun b _ hlt => hb.block b hlt
theorem CIn.sets {c : Cs} {v : CsV} (h : CIn P w c v) {g : Nat} (hg : ¬ P g) (o : Nat) (vs : List Value) : CIn P (w.setCells g o vs) c v := h.keep fun b hb _ => heap_sets (show b ≠ g from fun e => hg (by rw [← e]; exact hb)) vs o w
theorem rep_slice {v : Value} {sz bts : Nat} {cs : List Value} (h : Rep P w v sz bts cs) : v.oneCell' = true := by
  obtain ⟨A, n, C, rfl, _⟩ := h
  rfl
theorem KRep.slice {v : Value} {q : List Pkt} (h : KRep P w v q) : v.oneCell' = true := by
  obtain ⟨z, _, h, _⟩ := h
  exact rep_slice h
theorem cs_one {c : Cs} {v : CsV} (h : CIn P w c v) : (csC c v).all (·.oneCell') = true := by
  have h1 := rep_slice h.set
  have h2 := h.pd.slice
  have h3 := rep_slice h.rp
  have h4 := h.said.one
  have h5 := h.due.one
  simp only [csC, Array.all_eq_true_iff_forall_mem]
  intro x hx
  simp only [List.mem_toArray, List.mem_cons, List.not_mem_nil, or_false] at hx
  rcases hx with rfl | rfl | rfl | rfl | rfl | rfl | rfl | rfl | rfl | rfl | rfl | rfl | rfl | rfl | rfl | rfl | rfl | rfl | rfl | rfl | rfl | rfl <;> first | rfl | assumption
end
theorem infoCs : (Tryz.prog.info? 63).map (·.size) = some 22 := by kernel_rfl
def Z22 : Array Value := #[.bool false, .bool false, .int .i64 0, .int .i64 0, .int .i64 0, .slice none 0 0, .slice none 0 0, .slice none 0 0, .bool false, .bool false, .bool false, .bool false, .bool false, .bool false, .slice none 0 0, .slice none 0 0, .int .i64 0, .bool false, .int .i64 0, .int .i64 0, .int .i64 0, .int .i64 0]
theorem Z22_size : Z22.size = 22 := rfl
/-- a consumer is loaded, stored -/
def loadC (v : Value) : Sem Value := Instr.loadAt 63 v
theorem loadC_eq (v : Value) : Instr.loadAt 63 v = loadC v := rfl
def storeC (a v : Value) : Sem Unit := Instr.storeAt 63 a v
theorem storeC_eq (a v : Value) : Instr.storeAt 63 a v = storeC a v := rfl
theorem cs_store {w : World} {g : Nat} {zs cs : Array Value} (h : CAt 63 w g zs) (hz : zs.size = 22) (hs : cs.size = 22) (h1 : cs.all (·.oneCell') = true) : (storeC (.pointer (some ⟨g, 0, none⟩)) (.agg cs)).run Tryz.prog w = .ok () (w.setCells g 0 cs.toList) :=
  run_storeAt_mid (P := Tryz.prog) w g 0 63 cs (h.there 0 _ (by rw [hz, hs]; omega)) (by rw [infoCs, hs]) h1
theorem results_cs1 {fn : Func} {p : Tmp} (h : fn.results = #[.cell p 63]) (tmps : Array Value) (w : World) (g : Nat) (cs : Array Value)
    (hp : tmps.getD p undef = .pointer (some ⟨g, 0, none⟩)) (hg : CAt 63 w g cs) (hsz : cs.size = 22) :
    (results fn tmps).run Tryz.prog w = .ok (.agg cs) w := by
  have hp' : tmps[p]?.getD undef = .pointer (some ⟨g, 0, none⟩) := by simpa using hp
  simp [results, h, hp', asAddr, run_loadVar_row w g 63 63 cs (0, 0) _ hg Tryz.underlying63 rfl (by rw [infoCs, hsz])]
end Go.Proofs.YtnamphhchecaeaaGreat.Kc

