/- Parts of the proof: KC0. -/
import Derived.Test.YtdkalcnlncjgiaaRows
import Derived.Test.YtdkalcnlncjgiaaBK49
import Derived.Test.YtdkalcnlncjgiaaBK53
import Derived.Test.YtdkalcnlncjgiaaBK54
set_option maxRecDepth 100000
namespace Go.Proofs.Ytdkalcnlncjgiaa.Kc
open Go.RowKit Pv
structure Cs where
  on : Bool
  gone : Bool
  h : Int
  t : Int
  id : Int
  set : List (Int × Int)
  pd : List Pkt
  rp : List (Int × Int)
  fl : Nat → Bool
  out : Ln.Line
  h0 : Int
  h1 : Int
  h2 : Int
  h3 : Int
/-- its slices -/
structure CsV where
  set : Value
  pd : Value
  rp : Value
  said : Value
  due : Value
def csC (c : Cs) (v : CsV) : Array Value := #[.bool c.on, .bool c.gone, .int .i64 c.h, .int .i64 c.t, .int .i64 c.id, v.set, v.pd, v.rp, .bool (c.fl 0), .bool (c.fl 1), .bool (c.fl 2), .bool (c.fl 3), .bool (c.fl 4), .bool (c.fl 5), v.said, v.due, .int .i64 c.out.g, .bool c.out.cl, .int .i64 c.h0, .int .i64 c.h1, .int .i64 c.h2, .int .i64 c.h3]
theorem csC_size (c : Cs) (v : CsV) : (csC c v).size = 22 := rfl
/-- packets' cells in a list -/
def pkL (x : Pkt) (y : Value × Value) : List Value := [.int .i64 x.k, .int .i64 x.i, .int .i64 x.v, .int .i64 x.n, y.1, y.2]
def pdL : List Pkt → List (Value × Value) → List Value
  | x :: q, y :: z => pkL x y ++ pdL q z
  | _, _ => []
/-- packets lie in memory -/
def KRep (P : Nat → Prop) (w : World) (v : Value) (q : List Pkt) : Prop :=
  ∃ z : List (Value × Value), z.length = q.length ∧ Rep P w v 6 40 (pdL q z) ∧ ∀ (i : Nat) (x : Pkt) (y : Value × Value), q[i]? = some x → z[i]? = some y → Rep P w y.1 2 16 (pwC x.S) ∧ Rep P w y.2 1 8 (inC x.D)
/-- a consumer's lists lie in memory -/
structure CIn (P : Nat → Prop) (w : World) (c : Cs) (v : CsV) : Prop where
  set : Rep P w v.set 2 16 (pwC c.set)
  pd : KRep P w v.pd c.pd
  rp : Rep P w v.rp 2 8 (pwC c.rp)
  said : RepC P w v.said 1 16 (txC c.out.S)
  due : RepC P w v.due 1 8 (inC c.out.D)
theorem pdL_length : ∀ (q : List Pkt) (z : List (Value × Value)), z.length = q.length → (pdL q z).length = q.length * 6
  | [], [], _ => rfl
  | x :: q, y :: z, h => by
    have := pdL_length q z (by simpa using h)
    show (pkL x y ++ pdL q z).length = _
    rw [List.length_append, this, List.length_cons]
    show 6 + _ = _
    omega
  | [], _ :: _, h => by simp at h
  | _ :: _, [], h => by simp at h
theorem pdL_app : ∀ (q : List Pkt) (z : List (Value × Value)) (x : Pkt) (y : Value × Value), z.length = q.length → pdL (q ++ [x]) (z ++ [y]) = pdL q z ++ pkL x y
  | [], [], x, y, _ => by simp [pdL]
  | a :: q, b :: z, x, y, h => by
    show pkL a b ++ pdL (q ++ [x]) (z ++ [y]) = (pkL a b ++ pdL q z) ++ _
    rw [pdL_app q z x y (by simpa using h), List.append_assoc]
  | [], _ :: _, _, _, h => by simp at h
  | _ :: _, [], _, _, h => by simp at h
theorem pdL_get : ∀ (q : List Pkt) (z : List (Value × Value)) (i : Nat) (x : Pkt) (y : Value × Value) (j : Nat), q[i]? = some x → z[i]? = some y → j < 6 → (pdL q z)[i * 6 + j]? = (pkL x y)[j]?
  | a :: q, b :: z, 0, x, y, j, h1, h2, hj => by
    simp at h1 h2
    subst h1 h2
    show (pkL a b ++ pdL q z)[0 * 6 + j]? = _
    rw [Nat.zero_mul, Nat.zero_add, List.getElem?_append_left (by exact hj)]
  | a :: q, b :: z, i + 1, x, y, j, h1, h2, hj => by
    show (pkL a b ++ pdL q z)[(i + 1) * 6 + j]? = _
    rw [List.getElem?_append_right (by show 6 ≤ _; omega)]
    rw [show (i + 1) * 6 + j - (pkL a b).length = i * 6 + j by show (i + 1) * 6 + j - 6 = _; omega]
    exact pdL_get q z i x y j (by simpa using h1) (by simpa using h2) hj
  | [], _, i, _, _, _, h1, _, _ => by simp at h1
  | _ :: _, [], i, _, _, _, _, h2, _ => by simp at h2
section
variable {P P' : Nat → Prop} {w w' : World}
theorem KRep.nil (P : Nat → Prop) (w : World) : KRep P w (.slice none 0 0) [] := ⟨[], rfl, Rep.nil _ _ _ _, fun i x y h => by simp at h⟩
theorem KRep.mono {v : Value} {q : List Pkt} (h : KRep P w v q) (hp : ∀ b, b < w.heap.size → P b → P' b) : KRep P' w v q := by
  obtain ⟨z, h1, h2, h3⟩ := h
  exact ⟨z, h1, h2.mono hp, fun i x y hx hy => ⟨(h3 i x y hx hy).1.mono hp, (h3 i x y hx hy).2.mono hp⟩⟩
theorem KRep.keep {v : Value} {q : List Pkt} (h : KRep P w v q) (hk : ∀ b, P b → b < w.heap.size → w'.heap[b]? = w.heap[b]?) : KRep P w' v q := by
  obtain ⟨z, h1, h2, h3⟩ := h
  exact ⟨z, h1, h2.keep hk, fun i x y hx hy => ⟨(h3 i x y hx hy).1.keep hk, (h3 i x y hx hy).2.keep hk⟩⟩
theorem KRep.over {v : Value} {q : List Pkt} (h : KRep P w v q) (hb : Below w.heap.size w w') : KRep P w' v q := h.keep fun b _ hlt => hb.block b hlt
theorem CIn.mono {c : Cs} {v : CsV} (h : CIn P w c v) (hp : ∀ b, b < w.heap.size → P b → P' b) : CIn P' w c v := ⟨h.set.mono hp, h.pd.mono hp, h.rp.mono hp, h.said.mono hp, h.due.mono hp⟩
theorem CIn.keep {c : Cs} {v : CsV} (h : CIn P w c v) (hk : ∀ b, P b → b < w.heap.size → w'.heap[b]? = w.heap[b]?) : CIn P w' c v := ⟨h.set.keep hk, h.pd.keep hk, h.rp.keep hk, h.said.keep hk, h.due.keep hk⟩
theorem CIn.over {c : Cs} {v : CsV} (h : CIn P w c v) (hb : Below w.heap.size w w') : CIn P w' c v := h.keep fun b _ hlt => hb.block b hlt
theorem CIn.sets {c : Cs} {v : CsV} (h : CIn P w c v) {g : Nat} (hg : ¬ P g) (o : Nat) (vs : List Value) : CIn P (w.setCells g o vs) c v := h.keep fun b hb _ => heap_sets (show b ≠ g from fun e => hg (by rw [← e]; exact hb)) vs o w
theorem CIn.set1 {c : Cs} {v : CsV} (h : CIn P w c v) {g : Nat} (hg : ¬ P g) (o : Nat) (x : Value) : CIn P (w.setCell ⟨g, o, none⟩ x) c v := h.keep fun b hb _ => Below.heap_setCell w ⟨g, o, none⟩ x b (show b ≠ g from fun e => hg (by rw [← e]; exact hb))
theorem CIn.ofNew {c : Cs} {v : CsV} (h : CIn P w c v) (hb : Below w.heap.size w w') (k : Nat) : CIn (New P w k) w' c v := (h.mono (P' := fun b => New P w k b ∧ b < w.heap.size) fun _ hl hp => ⟨.inl ⟨hp, hl⟩, hl⟩).over hb |>.mono fun _ _ h => h.1
theorem _root_.Go.Proofs.Ytdkalcnlncjgiaa.Pv.Alt.cin {g : Nat} {w w' : World} (h : Alt g w w') {P : Nat → Prop} (hP : ¬ P g) {c : Cs} {v : CsV} (hp : CIn P w c v) : CIn P w' c v := hp.keep fun b hb hlt => h.block b hlt (fun e => hP (e ▸ hb))
theorem rep_slice {v : Value} {sz bts : Nat} {cs : List Value} (h : Rep P w v sz bts cs) : v.oneCell' = true := by
  obtain ⟨A, n, C, rfl, _⟩ := h
  rfl
theorem KRep.slice {v : Value} {q : List Pkt} (h : KRep P w v q) : v.oneCell' = true := by
  obtain ⟨z, _, h, _⟩ := h
  exact rep_slice h
theorem cs_one {c : Cs} {v : CsV} (h : CIn P w c v) : (csC c v).all (·.oneCell') = true := by
  have h1 := rep_slice h.set
  have h2 := h.pd.slice
  have h3 := rep_slice h.rp
  have h4 := h.said.one
  have h5 := h.due.one
  simp only [csC, Array.all_eq_true_iff_forall_mem]
  intro x hx
  simp only [List.mem_toArray, List.mem_cons, List.not_mem_nil, or_false] at hx
  rcases hx with rfl | rfl | rfl | rfl | rfl | rfl | rfl | rfl | rfl | rfl | rfl | rfl | rfl | rfl | rfl | rfl | rfl | rfl | rfl | rfl | rfl | rfl <;> first | rfl | assumption
end
theorem infoCs : (Try.prog.info? 33).map (·.size) = some 22 := by kernel_rfl
def Z22 : Array Value := #[.bool false, .bool false, .int .i64 0, .int .i64 0, .int .i64 0, .slice none 0 0, .slice none 0 0, .slice none 0 0, .bool false, .bool false, .bool false, .bool false, .bool false, .bool false, .slice none 0 0, .slice none 0 0, .int .i64 0, .bool false, .int .i64 0, .int .i64 0, .int .i64 0, .int .i64 0]
theorem Z22_size : Z22.size = 22 := rfl
/-- a consumer is loaded, stored -/
def loadC (v : Value) : Sem Value := Instr.loadAt 33 v
theorem loadC_eq (v : Value) : Instr.loadAt 33 v = loadC v := rfl
def storeC (a v : Value) : Sem Unit := Instr.storeAt 33 a v
theorem storeC_eq (a v : Value) : Instr.storeAt 33 a v = storeC a v := rfl
theorem cs_load {w : World} {g : Nat} {cs : Array Value} (h : CAt 33 w g cs) (hs : cs.size = 22) : (loadC (.pointer (some ⟨g, 0, none⟩))).run Try.prog w = .ok (.agg cs) w := by
  have := run_loadAt_mid (P := Try.prog) w g 0 33 cs.toList _ h.range Try.underlying33 rfl (by rw [infoCs]; simp [hs])
  change (Instr.loadAt 33 _).run Try.prog w = _
  simpa using this
theorem cs_store {w : World} {g : Nat} {zs cs : Array Value} (h : CAt 33 w g zs) (hz : zs.size = 22) (hs : cs.size = 22) (h1 : cs.all (·.oneCell') = true) : (storeC (.pointer (some ⟨g, 0, none⟩)) (.agg cs)).run Try.prog w = .ok () (w.setCells g 0 cs.toList) :=
  run_storeAt_mid (P := Try.prog) w g 0 33 cs (h.there 0 _ (by rw [hz, hs]; omega)) (by rw [infoCs, hs]) h1
/-- what a consumer's function answers -/
def AnsC (P : Nat → Prop) (w : World) (r : Cs × Int) (e : Ending) (w' : World) : Prop := ∃ v', e = .returned (.tuple #[.agg (csC r.1 v'), .int .i64 r.2]) ∧ CIn (New P w 2) w' r.1 v' ∧ Below w.heap.size w w'
theorem results_cs2 {fn : Func} {p q : Tmp} (h : fn.results = #[.cell p 33, .tmp q]) (tmps : Array Value) (w : World) (g : Nat) (cs : Array Value) (v : Value)
    (hp : tmps.getD p undef = .pointer (some ⟨g, 0, none⟩)) (hq : tmps.getD q undef = v) (hg : CAt 33 w g cs) (hsz : cs.size = 22) :
    (results fn tmps).run Try.prog w = .ok (.tuple #[.agg cs, v]) w := by
  have hp' : tmps[p]?.getD undef = .pointer (some ⟨g, 0, none⟩) := by simpa using hp
  have hq' : tmps[q]?.getD undef = v := by simpa using hq
  simp [results, h, hp', hq', asAddr, run_loadVar_row w g 33 33 cs (0, 0) _ hg Try.underlying33 rfl (by rw [infoCs, hsz])]
/-- a consumer and an error are answered: stored into the result's block ahead -/
theorem cs_end2 {f : Func} {t q : Tmp} (hres : f.results = #[.cell t 33, .tmp q]) {P : Nat → Prop} {w wq : World} {zs : Array Value} (R : CAt 33 wq (w.heap.size + 1) zs) (hz : zs.size = 22) (H : Below w.heap.size w wq) (c' : Cs) (v' : CsV) (er : Int) (r : Cs × Int) (hr : r = (c', er)) (hp : CIn (New P w 2) wq c' v') (act : Act)
    (h8 : act.tmps.getD t undef = .pointer (some ⟨w.heap.size + 1, 0, none⟩)) (h9 : act.tmps.getD q undef = .int .i64 er) (hd : act.defers = []) :
    bodyPost Try.prog f (AnsC P w r) Exit.ret act (wq.setCells (w.heap.size + 1) 0 (csC c' v').toList) := by
  subst hr
  have R3 := R.setAll (ds := csC c' v') (by rw [hz]; rfl)
  exact bodyPost_ret (v := .tuple #[.agg (csC c' v'), .int .i64 er]) (results_cs2 hres _ _ _ _ _ h8 h9 R3 rfl) hd ⟨v', rfl, hp.sets (new_no (by omega)) _ _, below_sets (Nat.le_succ _) _ _ _ H⟩
/-- one consumer alone is answered -/
def AnsC1 (P : Nat → Prop) (w : World) (r : Cs) (k : Nat) (e : Ending) (w' : World) : Prop := ∃ v', e = .returned (.agg (csC r v')) ∧ CIn (New P w k) w' r v' ∧ Below w.heap.size w w'
theorem results_cs1 {fn : Func} {p : Tmp} (h : fn.results = #[.cell p 33]) (tmps : Array Value) (w : World) (g : Nat) (cs : Array Value)
    (hp : tmps.getD p undef = .pointer (some ⟨g, 0, none⟩)) (hg : CAt 33 w g cs) (hsz : cs.size = 22) :
    (results fn tmps).run Try.prog w = .ok (.agg cs) w := by
  have hp' : tmps[p]?.getD undef = .pointer (some ⟨g, 0, none⟩) := by simpa using hp
  simp [results, h, hp', asAddr, run_loadVar_row w g 33 33 cs (0, 0) _ hg Try.underlying33 rfl (by rw [infoCs, hsz])]
theorem cs_end1 {f : Func} {t : Tmp} (hres : f.results = #[.cell t 33]) {P : Nat → Prop} {w wq : World} {zs : Array Value} {k g : Nat} (R : CAt 33 wq g zs) (hz : zs.size = 22) (H : Below w.heap.size w wq) (hgw : w.heap.size ≤ g) (c' : Cs) (v' : CsV) (hg : ¬ New P w k g) (hp : CIn (New P w k) wq c' v') (act : Act)
    (h8 : act.tmps.getD t undef = .pointer (some ⟨g, 0, none⟩)) (hd : act.defers = []) :
    bodyPost Try.prog f (AnsC1 P w c' k) Exit.ret act (wq.setCells g 0 (csC c' v').toList) := by
  have R3 := R.setAll (ds := csC c' v') (by rw [hz]; rfl)
  exact bodyPost_ret (v := .agg (csC c' v')) (results_cs1 hres _ _ _ _ h8 R3 rfl) hd ⟨v', rfl, hp.sets hg _ _, below_sets hgw _ _ _ H⟩
/-- single cells -/
theorem set_on (c : Cs) (v : CsV) (x : Bool) : (csC c v).setIfInBounds 0 (.bool x) = csC { c with on := x } v := rfl
theorem set_gone (c : Cs) (v : CsV) (x : Bool) : (csC c v).setIfInBounds 1 (.bool x) = csC { c with gone := x } v := rfl
theorem set_h (c : Cs) (v : CsV) (x : Int) : (csC c v).setIfInBounds 2 (.int .i64 x) = csC { c with h := x } v := rfl
theorem set_t (c : Cs) (v : CsV) (x : Int) : (csC c v).setIfInBounds 3 (.int .i64 x) = csC { c with t := x } v := rfl
theorem set_id (c : Cs) (v : CsV) (x : Int) : (csC c v).setIfInBounds 4 (.int .i64 x) = csC { c with id := x } v := rfl
theorem set_set (c : Cs) (v : CsV) (l : List (Int × Int)) (x : Value) : (csC c v).setIfInBounds 5 x = csC { c with set := l } { v with set := x } := rfl
theorem set_pd (c : Cs) (v : CsV) (l : List Pkt) (x : Value) : (csC c v).setIfInBounds 6 x = csC { c with pd := l } { v with pd := x } := rfl
theorem set_rp (c : Cs) (v : CsV) (l : List (Int × Int)) (x : Value) : (csC c v).setIfInBounds 7 x = csC { c with rp := l } { v with rp := x } := rfl
def updF (f : Nat → Bool) (k : Nat) (x : Bool) : Nat → Bool := fun i => if i = k then x else f i
theorem set_fl (c : Cs) (v : CsV) {k : Nat} (hk : k < 6) (x : Bool) : (csC c v).setIfInBounds (8 + k) (.bool x) = csC { c with fl := updF c.fl k x } v := by
  rcases (show k = 0 ∨ k = 1 ∨ k = 2 ∨ k = 3 ∨ k = 4 ∨ k = 5 by omega) with rfl | rfl | rfl | rfl | rfl | rfl <;> rfl
theorem get_fl (c : Cs) (v : CsV) {k : Nat} (hk : k < 6) : (csC c v)[8 + k]? = some (.bool (c.fl k)) := by
  rcases (show k = 0 ∨ k = 1 ∨ k = 2 ∨ k = 3 ∨ k = 4 ∨ k = 5 by omega) with rfl | rfl | rfl | rfl | rfl | rfl <;> rfl
theorem set_cl (c : Cs) (v : CsV) (x : Bool) : (csC c v).setIfInBounds 17 (.bool x) = csC { c with out := { c.out with cl := x } } v := rfl
end Go.Proofs.Ytdkalcnlncjgiaa.Kc

