/- Parts of the proof: PV13 PV1 SJ3 PVSA. -/
import Derived.Test.YtjghbciepinofaaGreatRows
import Derived.Test.YtjghbciepinofaaGreatPK40
import Derived.Test.YtjghbciepinofaaGreatPK41
import Derived.Test.YtjghbciepinofaaGreatPK42
import Derived.Test.YtjghbciepinofaaGreatPK43
import Derived.Test.YtjghbciepinofaaGreatPK46
import Derived.Test.YtjghbciepinofaaGreatPK53
import Derived.Deep.AppendLies
import Derived.Deep.RegionLaw
import Derived.Deep.DeepCutAuto
import Derived.Deep.MidRow
import Derived.Deep.QuietTactic
import Derived.BigQuiet
import Derived.WalkSmall
set_option maxRecDepth 100000
namespace Go.Proofs.YtjghbciepinofaaGreat.Pv
open Go.RowKit
theorem quL_length : ∀ (q : List (Int × Pkt)) (z : List (Value × Value)), z.length = q.length → (quL q z).length = q.length * 7
  | [], [], _ => rfl
  | x :: q, y :: z, h => by
    have := quL_length q z (by simpa using h)
    show (akL x y ++ quL q z).length = _
    rw [List.length_append, this, List.length_cons]
    show 7 + _ = _
    omega
  | [], _ :: _, h => by simp at h
  | _ :: _, [], h => by simp at h
theorem quL_app : ∀ (q : List (Int × Pkt)) (z : List (Value × Value)) (x : Int × Pkt) (y : Value × Value), z.length = q.length → quL (q ++ [x]) (z ++ [y]) = quL q z ++ akL x y
  | [], [], x, y, _ => by simp [quL]
  | a :: q, b :: z, x, y, h => by
    show akL a b ++ quL (q ++ [x]) (z ++ [y]) = (akL a b ++ quL q z) ++ _
    rw [quL_app q z x y (by simpa using h), List.append_assoc]
  | [], _ :: _, _, _, h => by simp at h
  | _ :: _, [], _, _, h => by simp at h
theorem quL_get : ∀ (q : List (Int × Pkt)) (z : List (Value × Value)) (i : Nat) (x : Int × Pkt) (y : Value × Value) (j : Nat), q[i]? = some x → z[i]? = some y → j < 7 → (quL q z)[i * 7 + j]? = (akL x y)[j]?
  | a :: q, b :: z, 0, x, y, j, h1, h2, hj => by
    simp at h1 h2
    subst h1 h2
    show (akL a b ++ quL q z)[0 * 7 + j]? = _
    rw [Nat.zero_mul, Nat.zero_add, List.getElem?_append_left (by exact hj)]
  | a :: q, b :: z, i + 1, x, y, j, h1, h2, hj => by
    show (akL a b ++ quL q z)[(i + 1) * 7 + j]? = _
    rw [List.getElem?_append_right (by show 7 ≤ _; omega)]
    rw [show (i + 1) * 7 + j - (akL a b).length = i * 7 + j by show (i + 1) * 7 + j - 7 = _; omega]
    exact quL_get q z i x y j (by simpa using h1) (by simpa using h2) hj
  | [], _, i, _, _, _, h1, _, _ => by simp at h1
  | _ :: _, [], i, _, _, _, _, h2, _ => by simp at h2
/-- a queue in a row of the call's own, its packets' lists elsewhere -/
structure QOwn (B : Nat) (w : World) (v : Value) (q : List (Int × Pkt)) (z : List (Value × Value)) : Prop where
  len : z.length = q.length
  own : w.ownsRow B 79 7 v q.length (quL q z)
  ins : ∀ (i : Nat) (x : Int × Pkt) (y : Value × Value), q[i]? = some x → z[i]? = some y → Rep (fun b => B ≤ b ∧ some b ≠ v.ownBlock) w y.1 2 16 (pwC x.2.S) ∧ Rep (fun b => B ≤ b ∧ some b ≠ v.ownBlock) w y.2 1 8 (inC x.2.D)
theorem QOwn.nil (B : Nat) (w : World) : QOwn B w (.slice none 0 0) [] [] := ⟨rfl, World.ownsRow_nil _ _ _ _, fun i x y h => by simp at h⟩
theorem QOwn.over {B : Nat} {w w' : World} {v : Value} {q : List (Int × Pkt)} {z : List (Value × Value)} (h : QOwn B w v q z) (hb : Below w.heap.size w w') : QOwn B w' v q z :=
  ⟨h.len, Ln.own_over h.own hb, fun i x y hx hy => ⟨(h.ins i x y hx hy).1.over hb, (h.ins i x y hx hy).2.over hb⟩⟩
theorem QOwn.rep {B : Nat} {w : World} {v : Value} {q : List (Int × Pkt)} {z : List (Value × Value)} (h : QOwn B w v q z) (hl : q.length * 88 ≤ 140737488351232) : QRep (fun b => B ≤ b) w v q :=
  ⟨z, h.len, Rep.own h.own (by omega), fun i x y hx hy => ⟨(h.ins i x y hx hy).1.mono fun _ _ hb => hb.1, (h.ins i x y hx hy).2.mono fun _ _ hb => hb.1⟩⟩
theorem infoAs : (Tryz.prog.info? 79).map (fun i => (i.zero, i.size, i.bytes)) = some (some (.agg #[.int .i64 0, .int .i64 0, .int .i64 0, .int .i64 0, .int .i64 0, .slice none 0 0, .slice none 0 0]), 7, 88) := by kernel_rfl
end Go.Proofs.YtjghbciepinofaaGreat.Pv

set_option maxRecDepth 100000
namespace Go.Proofs.YtjghbciepinofaaGreat.Pv
open Go.RowKit
theorem infoPv : (Tryz.prog.info? 47).map (·.size) = some 97 := by kernel_rfl
theorem Z97_size : Tryz.zeroCells47.size = 97 := by kernel_rfl
/-- a stake's part of a provider's cells -/
theorem pr_stake {w : World} {b : Nat} {p : Pr} {v : PrV} (h : CAt 47 w b (prC p v)) : w.rangeAt b 2 (stC p.s v.ws).toList := h.part fun j x hx => by
  have hj : j < 63 := (List.getElem?_eq_some_iff.1 hx).1
  simp only [prC, List.getElem?_toArray]
  rw [show 2 + j = j + 2 by omega]
  show ((stC p.s v.ws).toList ++ _)[j]? = _
  rw [List.getElem?_append_left (by simpa [stC_size] using hj)]
  exact hx
theorem pr_set {p : Pr} {v : PrV} (u : Value) : (prC p v).setIfInBounds 65 u = prC p { v with set := u } := rfl
theorem pr_q {p : Pr} {v : PrV} (u : Value) : (prC p v).setIfInBounds 96 u = prC p { v with q := u } := rfl
def PrV.upd (v : PrV) (k : Nat) (x : LkV) : PrV := { v with l := fun i => if i = k then x else v.l i }
/-- a provider's cells, parted around a link -/
theorem pr_split (p : Pr) (v : PrV) (k : Nat) (hk : k < 2) : ∃ a c : List Value, a.length = 66 + k * 14 ∧ prC p v = (a ++ (lkL (p.L k) (v.l k) ++ c)).toArray ∧ ∀ x, prC p (v.upd k x) = (a ++ (lkL (p.L k) x ++ c)).toArray := by
  have h0 : ([.int .i64 p.h, .int .i64 p.t] ++ ((stC p.s v.ws).toList ++ [v.set]) : List Value).length = 66 := by simp [stC_size]
  match k, hk with
  | 0, _ =>
    refine ⟨[.int .i64 p.h, .int .i64 p.t] ++ ((stC p.s v.ws).toList ++ [v.set]), lkL (p.L 1) (v.l 1) ++ [.int .i64 p.ml, .int .i64 p.mn, v.q], h0, ?_, fun x => ?_⟩
    · simp [prC]
    · simp [prC, PrV.upd]
  | 1, _ =>
    refine ⟨[.int .i64 p.h, .int .i64 p.t] ++ ((stC p.s v.ws).toList ++ [v.set]) ++ lkL (p.L 0) (v.l 0), [.int .i64 p.ml, .int .i64 p.mn, v.q], ?_, ?_, fun x => ?_⟩
    · rw [List.length_append, h0]; rfl
    · simp [prC]
    · simp [prC, PrV.upd]
theorem pr_lk {p : Pr} {v : PrV} (k : Nat) (hk : k < 2) (T D S U : Value) : ((((((prC p v).setIfInBounds (66 + k * 14 + 3) T).setIfInBounds (66 + k * 14 + 5) D).setIfInBounds (66 + k * 14 + 6) S).setIfInBounds (66 + k * 14 + 7) U).setIfInBounds (66 + k * 14 + 8) (.int .i64 (p.L k).out.g)).setIfInBounds (66 + k * 14 + 9) (.bool (p.L k).out.cl) = prC p (v.upd k ⟨T, D, S, U⟩) := by
  obtain ⟨a, c, ha, h1, h2⟩ := pr_split p v k hk
  rw [h1, h2, set_mid _ _ _ _ _ _ ha (by show 3 < 14; omega), set_mid _ _ _ _ _ _ ha (by simp [lkL]), set_mid _ _ _ _ _ _ ha (by simp [lkL]), set_mid _ _ _ _ _ _ ha (by simp [lkL]), set_mid _ _ _ _ _ _ ha (by simp [lkL]), set_mid _ _ _ _ _ _ ha (by simp [lkL])]
  rfl
theorem pr_link {p : Pr} {v : PrV} (k : Nat) (hk : k < 2) (j : Nat) (hj : j < 14) : (prC p v)[66 + k * 14 + j]? = (lkL (p.L k) (v.l k))[j]? := by
  obtain ⟨a, c, ha, h1, h2⟩ := pr_split p v k hk
  rw [h1, List.getElem?_toArray, List.getElem?_append_right (by omega), ha, Nat.add_sub_cancel_left, List.getElem?_append_left (by exact hj)]
/-- how far the copying is: the stake, the set and k links are copied -/
structure CpS (w : World) (p : Pr) (v0 : PrV) (k : Nat) (v : PrV) (wl : World) : Prop where
  C : CAt 47 wl w.heap.size (prC p v)
  R : CAt 47 wl (w.heap.size + 1) Tryz.zeroCells47
  B : Below w.heap.size w wl
  ws : wl.ownsRow (w.heap.size + 2) 127 8 v.ws p.s.W.length (wsL p.s.W)
  set : Rep (fun b => w.heap.size + 2 ≤ b) wl v.set 2 16 (pwC p.set)
  lk : ∀ c, c < k → LkIn (fun b => w.heap.size + 2 ≤ b) wl (p.L c) (v.l c)
  hl : ∀ c, k ≤ c → v.l c = v0.l c
  hq : v.q = v0.q
theorem CpS.lt {w : World} {p : Pr} {v0 : PrV} {k : Nat} {v : PrV} {wl : World} (h : CpS w p v0 k v wl) : w.heap.size + 2 ≤ wl.heap.size := by have := h.R.lt; omega
theorem heap6 (w : World) {g b : Nat} (hb : b ≠ g) (o3 o5 o6 o7 o8 o9 : Nat) (T D S U x y : Value) : ((((((w.setCell ⟨g, o3, none⟩ T).setCell ⟨g, o5, none⟩ D).setCell ⟨g, o6, none⟩ S).setCell ⟨g, o7, none⟩ U).setCell ⟨g, o8, none⟩ x).setCell ⟨g, o9, none⟩ y).heap[b]? = w.heap[b]? := by
  rw [Below.heap_setCell _ _ _ _ hb, Below.heap_setCell _ _ _ _ hb, Below.heap_setCell _ _ _ _ hb, Below.heap_setCell _ _ _ _ hb, Below.heap_setCell _ _ _ _ hb, Below.heap_setCell _ _ _ _ hb]
theorem CpS.next {w : World} {p : Pr} {v0 : PrV} {k : Nat} {v : PrV} {wl w5 : World} (h : CpS w p v0 k v wl) (hk : k < 2) (hb : Below wl.heap.size wl w5) {T D S U : Value} (h4 : Lk4 wl.heap.size w5 (p.L k) T D S U) :
    CpS w p v0 (k + 1) (v.upd k ⟨T, D, S, U⟩) ((((((w5.setCell ⟨w.heap.size, 66 + k * 14 + 3, none⟩ T).setCell ⟨w.heap.size, 66 + k * 14 + 5, none⟩ D).setCell ⟨w.heap.size, 66 + k * 14 + 6, none⟩ S).setCell ⟨w.heap.size, 66 + k * 14 + 7, none⟩ U).setCell ⟨w.heap.size, 66 + k * 14 + 8, none⟩ (.int .i64 (p.L k).out.g)).setCell ⟨w.heap.size, 66 + k * 14 + 9, none⟩ (.bool (p.L k).out.cl)) := by
  have hlt := h.lt
  have C5 := ((((((h.C.over hb).set (66 + k * 14 + 3) T).set (66 + k * 14 + 5) D).set (66 + k * 14 + 6) S).set (66 + k * 14 + 7) U).set (66 + k * 14 + 8) (.int .i64 (p.L k).out.g)).set (66 + k * 14 + 9) (.bool (p.L k).out.cl)
  rw [pr_lk k hk] at C5
  have hk6 := fun (b : Nat) (hb : b ≠ w.heap.size) => heap6 w5 hb (66 + k * 14 + 3) (66 + k * 14 + 5) (66 + k * 14 + 6) (66 + k * 14 + 7) (66 + k * 14 + 8) (66 + k * 14 + 9) T D S U (.int .i64 (p.L k).out.g) (.bool (p.L k).out.cl)
  refine ⟨C5, (h.R.over hb).keep (hk6 _ (by omega)), ?_, ?_, ?_, fun c hc => ?_, fun c hc => ?_, h.hq⟩
  · exact ((((((h.B.trans (hb.mono h.B.size)).setCell (p := ⟨w.heap.size, _, none⟩) (Nat.le_refl _) _).setCell (p := ⟨w.heap.size, _, none⟩) (Nat.le_refl _) _).setCell (p := ⟨w.heap.size, _, none⟩) (Nat.le_refl _) _).setCell (p := ⟨w.heap.size, _, none⟩) (Nat.le_refl _) _).setCell (p := ⟨w.heap.size, _, none⟩) (Nat.le_refl _) _).setCell (p := ⟨w.heap.size, _, none⟩) (Nat.le_refl _) _
  · exact Ln.own_of (Ln.own_over h.ws hb) fun b hbv => hk6 b (by have := (World.ownsRow.lt h.ws b hbv).1; omega)
  · exact (h.set.over hb).keep fun b hb' _ => hk6 b (by have : w.heap.size + 2 ≤ b := hb'; omega)
  · by_cases e : c = k
    · subst e
      show LkIn _ _ _ (if c = c then _ else _)
      rw [if_pos rfl]
      have key : ∀ {u : Value} {s t : Nat} {cs : List Value}, Rep (fun b => wl.heap.size ≤ b) w5 u s t cs → Rep (fun b => w.heap.size + 2 ≤ b) _ u s t cs := fun hr => (hr.mono (P' := fun b => w.heap.size + 2 ≤ b) fun b _ hb' => Nat.le_trans hlt hb').keep fun b hb' _ => hk6 b (by have : w.heap.size + 2 ≤ b := hb'; omega)
      exact ⟨key h4.told, key h4.done, (key h4.said).c, (key h4.due).c⟩
    · show LkIn _ _ _ (if c = k then _ else _)
      rw [if_neg e]
      exact ((h.lk c (by omega)).keep fun b _ hlt => hb.block b hlt).keep fun b hb' _ => hk6 b (by have : w.heap.size + 2 ≤ b := hb'; omega)
  · show (if c = k then _ else _) = _
    rw [if_neg (by omega)]
    exact h.hl c (by omega)
theorem Rep.one {P : Nat → Prop} {w : World} {v : Value} {sz bts : Nat} {cs : List Value} (h : Rep P w v sz bts cs) : v.oneCell' = true := by
  obtain ⟨_, _, _, rfl, _⟩ := h
  rfl
theorem lk_one {P : Nat → Prop} {w : World} {x : Lk} {v : LkV} (h : LkIn P w x v) : ∀ u ∈ lkL x v, u.oneCell' = true := fun u hu => by
  simp only [lkL, List.mem_cons, List.not_mem_nil, or_false] at hu
  rcases hu with rfl | rfl | rfl | rfl | rfl | rfl | rfl | rfl | rfl | rfl | rfl | rfl | rfl | rfl <;> first | rfl | exact h.told.one | exact h.done.one | exact h.said.one | exact h.due.one
theorem pr_one {P : Nat → Prop} {w : World} {p : Pr} {v : PrV} (h : PIn P w p v) : (prC p v).all (·.oneCell') = true := by
  obtain ⟨A, n, C, e, _⟩ := h.ws
  have hs : (stC p.s v.ws).all (·.oneCell') = true := by rw [e]; exact stC_one _ _ _ _
  rw [Array.all_eq_true_iff_forall_mem] at *
  obtain ⟨_, _, ⟨Aq, nq, Cq, eq, _⟩, _⟩ := h.q
  intro u hu
  simp only [prC, List.mem_toArray, List.mem_append, List.mem_cons, List.not_mem_nil, or_false] at hu
  rcases hu with (rfl | rfl) | hu | rfl | hu | hu | rfl | rfl | rfl
  · rfl
  · rfl
  · exact hs u (by simpa using hu)
  · exact h.set.one
  · exact lk_one (h.lk 0 (by omega)) u hu
  · exact lk_one (h.lk 1 (by omega)) u hu
  · rfl
  · rfl
  · rw [eq]; rfl
/-- a provider whose lists are all in new memory, waits and queue in rows of the call's own -/
structure PCp (B : Nat) (w : World) (p : Pr) (v : PrV) : Prop where
  pin : PIn (fun b => B ≤ b) w p v
  ws : w.ownsRow B 127 8 v.ws p.s.W.length (wsL p.s.W)
  q : ∃ z, QOwn B w v.q p.q z
  oth : Rep (fun b => B ≤ b ∧ some b ≠ v.q.ownBlock) w v.ws 8 64 (wsL p.s.W) ∧ Rep (fun b => B ≤ b ∧ some b ≠ v.q.ownBlock) w v.set 2 16 (pwC p.set) ∧ ∀ c, c < 2 → LkIn (fun b => B ≤ b ∧ some b ≠ v.q.ownBlock) w (p.L c) (v.l c)
/-- all is copied: the queue too -/
theorem CpS.all {w : World} {p : Pr} {v0 v : PrV} {w9 wl : World} (h : CpS w p v0 2 v w9) (hb : Below w9.heap.size w9 wl) {lv : Value} {z : List (Value × Value)} (hq : QOwn w9.heap.size wl lv p.q z) (hl : p.q.length * 88 ≤ 140737488351232) (hw : p.s.W.length * 64 ≤ 140737488351232) :
    PCp (w.heap.size + 2) ((wl.setCell ⟨w.heap.size, 96, none⟩ lv).setCells (w.heap.size + 1) 0 (prC p { v with q := lv }).toList) p { v with q := lv } := by
  have hlt := h.lt
  have hk := fun (b : Nat) (hb : w.heap.size + 2 ≤ b) => (heap_sets (show b ≠ w.heap.size + 1 by omega) (prC p { v with q := lv }).toList 0 (wl.setCell ⟨w.heap.size, 96, none⟩ lv)).trans (Below.heap_setCell wl ⟨w.heap.size, 96, none⟩ lv b (by show b ≠ w.heap.size; omega))
  have hq2 : QOwn (w.heap.size + 2) ((wl.setCell ⟨w.heap.size, 96, none⟩ lv).setCells (w.heap.size + 1) 0 (prC p { v with q := lv }).toList) lv p.q z := by
    refine ⟨hq.len, Ln.own_base (Ln.own_of hq.own fun b hb' => hk b (by have := (World.ownsRow.lt hq.own b hb').1; omega)) hlt, fun i x y hx hy => ?_⟩
    have key : ∀ {u : Value} {s t : Nat} {cs : List Value}, Rep (fun b => w9.heap.size ≤ b ∧ some b ≠ lv.ownBlock) wl u s t cs → Rep (fun b => w.heap.size + 2 ≤ b ∧ some b ≠ lv.ownBlock) _ u s t cs := fun hr => (hr.mono (P' := fun b => w.heap.size + 2 ≤ b ∧ some b ≠ lv.ownBlock) fun b _ hb' => ⟨Nat.le_trans hlt hb'.1, hb'.2⟩).keep fun b hb' _ => hk b hb'.1
    exact ⟨key (hq.ins i x y hx hy).1, key (hq.ins i x y hx hy).2⟩
  have hws := Ln.own_of (Ln.own_over h.ws hb) fun b hb' => hk b (World.ownsRow.lt h.ws b hb').1
  have hne : ∀ b, b < w9.heap.size → some b ≠ lv.ownBlock := fun b hb e => by have := (World.ownsRow.lt hq.own b e.symm).1; omega
  have key2 : ∀ {u : Value} {s t : Nat} {cs : List Value}, Rep (fun b => w.heap.size + 2 ≤ b) w9 u s t cs → Rep (fun b => w.heap.size + 2 ≤ b ∧ some b ≠ lv.ownBlock) ((wl.setCell ⟨w.heap.size, 96, none⟩ lv).setCells (w.heap.size + 1) 0 (prC p { v with q := lv }).toList) u s t cs := fun hr => ((hr.mono (P' := fun b => w.heap.size + 2 ≤ b ∧ some b ≠ lv.ownBlock) fun b hlt hb' => ⟨hb', hne b hlt⟩).over hb).keep fun b hb' _ => hk b hb'.1
  refine ⟨⟨Rep.own hws hw, (h.set.over hb).keep fun b hb' _ => hk b hb', fun c hc => ((h.lk c hc).keep fun b _ hlt => hb.block b hlt).keep fun b hb' _ => hk b hb', hq2.rep hl⟩, hws, ⟨z, hq2⟩, key2 (Rep.own h.ws hw), key2 h.set, fun c hc => ⟨key2 (h.lk c hc).told, key2 (h.lk c hc).done, (h.lk c hc).said.map fun _ h => key2 h, (h.lk c hc).due.map fun _ h => key2 h⟩⟩
end Go.Proofs.YtjghbciepinofaaGreat.Pv

set_option maxRecDepth 100000
namespace Go.Proofs.YtjghbciepinofaaGreat
open Go.RowKit
/-- a stake is loaded -/
def loadS (v : Value) : Sem Value := Instr.loadAt 32 v
theorem loadS_eq (v : Value) : Instr.loadAt 32 v = loadS v := rfl
theorem SAt.loadS {w : World} {b : Nat} {cs : Array Value} (h : SAt w b cs) (hs : cs.size = 63) : (loadS (.pointer (some ⟨b, 0, none⟩))).run Tryz.prog w = .ok (.agg cs) w := h.load hs
end Go.Proofs.YtjghbciepinofaaGreat

set_option maxRecDepth 100000
namespace Go.Proofs.YtjghbciepinofaaGreat.Pv
open Go.RowKit
def loadLk (v : Value) : Sem Value := Instr.loadAt 41 v
theorem loadLk_eq (v : Value) : Instr.loadAt 41 v = loadLk v := rfl
theorem infoLk : (Tryz.prog.info? 41).map (·.size) = some 14 := by kernel_rfl
theorem pr_range_link {w : World} {b : Nat} {p : Pr} {v : PrV} (h : CAt 47 w b (prC p v)) (k : Nat) (hk : k < 2) : w.rangeAt b (66 + k * 14) (lkL (p.L k) (v.l k)) := h.part fun j x hx => by
  have hj : j < 14 := (List.getElem?_eq_some_iff.1 hx).1
  rw [pr_link k hk j hj]
  exact hx
theorem pr_loadLk {w : World} {b : Nat} {p : Pr} {v : PrV} (h : CAt 47 w b (prC p v)) (k : Nat) (hk : k < 2) : (loadLk (.pointer (some ⟨b, 66 + k * 14, none⟩))).run Tryz.prog w = .ok (.agg (lkL (p.L k) (v.l k)).toArray) w :=
  run_loadAt_mid (P := Tryz.prog) w b (66 + k * 14) 41 _ _ (pr_range_link h k hk) Tryz.underlying41 rfl (by rw [infoLk]; rfl)
theorem pr_loadS {w : World} {b : Nat} {p : Pr} {v : PrV} (h : CAt 47 w b (prC p v)) : (loadS (.pointer (some ⟨b, 2, none⟩))).run Tryz.prog w = .ok (.agg (stC p.s v.ws)) w := by
  have := run_loadAt_mid (P := Tryz.prog) w b 2 32 _ _ (pr_stake h) Tryz.underlying32 rfl (by rw [infoS]; rfl)
  change (Instr.loadAt 32 _).run Tryz.prog w = _
  simpa using this
attribute [local go_sem ↓] loadLk_eq
end Go.Proofs.YtjghbciepinofaaGreat.Pv

