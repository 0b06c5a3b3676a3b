/- Parts of the proof: PEW. -/
import Derived.Test.YtkhlihpghbhppabGreatRows
import Derived.Test.YtkhlihpghbhppabGreatProviderRemovesK5
set_option maxRecDepth 100000
namespace Go.Proofs.YtkhlihpghbhppabGreat.Pv
open Go.RowKit
abbrev QE := (Int × Pkt) × (Value × Value)
def qeL (b : QE) : List Value := akL b.1 b.2
theorem quL_flat' : ∀ L : List QE, L.flatMap qeL = quL (L.map (·.1)) (L.map (·.2))
  | [] => rfl
  | a :: L => by rw [List.flatMap_cons, quL_flat' L]; rfl
theorem wpList_lies' {ops : Array Oper} {rest : List Oper} {o : Oper} {a : Act} {w : World} {Q : Exit → Act → World → Prop} (hgd : o.guard = none) (s x : Operand) (t : TypeId)
    (ho : o.op = .call { callee := .builtin .append, args := #[s, x], argTypes := #[t, t] })
    (base : Nat) (e : TypeId) (i : TypeInfo) (z : Value) (size bytes : Nat) (ht : Tryz.prog.underlying t = some (.slice e)) (hi : Tryz.prog.info? e = some i) (hz : i.zero = some z)
    (hsize : i.size = size) (hby : i.bytes = bytes) (hzs : z.cells.size = size) (hsz : 0 < size)
    (v : Value) (n : Nat) (xs : List Value) (hs : a.eval s = v) (hown : w.ownsRow base e size v n xs)
    (ad : Addr) (m c : Nat) (news : List Value) (hx : a.eval x = .slice (some ad) m c) (hl : news.length = m * size) (hnews : ∀ j u, news[j]? = some u → w.cell? (ad.add j) = some u) (h1 : ∀ u ∈ news, u.oneCell' = true)
    (hm : 0 < m) (h63 : n + m ≤ maxLen) (hbytes : (n + m) * bytes ≤ 140737488355328) (hbase : base ≤ w.heap.size)
    (h : ∀ g cap w', w'.ownsRow base e size (.slice (some ⟨g, 0, none⟩) (n + m) cap) (n + m) (xs ++ news) → w.grownBy w' v.ownBlock → (v.ownBlock = some g ∨ g = w.heap.size) → g < w'.heap.size → wpList Tryz.prog ops Q rest (a.put o.dst (.slice (some ⟨g, 0, none⟩) (n + m) cap)) w') : wpList Tryz.prog ops Q (o :: rest) a w := by
  refine wpList_plain hgd fun K hK' => ?_
  have := step_append_lies (P := Tryz.prog) (ops := ops) (o := o) (a := a) (w := w) (K := K) (Q := Q) (E := False) hgd s x t ho base e i z size bytes ht hi hz hsize hby hzs hsz v n xs hs hown ad m c news hx hl hnews h1 hm h63 hbytes hbase w.heap.size rfl (fun g cap w' r1 r2 r3 r4 => hK' _ _ (h g cap w' r1 r2 r3 r4))
  have hw : Region.wanted o (yielded ops a.tmps) = true := by simp [Region.wanted, hgd]
  rwa [if_pos hw] at this
/-- how far it is -/
structure WoS (w : World) (L : List QE) (lv : Value) (wl : World) : Prop where
  B : Below w.heap.size w wl
  own : wl.ownsRow w.heap.size 57 7 lv L.length (L.flatMap qeL)
theorem ak_cell' (w : World) (b : QE) (j : Nat) (v : Value) (hj : (qeL b)[j]? = some v) : (w.alloc (.cells #[.int .i64 b.1.1, .int .i64 b.1.2.k, .int .i64 b.1.2.i, .int .i64 b.1.2.v, .int .i64 b.1.2.n, b.2.1, b.2.2] 57)).cell? ((⟨w.heap.size, 0, none⟩ : Addr).add j) = some v := by
  rw [Addr.add_lit, Nat.zero_add, (CAt.new 57 w #[.int .i64 b.1.1, .int .i64 b.1.2.k, .int .i64 b.1.2.i, .int .i64 b.1.2.v, .int .i64 b.1.2.n, b.2.1, b.2.2]).cell j]
  simpa [qeL, akL] using hj
set_option maxHeartbeats 4000000 in
theorem pwithout_any (q : List (Int × Pkt)) (v : Value) (P : Nat → Prop) (w : World) (c : Int) (hq : QRep P w v q) (h88 : q.length * 88 ≤ 140737488351232) :
    Calls Tryz.prog 14 #[v, .int .i64 c] w fun e w' => ∃ u, e = .returned u ∧ QRep (New P w 0) w' u (q.filter fun a => decide (a.1 ≠ c)) ∧ Below w.heap.size w w' := by
  obtain ⟨z, hzl, hzr, hzi⟩ := hq
  obtain ⟨Aq, Cq, rfl, sq, -, cq, -⟩ := hzr.open (quL_length _ _ hzl) (by decide)
  obtain ⟨i0, hi, hz0, hz1, hz2⟩ := info_parts infoAs
  have hq63 : q.length ≤ 1800000000000 := by omega
  have HC := hide cq
  have HI := hide (show _ ∧ _ from ⟨hzl, hzi⟩)
  have H88 := hide h88
  have hqz : (q.zip z).length = q.length := by simp [hzl]
  have HQZ := hide hqz
  clear hzr cq hzl hzi sq h88 hqz
  go_enter Tryz.func14, Tryz.ntmps14
  go_upto_region 3 with fail
  go_loopw [5, 10] (fun lv i wl => ∃ (k : Nat), k ≤ q.length ∧ i = .int .i64 (k : Int) ∧ Hid (WoS w (((q.zip z).take k).filter fun b => decide (b.1.1 ≠ c)) lv wl)) (fun _ i _ => q.length - (intOf i).toNat)
  case atStart => exact ⟨0, Nat.zero_le _, rfl, Below.refl _ _, World.ownsRow_nil _ _ _ _⟩
  case round =>
    obtain ⟨k, hk, rfl, HW⟩ := hrel
    by_cases hlt : k < q.length
    · have hkI : (k : Int) < (q.length : Int) := by omega
      obtain ⟨x, hx⟩ : ∃ x, q[k]? = some x := ⟨_, List.getElem?_eq_getElem hlt⟩
      obtain ⟨y, hy⟩ : ∃ y, z[k]? = some y := ⟨_, List.getElem?_eq_getElem (by rw [HI.out.1]; exact hlt)⟩
      have hin := HI.out.2 k x y hx hy
      have hzk : (q.zip z)[k]? = some (x, y) := by simp [List.getElem?_zip_eq_some, hx, hy]
      have htk : (q.zip z).take (k + 1) = (q.zip z).take k ++ [(x, y)] := (take_one hzk).symm
      obtain ⟨y1, y2⟩ := y
      obtain ⟨⟨B1, n1, D1, ey1, -⟩, ⟨B2, n2, D2, ey2, -⟩⟩ := id hin
      dsimp only at ey1 ey2
      subst ey1 ey2
      obtain ⟨bq, oq, rfl, -, hbl, hcell⟩ := HC.out (by omega)
      have hc : ∀ j, j < 7 → ∀ u, (akL x (.slice B1 n1 D1, .slice B2 n2 D2))[j]? = some u → wr.cell? ⟨bq, oq + k * 7 + j, none⟩ = some u := fun j hj u hu => by
        rw [HW.out.B.cell (p := ⟨bq, oq + k * 7 + j, none⟩) hbl, Nat.add_assoc]
        exact hcell _ _ ((quL_get q z k x _ j hx hy hj).trans hu)
      have e0 := hc 0 (by omega) _ rfl
      have e1 := hc 1 (by omega) _ rfl
      have e2 := hc 2 (by omega) _ rfl
      have e3 := hc 3 (by omega) _ rfl
      have e4 := hc 4 (by omega) _ rfl
      have e5 := hc 5 (by omega) _ rfl
      have e6 := hc 6 (by omega) _ rfl
      rw [Nat.add_zero] at e0
      have b1 : Below wr.heap.size wr (wr.alloc (.cells #[.int .i64 x.1, .int .i64 x.2.k, .int .i64 x.2.i, .int .i64 x.2.v, .int .i64 x.2.n, .slice B1 n1 D1, .slice B2 n2 D2] 57)) := (Below.refl _ wr).alloc (Nat.le_refl _) _
      have Bw := HW.out.B.trans (b1.mono HW.out.B.size)
      have Ow := Ln.own_over HW.out.own b1
      have HTK := hide htk
      have hsz := HW.out.B.size
      have hll : (((q.zip z).take k).filter fun b => decide (b.1.1 ≠ c)).length ≤ k := Nat.le_trans (List.length_filter_le _ _) (List.length_take_le _ _)
      clear hc hcell hin hx hy hzk htk
      by_cases hne : x.1 = c
      · have hnb : (x.1 != c) = false := by simpa using hne
        have HF : Hid (WoS w (((q.zip z).take (k + 1)).filter fun b => decide (b.1.1 ≠ c)) u5 (wr.alloc (.cells #[.int .i64 x.1, .int .i64 x.2.k, .int .i64 x.2.i, .int .i64 x.2.v, .int .i64 x.2.n, .slice B1 n1 D1, .slice B2 n2 D2] 57))) := by
          rw [HTK.out, List.filter_append, show List.filter (fun b : QE => decide (b.1.1 ≠ c)) [(x, (.slice B1 n1 D1, .slice B2 n2 D2))] = [] by simp [hne], List.append_nil]
          exact ⟨Bw, Ow⟩
        clear Bw Ow HW b1 hne
        go_wp2
        first | exact ⟨⟨k + 1, by omega, by go_num, HF⟩, by simp [intOf]; omega⟩ | ((repeat apply Exists.intro); exact ⟨⟨k + 1, by omega, by go_num, HF⟩, rfl⟩)
      · have hnb : (x.1 != c) = true := by simpa using hne
        have HFL : Hid (((q.zip z).take (k + 1)).filter (fun b => decide (b.1.1 ≠ c)) = ((q.zip z).take k).filter (fun b => decide (b.1.1 ≠ c)) ++ [(x, (.slice B1 n1 D1, .slice B2 n2 D2))]) := by
          show _ = _
          rw [HTK.out, List.filter_append]
          congr 1
          simp [hne]
        generalize ((q.zip z).take k).filter (fun b => decide (b.1.1 ≠ c)) = L at *
        go_upto_region 6 with fail
        have K1 := CAt.new 57 wr #[.int .i64 x.1, .int .i64 x.2.k, .int .i64 x.2.i, .int .i64 x.2.v, .int .i64 x.2.n, .slice B1 n1 D1, .slice B2 n2 D2]
        generalize wr.alloc (.cells #[.int .i64 x.1, .int .i64 x.2.k, .int .i64 x.2.i, .int .i64 x.2.v, .int .i64 x.2.n, .slice B1 n1 D1, .slice B2 n2 D2] 57) = w2 at *
        have t0 : w2.cell? ⟨wr.heap.size, 0, none⟩ = some (.int .i64 x.1) := K1.cell 0
        have t1 : w2.cell? ⟨wr.heap.size, 1, none⟩ = some (.int .i64 x.2.k) := K1.cell 1
        have t2 : w2.cell? ⟨wr.heap.size, 2, none⟩ = some (.int .i64 x.2.i) := K1.cell 2
        have t3 : w2.cell? ⟨wr.heap.size, 3, none⟩ = some (.int .i64 x.2.v) := K1.cell 3
        have t4 : w2.cell? ⟨wr.heap.size, 4, none⟩ = some (.int .i64 x.2.n) := K1.cell 4
        have t5 : w2.cell? ⟨wr.heap.size, 5, none⟩ = some (.slice B1 n1 D1) := K1.cell 5
        have t6 : w2.cell? ⟨wr.heap.size, 6, none⟩ = some (.slice B2 n2 D2) := K1.cell 6
        have hzk1 := K1.lt
        obtain ⟨AL, CL, eL⟩ := Ln.own_form Ow
        subst eL
        have hb88 := H88.out
        clear e0 e1 e2 e3 e4 e5 e6 K1 HW
        apply wp_region_lit
        iterate 9 go_step
        refine wpList_lies' rfl _ _ 45 rfl w.heap.size 57 i0 _ 7 88 Tryz.underlying45 hi hz0 hz1 hz2 rfl (by decide) (.slice AL L.length CL) L.length (L.flatMap qeL) rfl (Ln.own_over Ow ((Below.refl _ w2).alloc (Nat.le_refl _) _)) ⟨w2.heap.size, 0, none⟩ 1 1 (qeL (x, (.slice B1 n1 D1, .slice B2 n2 D2))) rfl rfl (fun j u hu => ak_cell' w2 (x, (.slice B1 n1 D1, .slice B2 n2 D2)) j u hu) (fun u hu => by simp only [qeL, akL, List.mem_cons, List.not_mem_nil, or_false] at hu; rcases hu with rfl | rfl | rfl | rfl | rfl | rfl | rfl <;> rfl) (by decide) (by unfold maxLen; omega) (by omega) (by simp; omega) ?_
        intro g cap w7 ho7 hg7 hat hlt7
        have B7 : Below w.heap.size w w7 := (Bw.alloc (by have := Bw.size; omega) _).grown hg7 (by simp; have := Bw.size; omega) (fun x hx => (World.ownsRow.lt Ow x hx).1)
        have HF : Hid (WoS w (((q.zip z).take (k + 1)).filter fun b => decide (b.1.1 ≠ c)) (.slice (some ⟨g, 0, none⟩) (L.length + 1) cap) w7) := by
          rw [HFL.out]
          refine ⟨B7, ?_⟩
          rw [List.flatMap_append, List.length_append]
          simpa using ho7
        clear ho7 hg7 hat hlt7 B7 Ow Bw b1 t0 t1 t2 t3 t4 t5 t6 hi hz0 hz1 hz2
        go_simp
        go_upto_region 7 with fail
        go_wp2
        first | exact ⟨⟨k + 1, by omega, by go_num, HF⟩, by simp [intOf]; omega⟩ | ((repeat apply Exists.intro); exact ⟨⟨k + 1, by omega, by go_num, HF⟩, rfl⟩)
    · obtain rfl : k = q.length := by omega
      have HZ : Hid (QRep (New P w 0) wr u5 (q.filter fun a => decide (a.1 ≠ c)) ∧ Below w.heap.size w wr) := by
        have hW := HW.out
        rw [List.take_of_length_le (by rw [HQZ.out]; exact Nat.le_refl _)] at hW
        have hmf : (q.zip z).map (·.1) = q := List.map_fst_zip (by rw [HI.out.1]; exact Nat.le_refl _)
        have hqf : q.filter (fun a => decide (a.1 ≠ c)) = ((q.zip z).filter fun b => decide (b.1.1 ≠ c)).map (·.1) := by
          conv => lhs; rw [← hmf]
          rw [List.filter_map]
          rfl
        have hll : ((q.zip z).filter fun b => decide (b.1.1 ≠ c)).length ≤ q.length := by rw [← HQZ.out]; exact List.length_filter_le _ _
        have hb88 := H88.out
        have hmem : ∀ b ∈ ((q.zip z).filter fun b => decide (b.1.1 ≠ c)), Rep P w b.2.1 2 16 (pwC b.1.2.S) ∧ Rep P w b.2.2 1 8 (inC b.1.2.D) := fun b hb => by
          obtain ⟨j, hj⟩ := List.getElem?_of_mem (List.mem_filter.1 hb).1
          rw [List.getElem?_zip_eq_some] at hj
          exact HI.out.2 j b.1 b.2 hj.1 hj.2
        rw [hqf]
        generalize (q.zip z).filter (fun b => decide (b.1.1 ≠ c)) = L at *
        refine ⟨⟨L.map (·.2), by simp, ?_, fun i x y hx hy => ?_⟩, hW.B⟩
        · rw [← quL_flat']
          exact (Rep.own hW.own (by omega)).mono fun b _ hb => .inr hb
        · rw [List.getElem?_map] at hx hy
          rcases hb : L[i]? with _ | b
          · rw [hb] at hx; simp at hx
          · rw [hb] at hx hy
            simp at hx hy
            subst hx hy
            have := hmem b (List.mem_of_getElem? hb)
            exact ⟨(this.1.mono (P' := New P w 0) fun b hl hP => .inl ⟨hP, hl⟩).over hW.B, (this.2.mono (P' := New P w 0) fun b hl hP => .inl ⟨hP, hl⟩).over hW.B⟩
      obtain ⟨A', C', e'⟩ := Ln.own_form HW.out.own
      subst e'
      clear HW
      go_wp2
      go_ret
      exact ⟨_, rfl, HZ.out.1, HZ.out.2⟩
end Go.Proofs.YtkhlihpghbhppabGreat.Pv

