/- Parts of the proof: KI0. -/
import Derived.Test.YtnfigdecgkcgcaaRows
import Derived.Test.YtnfigdecgkcgcaaBK29
set_option maxRecDepth 100000
namespace Go.Proofs.Ytnfigdecgkcgcaa.Kc
open Go.RowKit Pv
theorem bs_encS {k i v n : Int} {S : List (Int × Int)} {D : List Int} (h : Cd.goodN k i v n S D = 0) : Cd.bs (Cd.encS k i v n S D) = Cd.enc k i v n S D := by
  rw [Cd.encS, if_pos h]
  show ((Cd.enc k i v n S D).map (fun n => UInt8.ofNat n.toNat)).map (fun u => (u.toNat : Int)) = _
  rw [List.map_map]
  conv => rhs; rw [← List.map_id (Cd.enc k i v n S D)]
  refine List.map_congr_left fun c hc => ?_
  have := Cd.enc_byte _ _ _ _ _ _ c hc
  simp only [Function.comp, id, UInt8.toNat_ofNat']
  omega
theorem dec_encS {k i v n : Int} {S : List (Int × Int)} {D : List Int} (h : Cd.goodN k i v n S D = 0) : Cd.decE (Cd.bs (Cd.encS k i v n S D)) = 0 ∧ Cd.decP (Cd.bs (Cd.encS k i v n S D)) = (k, i, v, n, S, D) := by
  rw [bs_encS h]
  exact Cd.dec_enc h
theorem encS_size {k i v n : Int} {S : List (Int × Int)} {D : List Int} (h : Cd.goodN k i v n S D = 0) : (Cd.encS k i v n S D).size = 17 + 8 * S.length + D.length := by
  rw [← Cd.bs_length, bs_encS h, Cd.enc_length]
theorem pktOf_encS {k i v n : Int} {S : List (Int × Int)} {D : List Int} (h : Cd.goodN k i v n S D = 0) : pktOf (Cd.bs (Cd.encS k i v n S D)) = ⟨k, i, v, n, S, D⟩ := by
  unfold pktOf
  rw [(dec_encS h).2]
/-- a change, a tell -/
theorem good_chg (i : Int) (h1 : 1 ≤ i) (h2 : i ≤ 1000) : Cd.goodN 1 i 0 0 [] [] = 0 := by
  unfold Cd.goodN
  rw [if_neg (by omega), if_neg (by omega), if_neg (by rintro ⟨h, -⟩; revert h; decide), if_neg (by decide), if_neg (by decide)]
theorem good_mat (i : Int) (h1 : 1 ≤ i) (h2 : i ≤ 1000) : Cd.goodN 2 i 0 0 [] [] = 0 := by
  unfold Cd.goodN
  rw [if_neg (by omega), if_neg (by omega), if_neg (by rintro ⟨h, -⟩; revert h; decide), if_neg (by decide), if_neg (by decide)]
def chg (i : Nat) : Pkt := ⟨1, 2 + (i : Int), 0, 0, [], []⟩
def pdN (k : Nat) : List Pkt := (List.range k).map chg
def rpN (now : Int) (k : Nat) : List (Int × Int) := (List.range k).map fun (i : Nat) => (2 + (i : Int), now + 15)
def txN (k : Nat) : List ByteArray := (List.range k).map fun (i : Nat) => Cd.encS 2 (2 + (i : Int)) 0 0 [] []
def duN (t : Int) (k : Nat) : List Int := (List.range k).map fun _ => t + 40
/-- begun, with k changes heard -/
def hdC (k : Nat) : Cs := ⟨true, false, 0, 0, 1, [(0, 1)], pdN k, [], fun _ => false, ⟨[], [], 0, false⟩, 0, 0, 0, 0⟩
theorem hd_zero : beginC [(0, 1)] 1 0 = hdC 0 := rfl
theorem pdN_succ (k : Nat) : pdN (k + 1) = pdN k ++ [chg k] := by simp [pdN, List.range_succ]
theorem rpN_succ (now : Int) (k : Nat) : rpN now (k + 1) = rpN now k ++ [(2 + (k : Int), now + 15)] := by simp [rpN, List.range_succ]
theorem pdN_length (k : Nat) : (pdN k).length = k := by simp [pdN]
theorem rpN_length (now : Int) (k : Nat) : (rpN now k).length = k := by simp [rpN]
theorem txN_length (k : Nat) : (txN k).length = k := by simp [txN]
theorem duN_length (t : Int) (k : Nat) : (duN t k).length = k := by simp [duN]
theorem ref_of {c : Cs} (h : goodC c = true) (h2 : c.on = true) : refC c = 0 := by unfold refC; rw [if_pos h, if_pos h2]
theorem hd_ref (k : Nat) (hk : k ≤ 20) : refC (hdC k) = 0 := by
  refine ref_of ?_ rfl
  have h : (pdN k).all goodK = true := by
    rw [List.all_eq_true]
    intro x hx
    obtain ⟨i, hi, rfl⟩ := List.mem_map.1 hx
    have := List.mem_range.1 hi
    show (decide ((1 : Int) = 1) && decide (Cd.goodN 1 (2 + (i : Int)) 0 0 [] [] = 0)) = true
    rw [good_chg _ (by omega) (by omega)]
    rfl
  show (_ && (_ && (pdN k).all goodK && _ && _)) = true
  rw [h]
  rfl
theorem hd_hear (k : Nat) (hk : k < 20) : hearC (hdC k) (Cd.bs (Cd.encS 1 (2 + (k : Int)) 0 0 [] [])) = (hdC (k + 1), 0) := by
  have hg := good_chg (2 + (k : Int)) (by omega) (by omega)
  unfold hearC
  rw [if_pos (hd_ref k (by omega)), if_pos (dec_encS hg).1, pktOf_encS hg, if_pos rfl]
  show (({ hdC k with pd := pdN k ++ [chg k] } : Cs), (0 : Int)) = (hdC (k + 1), 0)
  rw [← pdN_succ]
  rfl
/-- after the first end -/
def edC (now : Int) (k : Nat) : Cs := ⟨true, false, 1, now, 1 + (k : Int), [(0, 1)], [], rpN now k, fun _ => false, ⟨[], [], 0, false⟩, 0, 0, 0, 0⟩
theorem takes_n (c : Cs) (h1 : c.set = [(0, 1)]) (h2 : c.id = 1) (h3 : c.rp = []) : ∀ k, (pdN k).foldl takeC c = { c with id := 1 + (k : Int), rp := rpN c.t k }
  | 0 => by
    obtain ⟨on, gone, h, t, id, set, pd, rp, fl, out, a, b, d, e⟩ := c
    dsimp only at h2 h3
    subst h2 h3
    rfl
  | k + 1 => by
    rw [pdN_succ, List.foldl_append, takes_n c h1 h2 h3 k]
    show takeC _ (chg k) = _
    unfold takeC chg
    dsimp only
    rw [h1, show Df.applyL [(0, 1)] [] = [(0, 1)] by decide, rpN_succ]
    obtain ⟨on, gone, h, t, id, set, pd, rp, fl, out, a, b, d, e⟩ := c
    dsimp only at h1 h2 h3
    subst h1 h2 h3
    dsimp only
    congr 1
    omega
theorem ripe_stop (c : Cs) (now : Int) (h : c.t < now + 15) (k : Nat) : ripeC c (rpN now k) = { c with rp := rpN now k } := by
  cases k with
  | zero => rfl
  | succ k =>
    have : rpN now (k + 1) = (2, now + 15) :: ((List.range k).map Nat.succ).map fun (i : Nat) => (2 + (i : Int), now + 15) := by
      unfold rpN
      rw [List.range_succ_eq_map, List.map_cons]
      rfl
    rw [this]
    unfold ripeC
    rw [if_neg (by show ¬ now + 15 ≤ c.t; omega)]
theorem hd_end (now : Int) (h0 : 0 ≤ now) (h1 : now < 1000) (k : Nat) (hk : k ≤ 20) : endC (hdC k) now = (edC now k, 0) := by
  unfold endC
  rw [if_pos (hd_ref k hk), if_pos ⟨by simp [isT]; omega, h0⟩]
  have e : takesC { hdC k with h := (hdC k).h + 1, t := now } = { { hdC k with h := (hdC k).h + 1, t := now } with id := 1 + (k : Int), rp := rpN now k } := takes_n { hdC k with h := (hdC k).h + 1, t := now } rfl rfl rfl k
  unfold doneC
  rw [e]
  dsimp only
  rw [ripe_stop _ now (by show now < now + 15; omega) k]
  rfl
theorem ed_ref (now : Int) (h0 : 0 ≤ now) (h1 : now < 1000) (k : Nat) (hk : k ≤ 20) : refC (edC now k) = 0 := by
  refine ref_of ?_ rfl
  have h : (rpN now k).all goodR = true := by
    rw [List.all_eq_true]
    intro x hx
    obtain ⟨i, hi, rfl⟩ := List.mem_map.1 hx
    have := List.mem_range.1 hi
    simp [goodR]
    omega
  show ((_ && _ && _ && isT now && isT (1 + (k : Int))) && (_ && _ && (rpN now k).all goodR && _)) = true
  rw [h, show isT now = true by simp [isT]; omega, show isT (1 + (k : Int)) = true by simp [isT]; omega]
  rfl
/-- too early -/
def eaC (now later : Int) (k : Nat) : Cs := ⟨true, false, 2, now + later, 1 + (k : Int), [(0, 1)], [], rpN now k, fun _ => false, ⟨[], [], 0, false⟩, 0, 0, 0, 0⟩
/-- all are told -/
def toC (now later : Int) (k : Nat) : Cs := ⟨true, false, 2, now + later, 1 + (k : Int), [(0, 1)], [], [], fun _ => false, ⟨txN k, duN (now + later) k, 0, false⟩, 0, 0, 0, 0⟩
theorem ripe_go (c : Cs) (now t : Int) (ht : c.t = t) (h0 : 0 ≤ now) (h : now + 15 ≤ t) (N : Nat) (hN : N ≤ 20) : ∀ (m i : Nat), i + m = N → c.out = ⟨txN i, duN t i, 0, false⟩ →
    ripeC c ((List.range' i m).map fun (i : Nat) => (2 + (i : Int), now + 15)) = { c with rp := [], out := ⟨txN N, duN t N, 0, false⟩ } := by
  intro m
  induction m generalizing c with
  | zero =>
    intro i hi hc
    obtain rfl : i = N := by omega
    show ({ c with rp := [] } : Cs) = _
    obtain ⟨on, gone, h, t, id, set, pd, rp, fl, out, a, b, d, e⟩ := c
    dsimp only at hc
    subst hc
    rfl
  | succ m ih =>
    intro i hi hc
    rw [List.range'_succ, List.map_cons]
    have hg := good_mat (2 + (i : Int)) (by omega) (by omega)
    have hln : Ln.sayE c.out (c.t + 40) = 0 := by
      have hgl : Ln.goodL c.out = true := by
        rw [hc]
        have : Ln.nonneg (duN t i) = true := by
          unfold Ln.nonneg
          rw [List.all_eq_true]
          intro x hx
          obtain ⟨_, _, rfl⟩ := List.mem_map.1 hx
          simp
          omega
        simp only [Ln.goodL, this, duN_length, txN_length]
        simp
        omega
      unfold Ln.sayE Ln.refN
      rw [if_neg (by omega), hgl, hc]
      simp [txN_length]
      omega
    have hsay : sayC c 2 (2 + (i : Int)) 0 0 c.t = ({ c with out := ⟨txN (i + 1), duN t (i + 1), 0, false⟩ }, 0) := by
      unfold sayC
      rw [if_pos hg]
      unfold Ln.sayL
      rw [hln, if_pos rfl, hc, ht]
      simp [txN, duN, List.range_succ]
    show (if now + 15 ≤ c.t then _ else _) = _
    rw [if_pos (by omega)]
    dsimp only
    rw [hsay, if_pos rfl]
    dsimp only
    exact ih { c with out := ⟨txN (i + 1), duN t (i + 1), 0, false⟩ } ht (i + 1) (by omega) rfl
theorem ed_end (now later : Int) (h0 : 0 ≤ now) (h1 : now < 1000) (l0 : 0 ≤ later) (l1 : later < 60) (k : Nat) (hk : k ≤ 20) : endC (edC now k) (now + later) = (if later < 15 then eaC now later k else toC now later k, 0) := by
  unfold endC
  rw [if_pos (ed_ref now h0 h1 k hk), if_pos ⟨by simp [isT]; omega, by show now ≤ _; omega⟩]
  unfold doneC takesC
  show (ripeC ({ edC now k with h := 2, t := now + later } : Cs) (rpN now k), (0 : Int)) = _
  by_cases h : later < 15
  · rw [if_pos h, ripe_stop _ now (by show now + later < now + 15; omega) k]
    rfl
  · rw [if_neg h]
    have : rpN now k = (List.range' 0 k).map fun (i : Nat) => (2 + (i : Int), now + 15) := by rw [← List.range_eq_range']; rfl
    rw [this, ripe_go _ now (now + later) rfl h0 (by omega) k hk k 0 (by omega) rfl]
    rfl
end Go.Proofs.Ytnfigdecgkcgcaa.Kc

