import PyProof.Rows.All
import KE.OsGo
import PySem.Challenge.RW_powershown_s06_sg_find
set_option Elab.async false
set_option linter.unusedVariables false
namespace My
theorem sq_mod (a m : Nat) : (a % m) * (a % m) % m = a * a % m := (Nat.mul_mod a a m).symm
theorem fold_pow (m x e : Nat) : ∀ (k r : Nat), r = x ^ (e / 2 ^ k) % m →
    (List.range k).reverse.foldl (fun (r i : Nat) =>
      let s := r * r % m
      if e.testBit i = true then s * x % m else s) r = x ^ e % m
  | 0, r, h => by simpa using h
  | k + 1, r, h => by
    rw [List.range_succ, List.reverse_append, List.reverse_singleton, List.singleton_append, List.foldl_cons]
    apply fold_pow m x e k
    have d : e / 2 ^ (k + 1) = e / 2 ^ k / 2 := by rw [Nat.pow_succ, Nat.div_div_eq_div_mul]
    rw [d] at h
    have t := Nat.testBit_eq_decide_div_mod_eq (x := e) (i := k)
    subst h
    dsimp only
    rw [sq_mod, ← Nat.pow_add]
    by_cases b : e / 2 ^ k % 2 = 1
    · rw [if_pos (by rw [t, b]; rfl), Nat.mod_mul_mod, ← Nat.pow_succ]
      congr 2
      omega
    · rw [if_neg (by rw [t]; simpa using b)]
      congr 2
      omega
theorem powMod_eq (m x e : Nat) : Sx50.powMod m x e = x ^ e % m := by
  unfold Sx50.powMod
  apply fold_pow
  rw [Nat.div_eq_of_lt Nat.lt_log2_self, Nat.pow_zero]

/-! power_modulo -/
@[irreducible] def pw (b e m : Int) : Int := (((b % (m.toNat : Int)).toNat ^ e.toNat % m.toNat : Nat) : Int)
theorem pw_any (b e m : Int) : pw b e m = (((b % (m.toNat : Int)).toNat ^ e.toNat % m.toNat : Nat) : Int) := by unfold pw; rfl
theorem pw_def {b : Int} (e m : Int) (hb : 0 ≤ b) : pw b e m = ((b.toNat ^ e.toNat % m.toNat : Nat) : Int) := by
  rw [pw_any]
  obtain ⟨c, rfl⟩ := Int.eq_ofNat_of_zero_le hb
  rw [← Int.natCast_emod, Int.toNat_natCast, Int.toNat_natCast, ← Nat.pow_mod]
structure PInv (b e0 m e r s : Int) : Prop where
  eq : (r.toNat * s.toNat ^ e.toNat) % m.toNat = (b % (m.toNat : Int)).toNat ^ e0.toNat % m.toNat
theorem fmod_nat {x m : Int} (hx : 0 ≤ x) (hm : 0 < m) : Int.fmod x m = ((x.toNat % m.toNat : Nat) : Int) := by
  rw [Int.fmod_eq_emod_of_nonneg x (by omega)]
  obtain ⟨a, rfl⟩ := Int.eq_ofNat_of_zero_le hx
  obtain ⟨c, rfl⟩ := Int.eq_ofNat_of_zero_le (by omega : 0 ≤ m)
  rfl
theorem fdiv_two {x : Int} (hx : 0 ≤ x) : Int.fdiv x 2 = ((x.toNat / 2 : Nat) : Int) := by
  rw [Int.fdiv_eq_ediv_of_nonneg x (by decide)]
  omega
theorem fmod_two {x : Int} (hx : 0 ≤ x) : Int.fmod x 2 = ((x.toNat % 2 : Nat) : Int) := fmod_nat hx (by decide)
theorem toNat_mul {a b : Int} (ha : 0 ≤ a) (hb : 0 ≤ b) : (a * b).toNat = a.toNat * b.toNat := by
  obtain ⟨x, rfl⟩ := Int.eq_ofNat_of_zero_le ha
  obtain ⟨y, rfl⟩ := Int.eq_ofNat_of_zero_le hb
  rw [← Int.natCast_mul]
  rfl
theorem fmod_mul {a b m : Int} (ha : 0 ≤ a) (hb : 0 ≤ b) (hm : 0 < m) : Int.fmod (a * b) m = ((a.toNat * b.toNat % m.toNat : Nat) : Int) := by
  rw [fmod_nat (Int.mul_nonneg ha hb) hm, toNat_mul ha hb]
theorem fmod_in (x : Int) {m : Int} (hm : 0 < m) : 0 ≤ Int.fmod x m ∧ Int.fmod x m < m := ⟨Int.fmod_nonneg_of_pos x hm, Int.fmod_lt_of_pos x hm⟩
theorem p_start {b e m : Int} (he : 0 ≤ e) (hm : 2 ≤ m) :
    0 ≤ e ∧ (0 : Int) ≤ 1 ∧ 1 < m ∧ 0 ≤ Int.fmod b m ∧ Int.fmod b m < m ∧ PInv b e m e 1 (Int.fmod b m) := by
  have f := fmod_in b (by omega : 0 < m)
  refine ⟨he, by omega, by omega, f.1, f.2, ⟨?_⟩⟩
  rw [Int.fmod_eq_emod_of_nonneg b (by omega), show ((m.toNat : Nat) : Int) = m by omega]
  show (1 * (b % m).toNat ^ e.toNat) % m.toNat = _
  rw [Nat.one_mul]
theorem half_pow (s e m : Nat) : (s * s % m) ^ (e / 2) % m = s ^ (2 * (e / 2)) % m := by
  rw [← Nat.pow_mod, ← Nat.pow_two, ← Nat.pow_mul]
theorem p_even {b e0 m e r s : Int} (h : PInv b e0 m e r s) (he : 0 < e) (o : ¬ Int.fmod e 2 = 1) (r0 : 0 ≤ r) (r1 : r < m) (s0 : 0 ≤ s) (s1 : s < m) :
    0 ≤ Int.fdiv e 2 ∧ 0 ≤ r ∧ r < m ∧ 0 ≤ Int.fmod (s * s) m ∧ Int.fmod (s * s) m < m ∧ PInv b e0 m (Int.fdiv e 2) r (Int.fmod (s * s) m) := by
  have hm : 0 < m := by omega
  have f := fmod_in (s * s) hm
  have h' := h.eq
  rw [fmod_two (by omega)] at o
  refine ⟨by rw [fdiv_two (by omega)]; omega, r0, r1, f.1, f.2, ⟨?_⟩⟩
  rw [fmod_mul s0 s0 hm, fdiv_two (by omega), Int.toNat_natCast, Int.toNat_natCast, ← h']
  rw [Nat.mul_mod, half_pow, ← Nat.mul_mod]
  congr 3
  omega
theorem p_odd {b e0 m e r s : Int} (h : PInv b e0 m e r s) (he : 0 < e) (o : Int.fmod e 2 = 1) (r0 : 0 ≤ r) (r1 : r < m) (s0 : 0 ≤ s) (s1 : s < m) :
    0 ≤ Int.fdiv e 2 ∧ 0 ≤ Int.fmod (r * s) m ∧ Int.fmod (r * s) m < m ∧ 0 ≤ Int.fmod (s * s) m ∧ Int.fmod (s * s) m < m ∧ PInv b e0 m (Int.fdiv e 2) (Int.fmod (r * s) m) (Int.fmod (s * s) m) := by
  have hm : 0 < m := by omega
  have f := fmod_in (s * s) hm
  have g := fmod_in (r * s) hm
  have h' := h.eq
  rw [fmod_two (by omega)] at o
  refine ⟨by rw [fdiv_two (by omega)]; omega, g.1, g.2, f.1, f.2, ⟨?_⟩⟩
  rw [fmod_mul s0 s0 hm, fmod_mul r0 s0 hm, fdiv_two (by omega), Int.toNat_natCast, Int.toNat_natCast, Int.toNat_natCast, ← h']
  rw [Nat.mul_mod, half_pow, ← Nat.mul_mod, Nat.mod_mul_mod, Nat.mul_assoc, Nat.mul_comm s.toNat, ← Nat.pow_succ]
  congr 3
  omega
theorem p_less {e : Int} (he : 0 < e) : (Int.fdiv e 2).toNat < e.toNat := by
  rw [fdiv_two (by omega)]
  omega
theorem p_out {b e0 m e r s : Int} (h : PInv b e0 m e r s) (e1 : 0 ≤ e) (he : ¬ 0 < e) (r0 : 0 ≤ r) (r1 : r < m) : r = pw b e0 m := by
  have z : e = 0 := by omega
  have h' := h.eq
  rw [z] at h'
  rw [pw_any, ← h', Int.toNat_zero, Nat.pow_zero, Nat.mul_one, Nat.mod_eq_of_lt (by omega)]
  omega
theorem pw_in {m : Int} (b e : Int) (hm : 0 < m) : 0 ≤ pw b e m ∧ pw b e m < m := by
  rw [pw_any]
  have := Nat.mod_lt ((b % (m.toNat : Int)).toNat ^ e.toNat) (show 0 < m.toNat by omega)
  omega
theorem pw_fact (b e m : Int) : 0 ≤ pw b e m ∧ (0 < m → pw b e m < m) := by
  refine ⟨?_, fun h => (pw_in b e h).2⟩
  rw [pw_any]
  exact Int.natCast_nonneg _
/-! shows_composite -/
def sqs (n y : Nat) : Nat → Nat
  | 0 => y
  | k + 1 => sqs n y k * sqs n y k % n
def hit (n y : Nat) : Nat → Bool
  | 0 => false
  | k + 1 => hit n y k || sqs n y (k + 1) == n - 1
theorem fold_sq (n y : Nat) : ∀ k, (List.range k).foldl (fun (z : Nat × Bool) (_ : Nat) =>
        let w := z.1 * z.1 % n
        (w, z.2 || w == n - 1)) (y, false) = (sqs n y k, hit n y k)
  | 0 => rfl
  | k + 1 => by
    rw [List.range_succ, List.foldl_append, fold_sq n y k]
    rfl
def scN (w n d t : Nat) : Bool := !(w ^ d % n == 1 || (w ^ d % n == n - 1 || hit n (w ^ d % n) (t - 1)))
@[irreducible] def sc (w n d t : Int) : Bool := scN w.toNat n.toNat d.toNat t.toNat
theorem sc_def (w n d t : Int) : sc w n d t = scN w.toNat n.toNat d.toNat t.toNat := by unfold sc; rfl
structure SInv (v0 n : Int) (pre : List Int) (v : Int) : Prop where
  eq : v.toNat = sqs n.toNat v0.toNat pre.length
  no : hit n.toNat v0.toNat pre.length = false
theorem s_start {v0 n : Int} (h0 : 0 ≤ v0) (h1 : v0 < n) : 0 ≤ v0 ∧ v0 < n ∧ SInv v0 n [] v0 := ⟨h0, h1, rfl, rfl⟩
theorem s_next {v0 n v : Int} {pre : List Int} (h : SInv v0 n pre v) (h0 : 0 ≤ v) (h1 : v < n) : (Int.fmod (v * v) n).toNat = sqs n.toNat v0.toNat (pre.length + 1) := by
  rw [fmod_mul h0 h0 (by omega), Int.toNat_natCast, h.eq]
  rfl
theorem s_turn {v0 n v k : Int} {pre : List Int} (h : SInv v0 n pre v) (h0 : 0 ≤ v) (h1 : v < n) (e : ¬ Int.fmod (v * v) n = n - 1) :
    0 ≤ Int.fmod (v * v) n ∧ Int.fmod (v * v) n < n ∧ SInv v0 n (pre ++ [k]) (Int.fmod (v * v) n) := by
  have f := fmod_in (v * v) (by omega : 0 < n)
  have l : (pre ++ [k]).length = pre.length + 1 := by simp
  have s := s_next h h0 h1
  refine ⟨f.1, f.2, ?_, ?_⟩
  · rw [l, s]
  · rw [l]
    show (hit n.toNat v0.toNat pre.length || sqs n.toNat v0.toNat (pre.length + 1) == n.toNat - 1) = false
    rw [h.no, ← s, Bool.false_or, beq_eq_false_iff_ne]
    intro q
    apply e
    omega
theorem hit_mono {n y : Nat} {j : Nat} : ∀ {k : Nat}, j ≤ k → hit n y j = true → hit n y k = true
  | 0, h, t => by
    rw [show j = 0 by omega] at t
    exact t
  | k + 1, h, t => by
    by_cases e : j = k + 1
    · rw [← e]
      exact t
    · have := hit_mono (k := k) (by omega) t
      show (hit n y k || _) = true
      rw [this]
      rfl
theorem s_one {w n d t : Int} (hw : 0 ≤ w) (hn : 2 ≤ n) (h : pw w d n = 1 ∨ pw w d n = n - 1) : false = sc w n d t := by
  rw [sc_def]
  unfold scN
  rw [pw_def _ _ hw] at h
  rcases h with h | h
  · have e : w.toNat ^ d.toNat % n.toNat = 1 := by omega
    rw [e]
    rfl
  · have e : w.toNat ^ d.toNat % n.toNat = n.toNat - 1 := by omega
    rw [e]
    simp
theorem s_hit {w n d t v : Int} {pre : List Int} (hw : 0 ≤ w) (h : SInv (pw w d n) n pre v) (h0 : 0 ≤ v) (h1 : v < n) (e : Int.fmod (v * v) n = n - 1) (l : (pre.length : Int) < t - 1) : false = sc w n d t := by
  have s := s_next h h0 h1
  rw [sc_def]
  unfold scN
  have q : (pw w d n).toNat = w.toNat ^ d.toNat % n.toNat := by rw [pw_def _ _ hw, Int.toNat_natCast]
  have r : hit n.toNat (pw w d n).toNat (pre.length + 1) = true := by
    show (hit n.toNat _ pre.length || sqs n.toNat _ (pre.length + 1) == n.toNat - 1) = true
    rw [← s, e, show (n - 1).toNat = n.toNat - 1 by omega]
    simp
  rw [q] at r
  rw [hit_mono (by omega) r]
  simp
theorem s_out {w n d t v : Int} {pre : List Int} (hw : 0 ≤ w) (h : SInv (pw w d n) n pre v) (hn : 2 ≤ n) (a : ¬ pw w d n = 1) (b : ¬ pw w d n = n - 1) (l : pre.length = (t - 1).toNat) : true = sc w n d t := by
  rw [sc_def]
  unfold scN
  have q : (pw w d n).toNat = w.toNat ^ d.toNat % n.toNat := by rw [pw_def _ _ hw, Int.toNat_natCast]
  have r := h.no
  rw [q, l, show (t - 1).toNat = t.toNat - 1 by omega] at r
  rw [r]
  rw [pw_def _ _ hw] at a b
  have a' : (w.toNat ^ d.toNat % n.toNat == 1) = false := beq_eq_false_iff_ne.mpr (by omega)
  have b' : (w.toNat ^ d.toNat % n.toNat == n.toNat - 1) = false := beq_eq_false_iff_ne.mpr (by omega)
  rw [a', b']
  rfl
/-! is_prime -/
@[irreducible] def pr (n : Int) : Bool := Sx50.prime n.toNat
theorem pr_def (n : Int) : pr n = Sx50.prime n.toNat := by unfold pr; rfl
def small : List Nat := [2, 3, 5, 7, 11, 13, 17, 19, 23, 29, 31, 37]
def twosOf (m : Nat) : Nat := ((List.range 64).find? fun (i : Nat) => (m - 1).testBit i).getD 0
theorem prime_unf {m : Nat} (h : 2 ≤ m) : Sx50.prime m = if small.contains m = true then true else if small.any (fun (p : Nat) => m % p == 0) = true then false else
    small.all fun w => ! scN w m ((m - 1) / 2 ^ twosOf m) (twosOf m) := by
  unfold Sx50.prime
  rw [if_neg (by omega)]
  simp only [powMod_eq, fold_sq]
  have e : ∀ w : Nat, (! scN w m ((m - 1) / 2 ^ twosOf m) (twosOf m)) = (w ^ ((m - 1) / 2 ^ twosOf m) % m == 1 || (w ^ ((m - 1) / 2 ^ twosOf m) % m == m - 1 || hit m (w ^ ((m - 1) / 2 ^ twosOf m) % m) (twosOf m - 1))) := by
    intro w
    unfold scN
    rw [Bool.not_not]
  simp only [e]
  rfl
theorem n_low {n : Int} (h : n < 2) : false = pr n := by
  rw [pr_def]
  unfold Sx50.prime
  rw [if_pos (by omega)]
theorem n_small {n : Int} (w : Nat) (hw : w ∈ small) (hn : 2 ≤ n) (d : Int.fmod n w = 0) : (decide (n = (w : Int))) = pr n := by
  have w0 : 0 < w := (by decide : ∀ w ∈ small, 0 < w) w hw
  rw [fmod_nat (by omega) (by omega)] at d
  rw [Int.toNat_natCast] at d
  have d' : n.toNat % w = 0 := by omega
  rw [pr_def, prime_unf (by omega)]
  have two : ∀ a ∈ small, ∀ b ∈ small, a % b = 0 → a = b := by decide
  by_cases c : n.toNat ∈ small
  · have e := two _ c w hw d'
    rw [if_pos (List.contains_iff_mem.mpr c)]
    simp
    omega
  · rw [if_neg (fun x => c (List.contains_iff_mem.mp x)), if_pos (List.any_eq_true.mpr ⟨w, hw, by rw [d']; rfl⟩)]
    apply decide_eq_false
    intro e
    apply c
    rw [e, Int.toNat_natCast]
    exact hw
theorem n_small' {n : Int} (w : Nat) (hw : w ∈ small) (hn : 2 ≤ n) (d : Int.fmod n w = 0) : (n == (w : Int)) = pr n := by
  rw [← n_small w hw hn d]
  rw [Bool.eq_iff_iff, decide_eq_true_iff, beq_iff_eq]
theorem n_s2 {n : Int} (d : Int.fmod n 2 = 0) (hn : 2 ≤ n) : (n == 2) = pr n := n_small' 2 (by decide) hn d
theorem n_s3 {n : Int} (d : Int.fmod n 3 = 0) (hn : 2 ≤ n) : (n == 3) = pr n := n_small' 3 (by decide) hn d
theorem n_s5 {n : Int} (d : Int.fmod n 5 = 0) (hn : 2 ≤ n) : (n == 5) = pr n := n_small' 5 (by decide) hn d
theorem n_s7 {n : Int} (d : Int.fmod n 7 = 0) (hn : 2 ≤ n) : (n == 7) = pr n := n_small' 7 (by decide) hn d
theorem n_s11 {n : Int} (d : Int.fmod n 11 = 0) (hn : 2 ≤ n) : (n == 11) = pr n := n_small' 11 (by decide) hn d
theorem n_s13 {n : Int} (d : Int.fmod n 13 = 0) (hn : 2 ≤ n) : (n == 13) = pr n := n_small' 13 (by decide) hn d
theorem n_s17 {n : Int} (d : Int.fmod n 17 = 0) (hn : 2 ≤ n) : (n == 17) = pr n := n_small' 17 (by decide) hn d
theorem n_s19 {n : Int} (d : Int.fmod n 19 = 0) (hn : 2 ≤ n) : (n == 19) = pr n := n_small' 19 (by decide) hn d
theorem n_s23 {n : Int} (d : Int.fmod n 23 = 0) (hn : 2 ≤ n) : (n == 23) = pr n := n_small' 23 (by decide) hn d
theorem n_s29 {n : Int} (d : Int.fmod n 29 = 0) (hn : 2 ≤ n) : (n == 29) = pr n := n_small' 29 (by decide) hn d
theorem n_s31 {n : Int} (d : Int.fmod n 31 = 0) (hn : 2 ≤ n) : (n == 31) = pr n := n_small' 31 (by decide) hn d
theorem n_s37 {n : Int} (d : Int.fmod n 37 = 0) (hn : 2 ≤ n) : (n == 37) = pr n := n_small' 37 (by decide) hn d
structure OInv (n odd twos : Int) : Prop where
  eq : odd.toNat * 2 ^ twos.toNat = n.toNat - 1
theorem o_bound {n odd twos : Int} (h : OInv n odd twos) (ho : 1 ≤ odd) (hn : n < 18446744073709551616) : twos.toNat < 64 := by
  have h' := h.eq
  refine Decidable.byContradiction fun c => ?_
  have p : 2 ^ 64 ≤ 2 ^ twos.toNat := Nat.pow_le_pow_right (by decide) (by omega)
  have q : 1 * 2 ^ twos.toNat ≤ odd.toNat * 2 ^ twos.toNat := Nat.mul_le_mul_right _ (by omega)
  rw [h'] at q
  have : (2 : Nat) ^ 64 = 18446744073709551616 := by decide
  omega
theorem o_start {n : Int} (hn : 2 ≤ n) (hn2 : n < 18446744073709551616) : 1 ≤ n - 1 ∧ n - 1 < 18446744073709551616 ∧ (0 : Int) ≤ 0 ∧ (0 : Int) ≤ 64 ∧ OInv n (n - 1) 0 := by
  refine ⟨by omega, by omega, by omega, by omega, ⟨?_⟩⟩
  rw [Int.toNat_zero, Nat.pow_zero, Nat.mul_one]
  omega
theorem o_turn {n odd twos : Int} (h : OInv n odd twos) (ho : 1 ≤ odd) (hn : n < 18446744073709551616) (ht : 0 ≤ twos) (ho2 : odd < 18446744073709551616) (e : Int.fmod odd 2 = 0) :
    1 ≤ Int.fdiv odd 2 ∧ Int.fdiv odd 2 < 18446744073709551616 ∧ 0 ≤ twos + 1 ∧ twos + 1 ≤ 64 ∧ OInv n (Int.fdiv odd 2) (twos + 1) := by
  have b := o_bound h ho hn
  rw [fmod_two (by omega)] at e
  rw [fdiv_two (by omega)]
  refine ⟨by omega, by omega, by omega, by omega, ⟨?_⟩⟩
  rw [← h.eq, Int.toNat_natCast, show (twos + 1).toNat = twos.toNat + 1 by omega, Nat.pow_succ, Nat.mul_comm (2 ^ twos.toNat) 2, ← Nat.mul_assoc]
  congr 1
  omega
theorem o_less {odd : Int} (ho : 1 ≤ odd) : (Int.fdiv odd 2).toNat < odd.toNat := p_less (by omega)
theorem o_find {n odd twos : Int} (h : OInv n odd twos) (ho : 1 ≤ odd) (hn : n < 18446744073709551616) (e : ¬ Int.fmod odd 2 = 0) :
    ((List.range 64).find? fun (i : Nat) => (n.toNat - 1).testBit i) = some twos.toNat ∧ (n.toNat - 1) / 2 ^ twos.toNat = odd.toNat := by
  have b := o_bound h ho hn
  rw [fmod_two (by omega)] at e
  rw [← h.eq]
  constructor
  · rw [List.find?_range_eq_some]
    refine ⟨?_, List.mem_range.mpr b, fun j hj => ?_⟩
    · rw [Nat.testBit_eq_decide_div_mod_eq, Nat.mul_div_cancel _ (Nat.two_pow_pos _)]
      simp
      omega
    · rw [Nat.testBit_eq_decide_div_mod_eq, show twos.toNat = (twos.toNat - j - 1) + 1 + j by omega, Nat.pow_add, ← Nat.mul_assoc, Nat.mul_div_cancel _ (Nat.two_pow_pos _), Nat.pow_succ, ← Nat.mul_assoc, Nat.mul_mod_left]
      rfl
  · rw [Nat.mul_div_cancel _ (Nat.two_pow_pos _)]
theorem n_all {n odd twos : Int} (h : OInv n odd twos) (ho : 1 ≤ odd) (hn : n < 18446744073709551616) (hn2 : 2 ≤ n) (e : ¬ Int.fmod odd 2 = 0)
    (s : ∀ w ∈ small, ¬ n.toNat % w = 0) : pr n = small.all fun w => ! scN w n.toNat odd.toNat twos.toNat := by
  have f := o_find h ho hn e
  rw [pr_def, prime_unf (by omega)]
  have t : twosOf n.toNat = twos.toNat := by
    unfold twosOf
    rw [f.1]
    rfl
  have c : ¬ n.toNat ∈ small := fun m => s _ m (Nat.mod_self _)
  rw [if_neg (fun x => c (List.contains_iff_mem.mp x)), if_neg (fun x => by
    obtain ⟨w, hw, q⟩ := List.any_eq_true.mp x
    exact s w hw (by simpa using q)), t, f.2]
theorem n_free {n : Int} (hn : 0 ≤ n) (h2 : ¬ Int.fmod n 2 = 0) (h3 : ¬ Int.fmod n 3 = 0) (h5 : ¬ Int.fmod n 5 = 0) (h7 : ¬ Int.fmod n 7 = 0) (h11 : ¬ Int.fmod n 11 = 0) (h13 : ¬ Int.fmod n 13 = 0)
    (h17 : ¬ Int.fmod n 17 = 0) (h19 : ¬ Int.fmod n 19 = 0) (h23 : ¬ Int.fmod n 23 = 0) (h29 : ¬ Int.fmod n 29 = 0) (h31 : ¬ Int.fmod n 31 = 0) (h37 : ¬ Int.fmod n 37 = 0) :
    ∀ w ∈ small, ¬ n.toNat % w = 0 := by
  rw [Int.fmod_eq_emod_of_nonneg n (by decide)] at h2 h3 h5 h7 h11 h13 h17 h19 h23 h29 h31 h37
  intro w hw
  unfold small at hw
  simp only [List.mem_cons, List.not_mem_nil, or_false] at hw
  rcases hw with rfl | rfl | rfl | rfl | rfl | rfl | rfl | rfl | rfl | rfl | rfl | rfl <;> omega
theorem n_comp {n odd twos : Int} (w : Nat) (x : sc w n odd twos = true) (hw : w ∈ small) (s : ∀ w ∈ small, ¬ n.toNat % w = 0) (h : OInv n odd twos) (ho : 1 ≤ odd) (hn : n < 18446744073709551616) (hn2 : 2 ≤ n) (e : ¬ Int.fmod odd 2 = 0) : false = pr n := by
  rw [n_all h ho hn hn2 e s]
  rw [sc_def, Int.toNat_natCast] at x
  symm
  rw [List.all_eq_false]
  exact ⟨w, hw, by rw [x]; simp⟩
theorem n_c2 {n odd twos : Int} (x : sc 2 n odd twos = true) (s : ∀ w ∈ small, ¬ n.toNat % w = 0) (h : OInv n odd twos) (ho : 1 ≤ odd) (hn : n < 18446744073709551616) (hn2 : 2 ≤ n) (e : ¬ Int.fmod odd 2 = 0) : false = pr n := n_comp 2 x (by decide) s h ho hn hn2 e
theorem n_c3 {n odd twos : Int} (x : sc 3 n odd twos = true) (s : ∀ w ∈ small, ¬ n.toNat % w = 0) (h : OInv n odd twos) (ho : 1 ≤ odd) (hn : n < 18446744073709551616) (hn2 : 2 ≤ n) (e : ¬ Int.fmod odd 2 = 0) : false = pr n := n_comp 3 x (by decide) s h ho hn hn2 e
theorem n_c5 {n odd twos : Int} (x : sc 5 n odd twos = true) (s : ∀ w ∈ small, ¬ n.toNat % w = 0) (h : OInv n odd twos) (ho : 1 ≤ odd) (hn : n < 18446744073709551616) (hn2 : 2 ≤ n) (e : ¬ Int.fmod odd 2 = 0) : false = pr n := n_comp 5 x (by decide) s h ho hn hn2 e
theorem n_c7 {n odd twos : Int} (x : sc 7 n odd twos = true) (s : ∀ w ∈ small, ¬ n.toNat % w = 0) (h : OInv n odd twos) (ho : 1 ≤ odd) (hn : n < 18446744073709551616) (hn2 : 2 ≤ n) (e : ¬ Int.fmod odd 2 = 0) : false = pr n := n_comp 7 x (by decide) s h ho hn hn2 e
theorem n_c11 {n odd twos : Int} (x : sc 11 n odd twos = true) (s : ∀ w ∈ small, ¬ n.toNat % w = 0) (h : OInv n odd twos) (ho : 1 ≤ odd) (hn : n < 18446744073709551616) (hn2 : 2 ≤ n) (e : ¬ Int.fmod odd 2 = 0) : false = pr n := n_comp 11 x (by decide) s h ho hn hn2 e
theorem n_c13 {n odd twos : Int} (x : sc 13 n odd twos = true) (s : ∀ w ∈ small, ¬ n.toNat % w = 0) (h : OInv n odd twos) (ho : 1 ≤ odd) (hn : n < 18446744073709551616) (hn2 : 2 ≤ n) (e : ¬ Int.fmod odd 2 = 0) : false = pr n := n_comp 13 x (by decide) s h ho hn hn2 e
theorem n_c17 {n odd twos : Int} (x : sc 17 n odd twos = true) (s : ∀ w ∈ small, ¬ n.toNat % w = 0) (h : OInv n odd twos) (ho : 1 ≤ odd) (hn : n < 18446744073709551616) (hn2 : 2 ≤ n) (e : ¬ Int.fmod odd 2 = 0) : false = pr n := n_comp 17 x (by decide) s h ho hn hn2 e
theorem n_c19 {n odd twos : Int} (x : sc 19 n odd twos = true) (s : ∀ w ∈ small, ¬ n.toNat % w = 0) (h : OInv n odd twos) (ho : 1 ≤ odd) (hn : n < 18446744073709551616) (hn2 : 2 ≤ n) (e : ¬ Int.fmod odd 2 = 0) : false = pr n := n_comp 19 x (by decide) s h ho hn hn2 e
theorem n_c23 {n odd twos : Int} (x : sc 23 n odd twos = true) (s : ∀ w ∈ small, ¬ n.toNat % w = 0) (h : OInv n odd twos) (ho : 1 ≤ odd) (hn : n < 18446744073709551616) (hn2 : 2 ≤ n) (e : ¬ Int.fmod odd 2 = 0) : false = pr n := n_comp 23 x (by decide) s h ho hn hn2 e
theorem n_c29 {n odd twos : Int} (x : sc 29 n odd twos = true) (s : ∀ w ∈ small, ¬ n.toNat % w = 0) (h : OInv n odd twos) (ho : 1 ≤ odd) (hn : n < 18446744073709551616) (hn2 : 2 ≤ n) (e : ¬ Int.fmod odd 2 = 0) : false = pr n := n_comp 29 x (by decide) s h ho hn hn2 e
theorem n_c31 {n odd twos : Int} (x : sc 31 n odd twos = true) (s : ∀ w ∈ small, ¬ n.toNat % w = 0) (h : OInv n odd twos) (ho : 1 ≤ odd) (hn : n < 18446744073709551616) (hn2 : 2 ≤ n) (e : ¬ Int.fmod odd 2 = 0) : false = pr n := n_comp 31 x (by decide) s h ho hn hn2 e
theorem n_c37 {n odd twos : Int} (x : sc 37 n odd twos = true) (s : ∀ w ∈ small, ¬ n.toNat % w = 0) (h : OInv n odd twos) (ho : 1 ≤ odd) (hn : n < 18446744073709551616) (hn2 : 2 ≤ n) (e : ¬ Int.fmod odd 2 = 0) : false = pr n := n_comp 37 x (by decide) s h ho hn hn2 e
theorem n_prime {n odd twos : Int} (h2 : sc 2 n odd twos = false) (h3 : sc 3 n odd twos = false) (h5 : sc 5 n odd twos = false) (h7 : sc 7 n odd twos = false) (h11 : sc 11 n odd twos = false) (h13 : sc 13 n odd twos = false)
    (h17 : sc 17 n odd twos = false) (h19 : sc 19 n odd twos = false) (h23 : sc 23 n odd twos = false) (h29 : sc 29 n odd twos = false) (h31 : sc 31 n odd twos = false) (h37 : sc 37 n odd twos = false)
    (s : ∀ w ∈ small, ¬ n.toNat % w = 0) (h : OInv n odd twos) (ho : 1 ≤ odd) (hn : n < 18446744073709551616) (hn2 : 2 ≤ n) (e : ¬ Int.fmod odd 2 = 0) : true = pr n := by
  rw [n_all h ho hn hn2 e s]
  rw [sc_def] at h2 h3 h5 h7 h11 h13 h17 h19 h23 h29 h31 h37
  symm
  rw [List.all_eq_true]
  intro w hw
  unfold small at hw
  simp only [List.mem_cons, List.not_mem_nil, or_false] at hw
  rcases hw with rfl | rfl | rfl | rfl | rfl | rfl | rfl | rfl | rfl | rfl | rfl | rfl <;> (rw [Bool.not_eq_true']; assumption)
theorem pr_two {n : Int} (h : pr n = true) : 2 ≤ n := by
  refine Decidable.byContradiction fun c => ?_
  rw [← n_low (by omega)] at h
  cases h
/-! is_element, is_good -/
@[irreducible] def el (p q v : Int) : Bool := Sx50.element ⟨p.toNat, q.toNat, 0⟩ v.toNat
theorem el_def (p q v : Int) : el p q v = Sx50.element ⟨p.toNat, q.toNat, 0⟩ v.toNat := by unfold el; rfl
theorem el_lo {p q v : Int} (h : ¬ 1 ≤ v) : false = el p q v := by
  rw [el_def]
  unfold Sx50.element
  rw [decide_eq_false (by omega)]
  rfl
theorem el_hi {p q v : Int} (h : 1 ≤ v) (h2 : ¬ v < p) : false = el p q v := by
  rw [el_def]
  unfold Sx50.element
  rw [decide_eq_false (p := v.toNat < p.toNat) (by omega)]
  simp
theorem el_is {p q v : Int} (h : 1 ≤ v) (h2 : v < p) : decide (pw v q p = 1) = el p q v := by
  rw [el_def, pw_def _ _ (by omega : 0 ≤ v)]
  unfold Sx50.element
  rw [powMod_eq, decide_eq_true (p := v.toNat < p.toNat) (by omega), decide_eq_true (p := 1 ≤ v.toNat) (by omega), Bool.true_and, Bool.true_and]
  show _ = (v.toNat ^ q.toNat % p.toNat == 1)
  generalize v.toNat ^ q.toNat % p.toNat = z
  rw [Bool.eq_iff_iff, decide_eq_true_iff, beq_iff_eq]
  omega
theorem el_is' {p q v : Int} (h : 1 ≤ v) (h2 : v < p) : (pw v q p == 1) = el p q v := by
  rw [← el_is h h2, Bool.eq_iff_iff, decide_eq_true_iff, beq_iff_eq]
theorem el_lo' {p q v : Int} (h : ¬ 1 ≤ v) : decide (1 ≤ v) = el p q v := by
  rw [decide_eq_false h]
  exact el_lo h
theorem el_hi' {p q v : Int} (h : 1 ≤ v) (h2 : ¬ v < p) : decide (v < p) = el p q v := by
  rw [decide_eq_false h2]
  exact el_hi h h2
theorem el_two {p q v : Int} (h : el p q v = true) : 1 ≤ v ∧ v < p := by
  refine Decidable.byContradiction fun c => ?_
  by_cases a : 1 ≤ v
  · rw [← el_hi a (by omega)] at h
    cases h
  · rw [← el_lo a] at h
    cases h
@[irreducible] def gd (p q g : Int) : Bool := Sx50.good ⟨p.toNat, q.toNat, g.toNat⟩
theorem gd_def (p q g : Int) : gd p q g = Sx50.good ⟨p.toNat, q.toNat, g.toNat⟩ := by unfold gd; rfl
theorem gd_unf {p q g : Int} (hp : pr p = true) (hq : pr q = true) (hl : p < 9223372036854775808) : gd p q g = (decide (Int.fmod (p - 1) q = 0) && (decide (2 ≤ g) && el p q g)) := by
  have p2 := pr_two hp
  have q2 := pr_two hq
  rw [fmod_nat (by omega) (by omega), el_def, gd_def]
  rw [pr_def] at hp hq
  unfold Sx50.good Sx50.element
  simp only [hp, hq, Bool.true_and, powMod_eq]
  rw [decide_eq_true (p := p.toNat < 2 ^ 63) (by have : (2 : Nat) ^ 63 = 9223372036854775808 := by decide
                                                 omega), Bool.true_and, show (p - 1).toNat = p.toNat - 1 by omega]
  by_cases a : 2 ≤ g
  · rw [decide_eq_true a, decide_eq_true (p := 1 ≤ g.toNat) (by omega), decide_eq_true (p := 2 ≤ g.toNat) (by omega), Bool.true_and, Bool.true_and]
    congr 1
    generalize (p.toNat - 1) % q.toNat = z
    rw [Bool.eq_iff_iff, decide_eq_true_iff, beq_iff_eq]
    omega
  · rw [decide_eq_false a, decide_eq_false (p := 2 ≤ g.toNat) (by omega), Bool.false_and, Bool.false_and, Bool.and_false, Bool.and_false]
theorem gd_big {p q g : Int} (h : 9223372036854775808 ≤ p) : false = gd p q g := by
  rw [gd_def]
  unfold Sx50.good
  rw [decide_eq_false (p := p.toNat < 2 ^ 63) (by have : (2 : Nat) ^ 63 = 9223372036854775808 := by decide
                                                  omega)]
  simp
theorem gd_p {p q g : Int} (h : pr p = false) : false = gd p q g := by
  rw [gd_def]
  rw [pr_def] at h
  unfold Sx50.good
  rw [h]
  rfl
theorem gd_q {p q g : Int} (h : pr q = false) : false = gd p q g := by
  rw [gd_def]
  rw [pr_def] at h
  unfold Sx50.good
  rw [h]
  simp
theorem gd_div {p q g : Int} (h : ¬ Int.fmod (p - 1) q = 0) (hp : pr p = true) (hq : pr q = true) (hl : p < 9223372036854775808) : false = gd p q g := by
  rw [gd_unf hp hq hl, decide_eq_false h]
  rfl
theorem gd_g {p q g : Int} (hp : pr p = true) (hq : pr q = true) (hl : p < 9223372036854775808) (h : ¬ 2 ≤ g) : false = gd p q g := by
  rw [gd_unf hp hq hl, decide_eq_false h]
  simp
theorem gd_g' {p q g : Int} (hp : pr p = true) (hq : pr q = true) (hl : p < 9223372036854775808) (h : ¬ 2 ≤ g) : decide (2 ≤ g) = gd p q g := by
  rw [decide_eq_false h]
  exact gd_g hp hq hl h
theorem gd_is {p q g : Int} (hp : pr p = true) (hq : pr q = true) (d : Int.fmod (p - 1) q = 0) (hl : p < 9223372036854775808) (h : 2 ≤ g) : el p q g = gd p q g := by
  rw [gd_unf hp hq hl, decide_eq_true h, decide_eq_true d]
  simp
theorem gd_two {p q g : Int} (h : gd p q g = true) : 2 ≤ p ∧ 2 ≤ q ∧ p < 9223372036854775808 := by
  refine ⟨?_, ?_, ?_⟩
  · refine pr_two (Decidable.byContradiction fun c => ?_)
    rw [← gd_p (by simpa using c)] at h
    cases h
  · refine pr_two (Decidable.byContradiction fun c => ?_)
    rw [← gd_q (by simpa using c)] at h
    cases h
  · refine Decidable.byContradiction fun c => ?_
    rw [← gd_big (by omega)] at h
    cases h
/-! What is due -/
theorem good_due (p q g : Int) : PySx50.sg_good p q g = if gd p q g = true then [1] else [0] := by
  rw [gd_def]
  show (Sx50.bit (Sx50.good (Sx50Neutral.group p q g))).v :: _ = _
  unfold Sx50.bit Sx50Neutral.group Sv53.ok
  cases Sx50.good ⟨p.toNat, q.toNat, g.toNat⟩ <;> rfl
def out (a : Sv53.Ans) : List Int := a.v :: a.l.map fun (y : Nat) => (y : Int)
theorem due {P : Sv53.Call} {b : Bool} (h : Sx50.good P.group = b) (k : Sx50.does P = if Sx50.good P.group = false then Sv53.ok (-3) else if Sx50.asTold P = false then Sv53.ok (-2) else Sx50.told P) :
    out (Sx50.does P) = if b = false then [-3] else if Sx50.asTold P = false then [-2] else out (Sx50.told P) := by
  rw [k, h]
  cases b with
  | false => rfl
  | true => cases Sx50.asTold P <;> rfl
/-! numbers, what is shown -/
@[irreducible] def nm (q x : Int) : Bool := decide (x.toNat < q.toNat)
theorem nm_def (q x : Int) : nm q x = decide (x.toNat < q.toNat) := by unfold nm; rfl
theorem nm_iff {q x : Int} (hx : 0 ≤ x) : nm q x = true ↔ x < q := by
  rw [nm_def, decide_eq_true_iff]
  omega
theorem nm_lo {q x : Int} (h : ¬ 0 ≤ x) (hx : 0 ≤ x) : false = nm q x := absurd hx h
theorem nm_is {q x : Int} (hx : 0 ≤ x) : decide (x < q) = nm q x := by
  rw [nm_def, Bool.eq_iff_iff, decide_eq_true_iff, decide_eq_true_iff]
  omega
theorem nm_no {q x : Int} (hx : 0 ≤ x) (h : ¬ x < q) : false = nm q x := by
  rw [← nm_is hx, decide_eq_false h]
theorem nm_yes {q x : Int} (hx : 0 ≤ x) (h : x < q) : true = nm q x := by
  rw [← nm_is hx, decide_eq_true h]
@[irreducible] def hd (p base y b a z : Int) : Bool := base.toNat ^ z.toNat % p.toNat == b.toNat * (y.toNat ^ a.toNat % p.toNat) % p.toNat
theorem hd_def (p base y b a z : Int) : hd p base y b a z = (base.toNat ^ z.toNat % p.toNat == b.toNat * (y.toNat ^ a.toNat % p.toNat) % p.toNat) := by unfold hd; rfl
theorem hd_is {p base y b a z : Int} (hp : 0 < p) (hb : 0 ≤ b) (hbase : 0 ≤ base) (hy : 0 ≤ y) : decide (pw base z p = Int.fmod (b * pw y a p) p) = hd p base y b a z := by
  rw [hd_def, fmod_mul hb (pw_in _ _ hp).1 hp, pw_def _ _ hbase, pw_def _ _ hy, Int.toNat_natCast]
  generalize base.toNat ^ z.toNat % p.toNat = u
  generalize b.toNat * (y.toNat ^ a.toNat % p.toNat) % p.toNat = v
  rw [Bool.eq_iff_iff, decide_eq_true_iff, beq_iff_eq]
  omega
theorem holds_eq {p base y b a z g q : Int} : Sx50.holds ⟨p.toNat, q.toNat, g.toNat⟩ base.toNat y.toNat ⟨b.toNat, a.toNat, z.toNat⟩ = hd p base y b a z := by
  rw [hd_def, ← powMod_eq, ← powMod_eq]
  rfl
def bitOf (b : Bool) : List Int := if b = true then [1] else [0]
theorem out_bit (b : Bool) : out (Sx50.bit b) = bitOf b := by cases b <;> rfl
def fit (p q b a z : Int) : Bool := el p q b && (nm q a && nm q z)
theorem el_g {p q g v : Int} : Sx50.element ⟨p.toNat, q.toNat, g.toNat⟩ v.toNat = el p q v := by
  rw [el_def]
  rfl
theorem fit_g {p q g b a z : Int} : Sx50.fits ⟨p.toNat, q.toNat, g.toNat⟩ ⟨b.toNat, a.toNat, z.toNat⟩ = fit p q b a z := by
  unfold fit
  rw [el_def, nm_def, nm_def]
  rfl
theorem due_of {c : List (List Int)} {P : Sv53.Call} {p q g : Int} {t : Bool} {l : List Int} (hc : Sx50Neutral.callOf c = some P) (hP : P.group = ⟨p.toNat, q.toNat, g.toNat⟩)
    (k : Sx50.does P = if Sx50.good P.group = false then Sv53.ok (-3) else if Sx50.asTold P = false then Sv53.ok (-2) else Sx50.told P)
    (ht : Sx50.asTold P = t) (hl : t = true → out (Sx50.told P) = l) :
    Sx50Neutral.f c = if gd p q g = false then [-3] else if t = false then [-2] else l := by
  have e : Sx50Neutral.f c = out (Sx50.does P) := by
    unfold Sx50Neutral.f
    rw [hc]
    rfl
  have e2 : Sx50.good P.group = gd p q g := by
    rw [hP]
    exact (gd_def p q g).symm
  rw [e, due e2 k, ht]
  cases t with
  | false => rfl
  | true => rw [hl rfl]
theorem power_due (p q g b x : Int) : PySx50.sg_power p q g b x = if gd p q g = false then [-3] else if (el p q b && nm q x) = false then [-2] else [0, pw b x p] := by
  refine due_of (P := .power ⟨p.toNat, q.toNat, g.toNat⟩ b.toNat x.toNat) rfl rfl rfl (by rw [← el_g (g := g), nm_def]; rfl) fun h => ?_
  rw [Bool.and_eq_true] at h
  have b1 := el_two h.1
  rw [pw_def _ _ (by omega), ← powMod_eq]
  rfl
theorem answer_due (p q g r x c : Int) : PySx50.sg_answer p q g r x c = if gd p q g = false then [-3] else if (nm q r && (nm q x && nm q c)) = false then [-2] else [0, (((r.toNat + c.toNat * x.toNat) % q.toNat : Nat) : Int)] :=
  due_of (P := .answer ⟨p.toNat, q.toNat, g.toNat⟩ r.toNat x.toNat c.toNat) rfl rfl rfl (by rw [nm_def, nm_def, nm_def]; rfl) fun _ => rfl
theorem check_due (p q g y b a z : Int) : PySx50.sg_check p q g y [b, a, z] = if gd p q g = false then [-3] else if (el p q y && fit p q b a z) = false then [-2] else bitOf (hd p g y b a z) := by
  refine due_of (P := .check ⟨p.toNat, q.toNat, g.toNat⟩ y.toNat ⟨b.toNat, a.toNat, z.toNat⟩) rfl rfl rfl (by rw [← el_g (g := g), ← fit_g (g := g)]; rfl) fun _ => ?_
  rw [← out_bit, ← holds_eq (g := g) (q := q)]
  rfl
theorem make_due (p q g y a z : Int) : PySx50.sg_make p q g y a z = if gd p q g = false then [-3] else if (el p q y && (nm q a && nm q z)) = false then [-2] else
    [0, ((g.toNat ^ z.toNat % p.toNat * (y.toNat ^ ((q.toNat - a.toNat) % q.toNat) % p.toNat) % p.toNat : Nat) : Int)] := by
  refine due_of (P := .make ⟨p.toNat, q.toNat, g.toNat⟩ y.toNat a.toNat z.toNat) rfl rfl rfl (by rw [← el_g (g := g), nm_def, nm_def]; rfl) fun _ => ?_
  rw [← powMod_eq, ← powMod_eq]
  rfl
theorem find_due (p q g y b a z b' a' z' : Int) : PySx50.sg_find p q g y [b, a, z] [b', a', z'] = if gd p q g = false then [-3] else if (el p q y && (fit p q b a z && fit p q b' a' z')) = false then [-2] else
    if (hd p g y b a z && (hd p g y b' a' z' && (b.toNat == b'.toNat && a.toNat != a'.toNat))) = true then
      [0, (((z.toNat + (q.toNat - z'.toNat)) * (((a.toNat + (q.toNat - a'.toNat)) % q.toNat) ^ (q.toNat - 2) % q.toNat) % q.toNat : Nat) : Int)] else [-5] := by
  refine due_of (P := .find ⟨p.toNat, q.toNat, g.toNat⟩ y.toNat ⟨b.toNat, a.toNat, z.toNat⟩ ⟨b'.toNat, a'.toNat, z'.toNat⟩) rfl rfl rfl (by rw [← el_g (g := g), ← fit_g (g := g), ← fit_g (g := g)]; rfl) fun _ => ?_
  rw [← holds_eq (g := g) (q := q), ← holds_eq (g := g) (q := q), ← powMod_eq]
  show out (if _ then _ else _) = _
  rw [apply_ite out]
  rfl
theorem same_due (p q g h y z b a c b' a' c' : Int) : PySx50.sg_same p q g h y z [b, a, c] [b', a', c'] = if gd p q g = false then [-3] else
    if (el p q h && (el p q y && (el p q z && (fit p q b a c && (fit p q b' a' c' && (a.toNat == a'.toNat && c.toNat == c'.toNat)))))) = false then [-2] else bitOf (hd p g y b a c && hd p h z b' a' c') := by
  refine due_of (P := .same ⟨p.toNat, q.toNat, g.toNat⟩ h.toNat y.toNat z.toNat ⟨b.toNat, a.toNat, c.toNat⟩ ⟨b'.toNat, a'.toNat, c'.toNat⟩) rfl rfl rfl (by rw [← el_g (g := g), ← el_g (g := g), ← el_g (g := g), ← fit_g (g := g), ← fit_g (g := g)]; rfl) fun _ => ?_
  rw [← out_bit, ← holds_eq (g := g) (q := q), ← holds_eq (g := g) (q := q)]
  rfl
theorem either_due (p q g y z k b a c b' a' c' : Int) : PySx50.sg_either p q g y z k [b, a, c] [b', a', c'] = if gd p q g = false then [-3] else
    if (el p q y && (el p q z && (nm q k && (fit p q b a c && fit p q b' a' c')))) = false then [-2] else bitOf (hd p g y b a c && (hd p g z b' a' c' && (a.toNat + a'.toNat) % q.toNat == k.toNat)) := by
  refine due_of (P := .either ⟨p.toNat, q.toNat, g.toNat⟩ y.toNat z.toNat k.toNat ⟨b.toNat, a.toNat, c.toNat⟩ ⟨b'.toNat, a'.toNat, c'.toNat⟩) rfl rfl rfl (by rw [nm_def q k, ← el_g (g := g), ← el_g (g := g), ← fit_g (g := g), ← fit_g (g := g)]; rfl) fun _ => ?_
  rw [← out_bit, ← holds_eq (g := g) (q := q), ← holds_eq (g := g) (q := q)]
  rfl
end My
namespace My
/-! The ends -/
theorem el_pow {p q v : Int} (h : el p q v = true) : v.toNat ^ q.toNat % p.toNat = 1 := by
  have t := el_two h
  rw [← el_is t.1 t.2, decide_eq_true_iff, pw_def _ _ (by omega)] at h
  omega
theorem nm_two {q x : Int} (h : nm q x = true) (hx : 0 ≤ x) : x < q := (nm_iff hx).mp h
theorem el_fact (p q _v : Int) {g : Int} (h : gd p q g = true := by with_reducible assumption) : 2 ≤ p ∧ 2 ≤ q ∧ p < 9223372036854775808 := gd_two h
theorem nm_fact (q _x : Int) {p g : Int} (h : gd p q g = true := by with_reducible assumption) : 2 ≤ p ∧ 2 ≤ q ∧ p < 9223372036854775808 := gd_two h
theorem sub_nm {q x : Int} (h : nm q x = true) (hx : 0 ≤ x) : 0 ≤ q - x := by
  have := nm_two h hx
  omega
theorem hd_yes {p base y b a z : Int} (e : pw base z p = Int.fmod (b * pw y a p) p) (hp : 2 ≤ p) (hb : 0 ≤ b) (hbase : 0 ≤ base) (hy : 0 ≤ y) : hd p base y b a z = true := by
  rw [← hd_is (by omega) hb hbase hy, decide_eq_true_iff]
  exact e
theorem hd_no {p base y b a z : Int} (e : ¬ pw base z p = Int.fmod (b * pw y a p) p) (hp : 2 ≤ p) (hb : 0 ≤ b) (hbase : 0 ≤ base) (hy : 0 ≤ y) : hd p base y b a z = false := by
  rw [← hd_is (by omega) hb hbase hy]
  exact decide_eq_false e
theorem answer_eq {q r x c : Int} (hq : 2 ≤ q) (hr : 0 ≤ r) (hx : 0 ≤ x) (hc : 0 ≤ c) : Int.fmod (r + c * x) q = (((r.toNat + c.toNat * x.toNat) % q.toNat : Nat) : Int) := by
  have m : 0 ≤ c * x := Int.mul_nonneg hc hx
  rw [fmod_nat (by omega) (by omega), Int.toNat_add hr m, toNat_mul hc hx]
theorem make_eq {p q g y a z : Int} (hp : 2 ≤ p) (hq : 2 ≤ q) (hg : 0 ≤ g) (hy : el p q y = true) (ha : 0 ≤ a) (ha' : a < q) :
    Int.fmod (pw g z p * pw y (q - a) p) p = ((g.toNat ^ z.toNat % p.toNat * (y.toNat ^ ((q.toNat - a.toNat) % q.toNat) % p.toNat) % p.toNat : Nat) : Int) := by
  have t := el_two hy
  rw [fmod_mul (pw_in _ _ (by omega)).1 (pw_in _ _ (by omega)).1 (by omega), pw_def _ _ hg, pw_def _ _ (by omega), Int.toNat_natCast, Int.toNat_natCast]
  congr 3
  by_cases z : a = 0
  · subst z
    rw [show (q - 0).toNat = q.toNat by omega, show q.toNat - (0 : Int).toNat = q.toNat by omega, Nat.mod_self, Nat.pow_zero, el_pow hy, Nat.mod_eq_of_lt (by omega)]
  · rw [show (q - a).toNat = q.toNat - a.toNat by omega, Nat.mod_eq_of_lt (by omega : q.toNat - a.toNat < q.toNat)]
theorem diff_mod {q x y : Int} (hq : 2 ≤ q) (hx : 0 ≤ x) (hy : 0 ≤ y) (hy' : y < q) : (x - y) % q = (((x.toNat + (q.toNat - y.toNat)) % q.toNat : Nat) : Int) := by
  rw [Int.natCast_emod, show ((x.toNat + (q.toNat - y.toNat) : Nat) : Int) = x - y + q by omega, show ((q.toNat : Nat) : Int) = q by omega, Int.add_emod_right]
theorem find_eq {q a z a' z' : Int} (hq : 2 ≤ q) (ha : 0 ≤ a) (ha' : 0 ≤ a') (hz : 0 ≤ z) (hz' : 0 ≤ z') (la : a' < q) (lz : z' < q) :
    Int.fmod ((z - z') * pw (a - a') (q - 2) q) q = (((z.toNat + (q.toNat - z'.toNat)) * (((a.toNat + (q.toNat - a'.toNat)) % q.toNat) ^ (q.toNat - 2) % q.toNat) % q.toNat : Nat) : Int) := by
  have e : pw (a - a') (q - 2) q = ((((a.toNat + (q.toNat - a'.toNat)) % q.toNat) ^ (q.toNat - 2) % q.toNat : Nat) : Int) := by
    rw [pw_any, show ((q.toNat : Nat) : Int) = q by omega, diff_mod hq ha ha' la, Int.toNat_natCast, show (q - 2).toNat = q.toNat - 2 by omega]
  rw [e, Int.fmod_eq_emod_of_nonneg _ (by omega)]
  generalize ((a.toNat + (q.toNat - a'.toNat)) % q.toNat) ^ (q.toNat - 2) % q.toNat = u
  rw [Int.mul_emod, diff_mod hq hz hz' lz, show (u : Int) % q = ((u % q.toNat : Nat) : Int) by rw [Int.natCast_emod, show ((q.toNat : Nat) : Int) = q by omega], ← Int.natCast_mul]
  rw [show ∀ n : Nat, ((n : Nat) : Int) % q = ((n % q.toNat : Nat) : Int) from fun n => by rw [Int.natCast_emod, show ((q.toNat : Nat) : Int) = q by omega], ← Nat.mul_mod]
/-! refused, and not -/
section
variable {p q g y z h b a c b' a' c' r x k : Int}
theorem answer_3 (hg : gd p q g = false) : PySx50.sg_answer p q g r x k = [-3] := by rw [answer_due, if_pos hg]
theorem check_3 (hg : gd p q g = false) : PySx50.sg_check p q g y [b, a, c] = [-3] := by rw [check_due, if_pos hg]
theorem make_3 (hg : gd p q g = false) : PySx50.sg_make p q g y a c = [-3] := by rw [make_due, if_pos hg]
theorem find_3 (hg : gd p q g = false) : PySx50.sg_find p q g y [b, a, c] [b', a', c'] = [-3] := by rw [find_due, if_pos hg]
theorem same_3 (hg : gd p q g = false) : PySx50.sg_same p q g h y z [b, a, c] [b', a', c'] = [-3] := by rw [same_due, if_pos hg]
theorem either_3 (hg : gd p q g = false) : PySx50.sg_either p q g y z k [b, a, c] [b', a', c'] = [-3] := by rw [either_due, if_pos hg]
def some0 : List Bool → Prop
  | [] => False
  | b :: r => b = false ∨ some0 r
def all1 : List Bool → Prop
  | [] => True
  | b :: r => b = true ∧ all1 r
theorem answer_2 (hg : gd p q g = true) (hs : some0 [nm q r, nm q x, nm q k]) : PySx50.sg_answer p q g r x k = [-2] := by
  rw [answer_due, if_neg (by rw [hg]; decide), if_pos]
  rcases hs with e | e | e | e
  all_goals first
    | (rw [e]; simp; done)
    | cases e
theorem check_2 (hg : gd p q g = true) (hs : some0 [el p q y, el p q b, nm q a, nm q c]) : PySx50.sg_check p q g y [b, a, c] = [-2] := by
  rw [check_due, if_neg (by rw [hg]; decide), if_pos]
  unfold fit
  rcases hs with e | e | e | e | e
  all_goals first
    | (rw [e]; simp; done)
    | cases e
theorem make_2 (hg : gd p q g = true) (hs : some0 [el p q y, nm q a, nm q c]) : PySx50.sg_make p q g y a c = [-2] := by
  rw [make_due, if_neg (by rw [hg]; decide), if_pos]
  rcases hs with e | e | e | e
  all_goals first
    | (rw [e]; simp; done)
    | cases e
theorem find_2 (hg : gd p q g = true) (hs : some0 [el p q y, el p q b, nm q a, nm q c, el p q b', nm q a', nm q c']) : PySx50.sg_find p q g y [b, a, c] [b', a', c'] = [-2] := by
  rw [find_due, if_neg (by rw [hg]; decide), if_pos]
  unfold fit
  rcases hs with e | e | e | e | e | e | e | e
  all_goals first
    | (rw [e]; simp; done)
    | cases e
theorem same_2 (hg : gd p q g = true) (hs : some0 [el p q h, el p q y, el p q z, el p q b, nm q a, nm q c, el p q b', nm q a', nm q c', a.toNat == a'.toNat, c.toNat == c'.toNat]) : PySx50.sg_same p q g h y z [b, a, c] [b', a', c'] = [-2] := by
  rw [same_due, if_neg (by rw [hg]; decide), if_pos]
  unfold fit
  rcases hs with e | e | e | e | e | e | e | e | e | e | e | e
  all_goals first
    | (rw [e]; simp; done)
    | cases e
theorem either_2 (hg : gd p q g = true) (hs : some0 [el p q y, el p q z, nm q k, el p q b, nm q a, nm q c, el p q b', nm q a', nm q c']) : PySx50.sg_either p q g y z k [b, a, c] [b', a', c'] = [-2] := by
  rw [either_due, if_neg (by rw [hg]; decide), if_pos]
  unfold fit
  rcases hs with e | e | e | e | e | e | e | e | e | e
  all_goals first
    | (rw [e]; simp; done)
    | cases e
theorem answer_0 (hg : gd p q g = true) (h1 : nm q r = true) (h2 : nm q x = true) (h3 : nm q k = true) (r0 : 0 ≤ r) (x0 : 0 ≤ x) (k0 : 0 ≤ k) : PySx50.sg_answer p q g r x k = [0, Int.fmod (r + k * x) q] := by
  rw [answer_due, if_neg (by rw [hg]; decide), if_neg (by rw [h1, h2, h3]; decide), answer_eq (gd_two hg).2.1 r0 x0 k0]
theorem check_0 (hg : gd p q g = true) (h1 : el p q y = true) (h2 : el p q b = true) (h3 : nm q a = true) (h4 : nm q c = true) (g0 : 0 ≤ g) : PySx50.sg_check p q g y [b, a, c] = bitOf (decide (pw g c p = Int.fmod (b * pw y a p) p)) := by
  rw [check_due, if_neg (by rw [hg]; decide), if_neg (by unfold fit; rw [h1, h2, h3, h4]; decide), hd_is (by have := gd_two hg; omega) (by have := el_two h2; omega) g0 (by have := el_two h1; omega)]
theorem make_0 (hg : gd p q g = true) (h1 : el p q y = true) (h2 : nm q a = true) (h3 : nm q c = true) (g0 : 0 ≤ g) (a0 : 0 ≤ a) : PySx50.sg_make p q g y a c = [0, Int.fmod (pw g c p * pw y (q - a) p) p] := by
  have t := gd_two hg
  rw [make_due, if_neg (by rw [hg]; decide), if_neg (by rw [h1, h2, h3]; decide), make_eq t.1 t.2.1 g0 h1 a0 (nm_two h2 a0)]
theorem find_0 (hg : gd p q g = true) (h1 : el p q y = true) (h2 : el p q b = true) (h3 : nm q a = true) (h4 : nm q c = true) (h5 : el p q b' = true) (h6 : nm q a' = true) (h7 : nm q c' = true) (g0 : 0 ≤ g) (a0 : 0 ≤ a) (c0 : 0 ≤ c) (a0' : 0 ≤ a') (c0' : 0 ≤ c') :
    PySx50.sg_find p q g y [b, a, c] [b', a', c'] = if b = b' ∧ ¬ a = a' ∧ pw g c p = Int.fmod (b * pw y a p) p ∧ pw g c' p = Int.fmod (b' * pw y a' p) p then [0, Int.fmod ((c - c') * pw (a - a') (q - 2) q) q] else [-5] := by
  have t := gd_two hg
  have ty := el_two h1
  have tb := el_two h2
  have tb' := el_two h5
  rw [find_due, if_neg (by rw [hg]; decide), if_neg (by unfold fit; rw [h1, h2, h3, h4, h5, h6, h7]; decide)]
  rw [← hd_is (by omega) (by omega) g0 (by omega), ← hd_is (by omega) (by omega) g0 (by omega), find_eq t.2.1 a0 a0' c0 c0' (nm_two h6 a0') (nm_two h7 c0')]
  congr 1
  simp only [Bool.and_eq_true, decide_eq_true_iff, beq_iff_eq, bne_iff_ne, ne_eq, eq_iff_iff]
  have eb : b.toNat = b'.toNat ↔ b = b' := by omega
  have ea : a.toNat = a'.toNat ↔ a = a' := by omega
  rw [eb, ea]
  constructor
  · rintro ⟨i, j, k, l⟩
    exact ⟨k, l, i, j⟩
  · rintro ⟨k, l, i, j⟩
    exact ⟨i, j, k, l⟩
theorem same_0 (hg : gd p q g = true) (h1 : el p q h = true) (h2 : el p q y = true) (h3 : el p q z = true) (h4 : el p q b = true) (h5 : nm q a = true) (h6 : nm q c = true) (h7 : el p q b' = true) (h8 : nm q a' = true) (h9 : nm q c' = true) (ea : a = a') (ec : c = c') (g0 : 0 ≤ g) :
    PySx50.sg_same p q g h y z [b, a, c] [b', a', c'] = bitOf (decide (pw g c p = Int.fmod (b * pw y a p) p) && decide (pw h c' p = Int.fmod (b' * pw z a' p) p)) := by
  have t := gd_two hg
  have th := el_two h1
  have ty := el_two h2
  have tz := el_two h3
  have tb := el_two h4
  have tb' := el_two h7
  rw [same_due, if_neg (by rw [hg]; decide), if_neg (by unfold fit; rw [h1, h2, h3, h4, h5, h6, h7, h8, h9, ea, ec]; simp)]
  rw [← hd_is (by omega) (by omega) g0 (by omega), ← hd_is (by omega) (by omega) (by omega) (by omega)]
theorem either_0 (hg : gd p q g = true) (h2 : el p q y = true) (h3 : el p q z = true) (hk : nm q k = true) (h4 : el p q b = true) (h5 : nm q a = true) (h6 : nm q c = true) (h7 : el p q b' = true) (h8 : nm q a' = true) (h9 : nm q c' = true) (g0 : 0 ≤ g) (a0 : 0 ≤ a) (a0' : 0 ≤ a') (k0 : 0 ≤ k) :
    PySx50.sg_either p q g y z k [b, a, c] [b', a', c'] = bitOf (decide (Int.fmod (a + a') q = k) && (decide (pw g c p = Int.fmod (b * pw y a p) p) && decide (pw g c' p = Int.fmod (b' * pw z a' p) p))) := by
  have t := gd_two hg
  have ty := el_two h2
  have tz := el_two h3
  have tb := el_two h4
  have tb' := el_two h7
  rw [either_due, if_neg (by rw [hg]; decide), if_neg (by unfold fit; rw [h2, h3, hk, h4, h5, h6, h7, h8, h9]; decide)]
  rw [← hd_is (by omega) (by omega) g0 (by omega), ← hd_is (by omega) (by omega) g0 (by omega)]
  have e : ((a.toNat + a'.toNat) % q.toNat == k.toNat) = decide (Int.fmod (a + a') q = k) := by
    rw [fmod_nat (by omega) (by omega), Int.toNat_add a0 a0']
    generalize (a.toNat + a'.toNat) % q.toNat = u
    rw [Bool.eq_iff_iff, decide_eq_true_iff, beq_iff_eq]
    omega
  rw [e]
  congr 1
  generalize decide (pw g c p = Int.fmod (b * pw y a p) p) = u
  generalize decide (pw g c' p = Int.fmod (b' * pw z a' p) p) = v
  generalize decide (Int.fmod (a + a') q = k) = w
  cases u <;> cases v <;> cases w <;> rfl
theorem power_3 (hg : gd p q g = false) : PySx50.sg_power p q g b x = [-3] := by rw [power_due, if_pos hg]
theorem power_2 (hg : gd p q g = true) (hs : some0 [el p q b, nm q x]) : PySx50.sg_power p q g b x = [-2] := by
  rw [power_due, if_neg (by rw [hg]; decide), if_pos]
  rcases hs with e | e | e
  all_goals first
    | (rw [e]; simp; done)
    | cases e
theorem power_0 (hg : gd p q g = true) (h1 : el p q b = true) (h2 : nm q x = true) : PySx50.sg_power p q g b x = [0, pw b x p] := by
  rw [power_due, if_neg (by rw [hg]; decide), if_neg (by rw [h1, h2]; decide)]
theorem bit_y {l : List Int} {P : Prop} [Decidable P] (h : l = bitOf (decide P)) (e : P) : l = [1] := by
  rw [h, decide_eq_true e]
  rfl
theorem bit_n {l : List Int} {P : Prop} [Decidable P] (h : l = bitOf (decide P)) (e : ¬ P) : l = [0] := by
  rw [h, decide_eq_false e]
  rfl
theorem bit2_y {l : List Int} {P R : Prop} [Decidable P] [Decidable R] (h : l = bitOf (decide P && decide R)) (e : P) (f : R) : l = [1] := by
  rw [h, decide_eq_true e, decide_eq_true f]
  rfl
theorem bit2_n {l : List Int} {P R : Prop} [Decidable P] [Decidable R] (h : l = bitOf (decide P && decide R)) (e : ¬ P) : l = [0] := by
  rw [h, decide_eq_false e]
  rfl
theorem bit2_m {l : List Int} {P R : Prop} [Decidable P] [Decidable R] (h : l = bitOf (decide P && decide R)) (f : ¬ R) : l = [0] := by
  rw [h, decide_eq_false f, Bool.and_false]
  rfl
theorem bit3_y {l : List Int} {P R S : Prop} [Decidable P] [Decidable R] [Decidable S] (h : l = bitOf (decide P && (decide R && decide S))) (e : P) (f : R) (i : S) : l = [1] := by
  rw [h, decide_eq_true e, decide_eq_true f, decide_eq_true i]
  rfl
theorem bit3_n {l : List Int} {P R S : Prop} [Decidable P] [Decidable R] [Decidable S] (h : l = bitOf (decide P && (decide R && decide S))) (e : ¬ P ∨ ¬ R ∨ ¬ S) : l = [0] := by
  rw [h]
  rcases e with e | e | e
  · rw [decide_eq_false e]
    rfl
  · rw [decide_eq_false e, Bool.false_and, Bool.and_false]
    rfl
  · rw [decide_eq_false e, Bool.and_false, Bool.and_false]
    rfl
end
theorem three {ns : List Int} (h : ns.length = 3) : ns = [ns.getD (Int.toNat 0) 0, ns.getD (Int.toNat 1) 0, ns.getD (Int.toNat 2) 0] := by
  match ns, h with
  | [b, a, c], _ => rfl
section
variable {p q g y z h k : Int} {s t l : List Int}
theorem by_check (hs : s.length = 3) (e : PySx50.sg_check p q g y [s.getD (Int.toNat 0) 0, s.getD (Int.toNat 1) 0, s.getD (Int.toNat 2) 0] = l) : PySx50.sg_check p q g y s = l := by
  rw [← three hs] at e
  exact e
theorem by_find (hs : s.length = 3) (ht : t.length = 3) (e : PySx50.sg_find p q g y [s.getD (Int.toNat 0) 0, s.getD (Int.toNat 1) 0, s.getD (Int.toNat 2) 0] [t.getD (Int.toNat 0) 0, t.getD (Int.toNat 1) 0, t.getD (Int.toNat 2) 0] = l) : PySx50.sg_find p q g y s t = l := by
  rw [← three hs, ← three ht] at e
  exact e
theorem by_same (hs : s.length = 3) (ht : t.length = 3) (e : PySx50.sg_same p q g h y z [s.getD (Int.toNat 0) 0, s.getD (Int.toNat 1) 0, s.getD (Int.toNat 2) 0] [t.getD (Int.toNat 0) 0, t.getD (Int.toNat 1) 0, t.getD (Int.toNat 2) 0] = l) : PySx50.sg_same p q g h y z s t = l := by
  rw [← three hs, ← three ht] at e
  exact e
theorem by_either (hs : s.length = 3) (ht : t.length = 3) (e : PySx50.sg_either p q g y z k [s.getD (Int.toNat 0) 0, s.getD (Int.toNat 1) 0, s.getD (Int.toNat 2) 0] [t.getD (Int.toNat 0) 0, t.getD (Int.toNat 1) 0, t.getD (Int.toNat 2) 0] = l) : PySx50.sg_either p q g y z k s t = l := by
  rw [← three hs, ← three ht] at e
  exact e
end
end My
open PySem PySem.W
namespace My
theorem dec_cons {c : Codec} {cs : List Codec} {d : WData} {ds : List WData} (h : (Codec.decAll (c :: cs) (d :: ds)).isSome = true) :
    (Codec.decAll [c] [d]).isSome = true ∧ (Codec.decAll cs ds).isSome = true := by
  have e : Codec.decAll (c :: cs) (d :: ds) = Codec.both Prod.mk (c.dec d) (Codec.decAll cs ds) := rfl
  have e1 : Codec.decAll [c] [d] = Codec.both Prod.mk (c.dec d) (some ()) := rfl
  rw [e] at h
  rw [e1]
  cases h1 : c.dec d with
  | none =>
    rw [h1] at h
    cases h
  | some a =>
    cases h2 : Codec.decAll cs ds with
    | none =>
      rw [h1, h2] at h
      cases h
    | some r => exact ⟨rfl, rfl⟩
theorem dec_join {c : Codec} {cs : List Codec} {d : WData} {ds : List WData} {a : c.denote} {r : Codec.denoteAll cs} (h1 : Codec.decAll [c] [d] = some (a, ())) (h2 : Codec.decAll cs ds = some r) :
    Codec.decAll (c :: cs) (d :: ds) = some (a, r) := by
  have e : Codec.decAll (c :: cs) (d :: ds) = Codec.both Prod.mk (c.dec d) (Codec.decAll cs ds) := rfl
  have e1 : Codec.decAll [c] [d] = Codec.both Prod.mk (c.dec d) (some ()) := rfl
  rw [e1] at h1
  rw [e, h2]
  cases h3 : c.dec d with
  | none =>
    rw [h3] at h1
    cases h1
  | some b =>
    rw [h3] at h1
    cases h1
    rfl
theorem dec_int {lo hi k : Int} (h : (Codec.decAll [.int lo hi] [WData.int k]).isSome = true) : Codec.decAll [.int lo hi] [WData.int k] = some (k, ()) ∧ lo ≤ k ∧ k ≤ hi := by
  have e : Codec.decAll [.int lo hi] [WData.int k] = Codec.both Prod.mk (if Codec.inInt lo hi k = true then some k else none) (some ()) := rfl
  rw [e] at h ⊢
  cases h1 : Codec.inInt lo hi k with
  | false =>
    rw [h1] at h
    cases h
  | true =>
    unfold Codec.inInt at h1
    simp only [Bool.and_eq_true, decide_eq_true_eq] at h1
    exact ⟨rfl, h1.1, h1.2⟩
theorem take_int {cs : List Codec} {ds : List WData} {k : Int} (h : (Codec.decAll (.int 0 18446744073709551615 :: cs) (WData.int k :: ds)).isSome = true) :
    (0 ≤ k ∧ k ≤ 18446744073709551615) ∧ (Codec.decAll cs ds).isSome = true := ⟨(dec_int (dec_cons h).1).2, (dec_cons h).2⟩
theorem put_int {cs : List Codec} {ds : List WData} {k : Int} {r : Codec.denoteAll cs} (h : 0 ≤ k ∧ k ≤ 18446744073709551615) (h2 : Codec.decAll cs ds = some r) :
    Codec.decAll (.int 0 18446744073709551615 :: cs) (WData.int k :: ds) = some ((k, r) : Int × Codec.denoteAll cs) := by
  have e : Codec.decAll (.int 0 18446744073709551615 :: cs) (WData.int k :: ds) = Codec.both Prod.mk (if Codec.inInt 0 18446744073709551615 k = true then some k else none) (Codec.decAll cs ds) := rfl
  rw [e, h2, if_pos (by unfold Codec.inInt; simp only [Bool.and_eq_true, decide_eq_true_eq]; exact h)]
  rfl
theorem take_list {cs : List Codec} {ds : List WData} {ns : List Int} (h : (Codec.decAll (.list 3 3 (.int 0 18446744073709551615) :: cs) (ofPy (PyData.list (ns.map PyData.int)) :: ds)).isSome = true) :
    (Codec.decAll [.list 3 3 (.int 0 18446744073709551615)] [ofPy (PyData.list (ns.map PyData.int))] = some (ns, ()) ∧ ns.length = 3 ∧ (0 ≤ ns.getD (Int.toNat 0) 0 ∧ ns.getD (Int.toNat 0) 0 ≤ 18446744073709551615) ∧ (0 ≤ ns.getD (Int.toNat 1) 0 ∧ ns.getD (Int.toNat 1) 0 ≤ 18446744073709551615) ∧ (0 ≤ ns.getD (Int.toNat 2) 0 ∧ ns.getD (Int.toNat 2) 0 ≤ 18446744073709551615)) ∧ (Codec.decAll cs ds).isSome = true := by
  obtain ⟨e, l, m, i⟩ := os_dec_ints (dec_cons h).1
  have h2 := (dec_cons h).2
  have n : ns.length = 3 := by omega
  refine ⟨⟨e, n, ?_⟩, h2⟩
  clear e l m h h2
  match ns, n with
  | [b, a, c], _ => exact ⟨i b (by simp), i a (by simp), i c (by simp)⟩
theorem put_list {cs : List Codec} {ds : List WData} {ns : List Int} {r : Codec.denoteAll cs} (h : Codec.decAll [.list 3 3 (.int 0 18446744073709551615)] [ofPy (PyData.list (ns.map PyData.int))] = some (ns, ())) (h2 : Codec.decAll cs ds = some r) :
    Codec.decAll (.list 3 3 (.int 0 18446744073709551615) :: cs) (ofPy (PyData.list (ns.map PyData.int)) :: ds) = some ((ns, r) : List Int × Codec.denoteAll cs) := dec_join h h2
theorem same_list {l k : List Int} (h : l = k) : same (WData.list (ofPys (l.map PyData.int))) (WData.list (k.map WData.int)) = true := by
  subst h
  rw [ofPys_ints]
  exact same_self _
end My
namespace My
open PySem PySem.W PySem.Calls PyProof.Rows
section
variable {prog : Program} {w : World} {A : Around} {E : Value → Shared → Prop} {s : Shared} {x y : Int} {t u : Tok} {Q : Value → Shared → Prop}
theorem step_mod (hy : My.pr y = true) (h : Q (.int (x.fmod y) s.toks) { s with toks := s.toks + 1 }) :
    wpAny (model prog w) A (binaryOp .Mod (.int x t) (.int y u)) Q E s :=
  PyProof.Rows.mod_int (by have := My.pr_two hy; omega) h
end
end My
local macro_rules | `(tactic| walk_at "binaryOp Mod int int") => `(tactic| (k_here; (with_reducible refine' My.step_mod ?k1 ?_); (case k1 => assumption)))
local macro_rules | `(tactic| walk_at "exec For Name Name cons nil") => `(tactic| (k_here; (rename PyProof.Rows.Fr _ _ _ _ => myF'); (with_unfolding_all refine' For_turnsG myF' ?g ?_; (case g => exact rfl); k_whole)))
set_option maxRecDepth 100000 in
set_option maxHeartbeats 8000000 in
theorem PySem.Challenge.cw_powershown_s06_sg_find_holds : PySem.Challenge.rw_powershown_s06_sg_find.Holds := by
  k_with "call ref" => k_call_rec "is_good" My.gd (fun (p q g : Int) => 0 ≤ p ∧ p ≤ 18446744073709551615 ∧ 0 ≤ q ∧ q ≤ 18446744073709551615 ∧ 0 ≤ g ∧ g ≤ 18446744073709551615) (fun (_ _ _ : Int) => 3)
  k_with "call ref" => k_call_rec "is_element" My.el (fun (p q v : Int) => 0 ≤ p ∧ p ≤ 18446744073709551615 ∧ 0 ≤ q ∧ q ≤ 18446744073709551615 ∧ 0 ≤ v ∧ v ≤ 18446744073709551615) (fun (_ _ _ : Int) => 1)
  k_with "call ref" => k_call_rec "is_prime" My.pr (fun (n : Int) => 0 ≤ n ∧ n ≤ 18446744073709551615) (fun (_ : Int) => 2)
  k_with "call ref" => k_call_rec "shows_composite" My.sc (fun (w n d t : Int) => 0 ≤ w ∧ w ≤ 37 ∧ 2 ≤ n ∧ n ≤ 18446744073709551615 ∧ 0 ≤ d ∧ d ≤ 18446744073709551615 ∧ 0 ≤ t ∧ t ≤ 64) (fun (_ _ _ _ : Int) => 1)
  k_with "call ref" => k_call_rec "power_modulo" My.pw (fun (b e m : Int) => -18446744073709551615 ≤ b ∧ b ≤ 18446744073709551615 ∧ 0 ≤ e ∧ e ≤ 18446744073709551615 ∧ 2 ≤ m ∧ m ≤ 18446744073709551615) (fun (_ _ _ : Int) => 0)
  k_with "call ref" => k_call_rec "is_number" My.nm (fun (_ x : Int) => 0 ≤ x) (fun (_ _ : Int) => 0)
  k_with "tree" => first
    | exact My.nm_is (by omega)
    | exact My.nm_no (by omega) (by omega)
    | exact My.nm_yes (by omega) (by omega)
    | exact My.p_out (by assumption) (by omega) (by omega) (by omega) (by omega)
    | exact My.n_low (by omega)
    | exact My.gd_big (by omega)
    | exact My.s_one (by omega) (by omega) (Or.inl (by assumption))
    | exact My.s_one (by omega) (by omega) (Or.inr (by assumption))
    | exact My.n_s2 (by assumption) (by omega)
    | exact My.n_s3 (by assumption) (by omega)
    | exact My.n_s5 (by assumption) (by omega)
    | exact My.n_s7 (by assumption) (by omega)
    | exact My.n_s11 (by assumption) (by omega)
    | exact My.n_s13 (by assumption) (by omega)
    | exact My.n_s17 (by assumption) (by omega)
    | exact My.n_s19 (by assumption) (by omega)
    | exact My.n_s23 (by assumption) (by omega)
    | exact My.n_s29 (by assumption) (by omega)
    | exact My.n_s31 (by assumption) (by omega)
    | exact My.n_s37 (by assumption) (by omega)
    | exact My.n_c2 (by assumption) (My.n_free (by omega) (by assumption) (by assumption) (by assumption) (by assumption) (by assumption) (by assumption) (by assumption) (by assumption) (by assumption) (by assumption) (by assumption) (by assumption)) (by assumption) (by omega) (by omega) (by omega) (by assumption)
    | exact My.n_c3 (by assumption) (My.n_free (by omega) (by assumption) (by assumption) (by assumption) (by assumption) (by assumption) (by assumption) (by assumption) (by assumption) (by assumption) (by assumption) (by assumption) (by assumption)) (by assumption) (by omega) (by omega) (by omega) (by assumption)
    | exact My.n_c5 (by assumption) (My.n_free (by omega) (by assumption) (by assumption) (by assumption) (by assumption) (by assumption) (by assumption) (by assumption) (by assumption) (by assumption) (by assumption) (by assumption) (by assumption)) (by assumption) (by omega) (by omega) (by omega) (by assumption)
    | exact My.n_c7 (by assumption) (My.n_free (by omega) (by assumption) (by assumption) (by assumption) (by assumption) (by assumption) (by assumption) (by assumption) (by assumption) (by assumption) (by assumption) (by assumption) (by assumption)) (by assumption) (by omega) (by omega) (by omega) (by assumption)
    | exact My.n_c11 (by assumption) (My.n_free (by omega) (by assumption) (by assumption) (by assumption) (by assumption) (by assumption) (by assumption) (by assumption) (by assumption) (by assumption) (by assumption) (by assumption) (by assumption)) (by assumption) (by omega) (by omega) (by omega) (by assumption)
    | exact My.n_c13 (by assumption) (My.n_free (by omega) (by assumption) (by assumption) (by assumption) (by assumption) (by assumption) (by assumption) (by assumption) (by assumption) (by assumption) (by assumption) (by assumption) (by assumption)) (by assumption) (by omega) (by omega) (by omega) (by assumption)
    | exact My.n_c17 (by assumption) (My.n_free (by omega) (by assumption) (by assumption) (by assumption) (by assumption) (by assumption) (by assumption) (by assumption) (by assumption) (by assumption) (by assumption) (by assumption) (by assumption)) (by assumption) (by omega) (by omega) (by omega) (by assumption)
    | exact My.n_c19 (by assumption) (My.n_free (by omega) (by assumption) (by assumption) (by assumption) (by assumption) (by assumption) (by assumption) (by assumption) (by assumption) (by assumption) (by assumption) (by assumption) (by assumption)) (by assumption) (by omega) (by omega) (by omega) (by assumption)
    | exact My.n_c23 (by assumption) (My.n_free (by omega) (by assumption) (by assumption) (by assumption) (by assumption) (by assumption) (by assumption) (by assumption) (by assumption) (by assumption) (by assumption) (by assumption) (by assumption)) (by assumption) (by omega) (by omega) (by omega) (by assumption)
    | exact My.n_c29 (by assumption) (My.n_free (by omega) (by assumption) (by assumption) (by assumption) (by assumption) (by assumption) (by assumption) (by assumption) (by assumption) (by assumption) (by assumption) (by assumption) (by assumption)) (by assumption) (by omega) (by omega) (by omega) (by assumption)
    | exact My.n_c31 (by assumption) (My.n_free (by omega) (by assumption) (by assumption) (by assumption) (by assumption) (by assumption) (by assumption) (by assumption) (by assumption) (by assumption) (by assumption) (by assumption) (by assumption)) (by assumption) (by omega) (by omega) (by omega) (by assumption)
    | exact My.n_c37 (by assumption) (My.n_free (by omega) (by assumption) (by assumption) (by assumption) (by assumption) (by assumption) (by assumption) (by assumption) (by assumption) (by assumption) (by assumption) (by assumption) (by assumption)) (by assumption) (by omega) (by omega) (by omega) (by assumption)
    | exact My.n_prime (by assumption) (by assumption) (by assumption) (by assumption) (by assumption) (by assumption) (by assumption) (by assumption) (by assumption) (by assumption) (by assumption) (by assumption) (My.n_free (by omega) (by assumption) (by assumption) (by assumption) (by assumption) (by assumption) (by assumption) (by assumption) (by assumption) (by assumption) (by assumption) (by assumption) (by assumption)) (by assumption) (by omega) (by omega) (by omega) (by assumption)
    | exact My.el_lo (by omega)
    | exact My.el_hi (by omega) (by omega)
    | exact My.el_lo' (by omega)
    | exact My.el_hi' (by omega) (by omega)
    | exact My.el_is' (by omega) (by omega)
    | exact My.gd_p (by assumption)
    | exact My.gd_q (by assumption)
    | exact My.gd_div (by assumption) (by assumption) (by assumption) (by omega)
    | exact My.gd_g (by assumption) (by assumption) (by omega) (by omega)
    | exact My.gd_g' (by assumption) (by assumption) (by omega) (by omega)
    | exact My.gd_is (by assumption) (by assumption) (by assumption) (by omega) (by omega)
    | exact My.s_hit (by omega) (by assumption) (by omega) (by omega) (by assumption) (by omega)
    | exact My.s_out (by omega) (by assumption) (by omega) (by assumption) (by assumption) (by rw [rangeKs_length]; omega)
  k_with "size" => first
    | (have myG := My.gd_two (by assumption); omega)
    | (refine ⟨?_, ?_, ?_, ?_, ?_, ?_⟩ <;> first | omega | exact My.sub_nm (by assumption) (by omega))
  k_with "fact power_modulo" => exact My.pw_fact
  k_with "fact is_element" => exact My.el_fact
  k_with "fact is_number" => exact My.nm_fact
  k_with "state" => first
    | exact My.p_start (by omega) (by omega)
    | exact My.p_even (by assumption) (by omega) (by assumption) (by omega) (by omega) (by omega) (by omega)
    | exact My.p_odd (by assumption) (by omega) (by assumption) (by omega) (by omega) (by omega) (by omega)
    | exact My.o_start (by omega) (by omega)
    | exact My.o_turn (by assumption) (by omega) (by omega) (by omega) (by omega) (by assumption)
    | exact My.s_start (by omega) (by omega)
    | exact My.s_turn (by assumption) (by omega) (by omega) (by assumption)
  k_with "measure" => first
    | exact My.p_less (by omega)
  k_with "exec While Compare cons nil" => k_while_given ["base", "exponent!", "modulus"] (fun b e0 m _ e r s => 0 ≤ e ∧ 0 ≤ r ∧ r < m ∧ 0 ≤ s ∧ s < m ∧ My.PInv b e0 m e r s) (fun _ _ _ _ e _ _ => e.toNat) "exponent" "result" "square"
  k_with "exec While Compare cons nil" => k_while_given ["n"] (fun n _ odd twos => 1 ≤ odd ∧ odd < 18446744073709551616 ∧ 0 ≤ twos ∧ twos ≤ 64 ∧ My.OInv n odd twos) (fun _ _ odd _ => odd.toNat) "odd" "twos"
  k_with "pyIter ref" => (k_of "step" => k_state_given ["n", "value!"] (fun n v0 pre v => 0 ≤ v ∧ v < n ∧ My.SInv v0 n pre v) "value")
  w_on; k_headS; (case hw => exact ⟨[.int 0, .int 0, .int 0, .int 0, .list [.int 0, .int 0, .int 0], .list [.int 0, .int 0, .int 0]], by decide +kernel, by decide +kernel⟩)
  w_strict (k_goS0; (all_goals (have my0 := os_pre_isSome (by assumption); obtain ⟨myH0, my1⟩ := My.take_int my0; obtain ⟨myH1, my2⟩ := My.take_int my1; obtain ⟨myH2, my3⟩ := My.take_int my2; obtain ⟨myH3, my4⟩ := My.take_int my3; obtain ⟨myH4, my5⟩ := My.take_list my4; obtain ⟨myH5, my6⟩ := My.take_list my5; obtain ⟨myD4, myN4, myB4, myC4, myE4⟩ := myH4; obtain ⟨myD5, myN5, myB5, myC5, myE5⟩ := myH5; clear my0 my1 my2 my3 my4 my5 my6)); (all_goals try k_fold); k_steps; (all_goals (try (w_end; sp_is; wrow_close))); (all_goals (try k_data)); all_goals first | sp_left | w_report)
  all_goals refine os_post (My.put_int (by assumption) (My.put_int (by assumption) (My.put_int (by assumption) (My.put_int (by assumption) (My.put_list (by assumption) (My.put_list (by assumption) (rfl) (cs := []))))))) ?_
  all_goals first
    | (refine My.same_list (l := [-3]) (k := PySx50.sg_find _ _ _ _ _ _) ?_; (try dsimp only); exact Eq.symm (My.by_find (by assumption) (by assumption) (My.find_3 (by assumption))))
    | (refine My.same_list (l := [-2]) (k := PySx50.sg_find _ _ _ _ _ _) ?_; (try dsimp only); exact Eq.symm (My.by_find (by assumption) (by assumption) (My.find_2 (by assumption) (Or.inl (by assumption)))))
    | (refine My.same_list (l := [-2]) (k := PySx50.sg_find _ _ _ _ _ _) ?_; (try dsimp only); exact Eq.symm (My.by_find (by assumption) (by assumption) (My.find_2 (by assumption) (Or.inr (Or.inl (by assumption))))))
    | (refine My.same_list (l := [-2]) (k := PySx50.sg_find _ _ _ _ _ _) ?_; (try dsimp only); exact Eq.symm (My.by_find (by assumption) (by assumption) (My.find_2 (by assumption) (Or.inr (Or.inr (Or.inl (by assumption)))))))
    | (refine My.same_list (l := [-2]) (k := PySx50.sg_find _ _ _ _ _ _) ?_; (try dsimp only); exact Eq.symm (My.by_find (by assumption) (by assumption) (My.find_2 (by assumption) (Or.inr (Or.inr (Or.inr (Or.inl (by assumption))))))))
    | (refine My.same_list (l := [-2]) (k := PySx50.sg_find _ _ _ _ _ _) ?_; (try dsimp only); exact Eq.symm (My.by_find (by assumption) (by assumption) (My.find_2 (by assumption) (Or.inr (Or.inr (Or.inr (Or.inr (Or.inl (by assumption)))))))))
    | (refine My.same_list (l := [-2]) (k := PySx50.sg_find _ _ _ _ _ _) ?_; (try dsimp only); exact Eq.symm (My.by_find (by assumption) (by assumption) (My.find_2 (by assumption) (Or.inr (Or.inr (Or.inr (Or.inr (Or.inr (Or.inl (by assumption))))))))))
    | (refine My.same_list (l := [-2]) (k := PySx50.sg_find _ _ _ _ _ _) ?_; (try dsimp only); exact Eq.symm (My.by_find (by assumption) (by assumption) (My.find_2 (by assumption) (Or.inr (Or.inr (Or.inr (Or.inr (Or.inr (Or.inr (Or.inl (by assumption)))))))))))
    | (refine My.same_list (l := [0, Int.fmod _ _]) (k := PySx50.sg_find _ _ _ _ _ _) ?_; (try dsimp only); exact Eq.symm (My.by_find (by assumption) (by assumption) ((My.find_0 (by assumption) (by assumption) (by assumption) (by assumption) (by assumption) (by assumption) (by assumption) (by assumption) (by omega) (by omega) (by omega) (by omega) (by omega)).trans (if_pos ⟨by omega, by omega, by assumption, by assumption⟩))))
    | (refine My.same_list (l := [-5]) (k := PySx50.sg_find _ _ _ _ _ _) ?_; (try dsimp only); exact Eq.symm (My.by_find (by assumption) (by assumption) ((My.find_0 (by assumption) (by assumption) (by assumption) (by assumption) (by assumption) (by assumption) (by assumption) (by assumption) (by omega) (by omega) (by omega) (by omega) (by omega)).trans (if_neg (fun myT => by have := myT.1; omega)))))
    | (refine My.same_list (l := [-5]) (k := PySx50.sg_find _ _ _ _ _ _) ?_; (try dsimp only); exact Eq.symm (My.by_find (by assumption) (by assumption) ((My.find_0 (by assumption) (by assumption) (by assumption) (by assumption) (by assumption) (by assumption) (by assumption) (by assumption) (by omega) (by omega) (by omega) (by omega) (by omega)).trans (if_neg (fun myT => by have := myT.2.1; omega)))))
    | (refine My.same_list (l := [-5]) (k := PySx50.sg_find _ _ _ _ _ _) ?_; (try dsimp only); exact Eq.symm (My.by_find (by assumption) (by assumption) ((My.find_0 (by assumption) (by assumption) (by assumption) (by assumption) (by assumption) (by assumption) (by assumption) (by assumption) (by omega) (by omega) (by omega) (by omega) (by omega)).trans (if_neg (fun myT => absurd myT.2.2.1 (by assumption))))))
    | (refine My.same_list (l := [-5]) (k := PySx50.sg_find _ _ _ _ _ _) ?_; (try dsimp only); exact Eq.symm (My.by_find (by assumption) (by assumption) ((My.find_0 (by assumption) (by assumption) (by assumption) (by assumption) (by assumption) (by assumption) (by assumption) (by assumption) (by omega) (by omega) (by omega) (by omega) (by omega)).trans (if_neg (fun myT => absurd myT.2.2.2 (by assumption))))))
#print axioms PySem.Challenge.cw_powershown_s06_sg_find_holds
