import PyProof.Rows.All
import Wide.All
import OpenK.AllK
import Wide.FinOn
import PyProof.EqAt
import PyProof.EqKinds
import PyProof.TupleCall
import Open.SpecLaws
import KE.OsGo
import HandS.ForSpec
import HandS.ForMost
import HandS.TryMany
import HandS.Wide
import HandS.StrMore
import HandS.Flow
import HandS.CallSlots
import HandS.DictTup
import HandS.TupLen
import HandS.TupSets
import HandS.Conv
import HandS.Zip
import HandS.Rev
import HandS.Deep
import HandS.More
import HandS.ExcInit
import HandS.ExcField
import HandS.Walk
import HandS.WrittenGet
import HandS.TryOnly
import PySem.Challenge.RW_scoretexts_s01_answers
set_option Elab.async false
set_option linter.all false
set_option maxRecDepth 100000
set_option maxHeartbeats 4000000
namespace Sco
open Sx62
def ints_ (b : Bytes) : List Int := b.map fun (n : Nat) => (n : Int)
/-- a list of numbers begins with a call; what's behind it -/
inductive CallAt : List Int → Sx62.Call → List Int → Prop
  | read (b : Bytes) (t : List Int) : b.length ≤ 2000 → CallAt (0 :: (b.length : Int) :: (ints_ b ++ t)) (.read b) t
  | form (t : List Int) : CallAt (1 :: t) .form t
  | counts (t : List Int) : CallAt (2 :: t) .counts t
  | sounds (v : Nat) (t : List Int) : CallAt (3 :: (v : Int) :: t) (.sounds v) t
  | bars (t : List Int) : CallAt (4 :: t) .bars t
  | same (b : Bytes) (t : List Int) : b.length ≤ 2000 → CallAt (5 :: (b.length : Int) :: (ints_ b ++ t)) (.same b) t
  | place (n d : Nat) (t : List Int) : CallAt (6 :: (n : Int) :: (d : Int) :: t) (.place n d) t
inductive Chain : List Int → List Sx62.Call → Prop
  | nil : Chain [] []
  | cons {l t : List Int} {c : Sx62.Call} {cs : List Sx62.Call} : CallAt l c t → Chain t cs → Chain l (c :: cs)
/-- what calls answer, one behind another -/
def toldAll : Sx62.State → List Sx62.Call → List Int
  | _, [] => []
  | s, c :: cs => ((Sx62Neutral.told (Sx62.step s c).2).length : Int) :: Sx62Neutral.told (Sx62.step s c).2 ++ toldAll (Sx62.step s c).1 cs
theorem nats_ints (b : List Int) (h : ∀ z ∈ b, (0 : Int) ≤ z) : ints_ (Sx62Neutral.nats b) = b := by
  unfold ints_ Sx62Neutral.nats
  rw [List.map_map]
  induction b with
  | nil => rfl
  | cons z b ih =>
    rw [List.map_cons, ih fun y hy => h y (List.mem_cons_of_mem _ hy)]
    have := h z List.mem_cons_self
    show ((z.toNat : Nat) : Int) :: b = z :: b
    rw [Int.toNat_of_nonneg this]
theorem nats_len (b : List Int) : (Sx62Neutral.nats b).length = b.length := List.length_map ..
theorem row_some {l : List Int} {x s : List Int} (h : PyFlat.row l = some (x, s)) : l = (x.length : Int) :: (x ++ s) := by
  unfold PyFlat.row at h
  split at h
  · cases h
  · rename_i n r
    split at h
    · rename_i hn
      injection h with h
      injection h with h1 h2
      subst h1 h2
      rw [List.length_take, Nat.min_eq_left hn.2, List.take_append_drop, Int.toNat_of_nonneg hn.1]
    · cases h
theorem rows_one {l : List Int} {xs : List (List Int)} {t : List Int} (h : PyFlat.rows 1 l = some (xs, t)) : ∃ x, xs = [x] ∧ l = (x.length : Int) :: (x ++ t) := by
  unfold PyFlat.rows at h
  split at h
  · cases h
  · rename_i x s hr
    unfold PyFlat.rows at h
    dsimp only at h
    injection h with h
    injection h with h1 h2
    subst h1 h2
    exact ⟨x, rfl, row_some hr⟩
theorem rows_zero {l : List Int} {xs : List (List Int)} {t : List Int} (h : PyFlat.rows 0 l = some (xs, t)) : xs = [] ∧ l = t := by
  unfold PyFlat.rows at h
  injection h with h
  injection h with h1 h2
  exact ⟨h1.symm, h2⟩
theorem inside_row {x : List Int} (h : PyInside.lists [(0, 255, 0, 2000)] [x] = true) : x.length ≤ 2000 ∧ ∀ z ∈ x, (0 : Int) ≤ z := by
  unfold PyInside.lists at h
  simp only [Bool.and_eq_true, decide_eq_true_eq, List.all_eq_true] at h
  exact ⟨h.1.1.2, fun z hz => by
    have := h.1.2 z hz
    unfold PyInside.within at this
    simp only [Bool.and_eq_true, decide_eq_true_eq] at this
    exact this.1⟩
theorem call_at {p : Int} {r : List Int} {c : List (List Int)} {t : List Int} (h : PyFlat.call PySx62.shape (p :: r) = some (c, t)) (hb : PyInside.call PySx62.bound c = true) :
    ∃ x, CallAt (p :: r) x t ∧ ∀ s, Sx62Neutral.step s (PySx62.whole c) = ((Sx62.step s x).1, Sx62Neutral.told (Sx62.step s x).2) := by
  unfold PyFlat.call at h
  dsimp only at h
  unfold PySx62.shape at h
  by_cases h0 : p = 0
  · subst h0
    rw [if_pos rfl] at h
    dsimp only at h
    rw [if_neg (Nat.not_lt_zero _), List.drop_zero, List.take_zero] at h
    split at h
    · cases h
    · rename_i xs t' hr
      injection h with h
      injection h with h1 h2
      subst h1 h2
      obtain ⟨x, rfl, e⟩ := rows_one hr
      have hb2 : PyInside.lists [(0, 255, 0, 2000)] [x] = true := by
        unfold PyInside.call at hb
        have := (Bool.and_eq_true_iff.mp hb).2
        exact this
      obtain ⟨b1, b2⟩ := inside_row hb2
      refine ⟨.read (Sx62Neutral.nats x), ?_, fun s => rfl⟩
      have := CallAt.read (Sx62Neutral.nats x) t' (by rw [nats_len]; exact b1)
      rw [nats_ints x b2, nats_len] at this
      rw [e]; exact this
  rw [if_neg h0] at h
  by_cases h1 : p = 1
  · subst h1
    rw [if_pos rfl] at h
    dsimp only at h
    rw [if_neg (Nat.not_lt_zero _), List.drop_zero, List.take_zero] at h
    split at h
    · cases h
    · rename_i xs t' hr
      injection h with h
      injection h with h1 h2
      subst h1 h2
      obtain ⟨rfl, rfl⟩ := rows_zero hr
      exact ⟨.form, .form _, fun s => rfl⟩
  rw [if_neg h1] at h
  by_cases h2 : p = 2
  · subst h2
    rw [if_pos rfl] at h
    dsimp only at h
    rw [if_neg (Nat.not_lt_zero _), List.drop_zero, List.take_zero] at h
    split at h
    · cases h
    · rename_i xs t' hr
      injection h with h
      injection h with h1 h2
      subst h1 h2
      obtain ⟨rfl, rfl⟩ := rows_zero hr
      exact ⟨.counts, .counts _, fun s => rfl⟩
  rw [if_neg h2] at h
  by_cases h3 : p = 3
  · subst h3
    rw [if_pos rfl] at h
    dsimp only at h
    split at h
    · cases h
    · rename_i hlen
      split at h
      · cases h
      · rename_i xs t' hr
        injection h with h
        injection h with h1 h2
        subst h1 h2
        obtain ⟨rfl, e⟩ := rows_zero hr
        match r, hlen with
        | a :: r, _ =>
          have ha : (0 : Int) ≤ a := by
            unfold PyInside.call at hb
            have := (Bool.and_eq_true_iff.mp hb).1
            have : PyInside.each [(0, 4294967295)] [a] = true := this
            unfold PyInside.each PyInside.within at this
            simp only [Bool.and_eq_true, decide_eq_true_eq] at this
            exact this.1.1
          refine ⟨.sounds a.toNat, ?_, fun s => rfl⟩
          have := CallAt.sounds a.toNat t'
          rw [Int.toNat_of_nonneg ha] at this
          rw [← e]; rw [← e] at this; exact this
  rw [if_neg h3] at h
  by_cases h4 : p = 4
  · subst h4
    rw [if_pos rfl] at h
    dsimp only at h
    rw [if_neg (Nat.not_lt_zero _), List.drop_zero, List.take_zero] at h
    split at h
    · cases h
    · rename_i xs t' hr
      injection h with h
      injection h with h1 h2
      subst h1 h2
      obtain ⟨rfl, rfl⟩ := rows_zero hr
      exact ⟨.bars, .bars _, fun s => rfl⟩
  rw [if_neg h4] at h
  by_cases h5 : p = 5
  · subst h5
    rw [if_pos rfl] at h
    dsimp only at h
    rw [if_neg (Nat.not_lt_zero _), List.drop_zero, List.take_zero] at h
    split at h
    · cases h
    · rename_i xs t' hr
      injection h with h
      injection h with h1 h2
      subst h1 h2
      obtain ⟨x, rfl, e⟩ := rows_one hr
      have hb2 : PyInside.lists [(0, 255, 0, 2000)] [x] = true := by
        unfold PyInside.call at hb
        have := (Bool.and_eq_true_iff.mp hb).2
        exact this
      obtain ⟨b1, b2⟩ := inside_row hb2
      refine ⟨.same (Sx62Neutral.nats x), ?_, fun s => rfl⟩
      have := CallAt.same (Sx62Neutral.nats x) t' (by rw [nats_len]; exact b1)
      rw [nats_ints x b2, nats_len] at this
      rw [e]; exact this
  rw [if_neg h5] at h
  by_cases h6 : p = 6
  · subst h6
    rw [if_pos rfl] at h
    dsimp only at h
    split at h
    · cases h
    · rename_i hlen
      split at h
      · cases h
      · rename_i xs t' hr
        injection h with h
        injection h with h1 h2
        subst h1 h2
        obtain ⟨rfl, e⟩ := rows_zero hr
        match r, hlen with
        | [], hl => exact absurd (show 0 < 2 by decide) hl
        | [a], hl => exact absurd (show 1 < 2 by decide) hl
        | a :: b :: r, _ =>
          have hab : (0 : Int) ≤ a ∧ (0 : Int) ≤ b := by
            unfold PyInside.call at hb
            have := (Bool.and_eq_true_iff.mp hb).1
            have : PyInside.each [(0, 4294967295), (0, 4294967295)] [a, b] = true := this
            unfold PyInside.each PyInside.each PyInside.within at this
            simp only [Bool.and_eq_true, decide_eq_true_eq] at this
            exact ⟨this.1.1, this.2.1.1⟩
          refine ⟨.place a.toNat b.toNat, ?_, fun s => rfl⟩
          have := CallAt.place a.toNat b.toNat t'
          rw [Int.toNat_of_nonneg hab.1, Int.toNat_of_nonneg hab.2] at this
          rw [← e]; rw [← e] at this; exact this
  rw [if_neg h6] at h
  cases h
theorem calls_chain : ∀ {f : Nat} {l : List Int} {raw : List (List (List Int))}, PyFlat.calls PySx62.shape f l = some raw → PyInside.calls PySx62.bound raw = true →
    ∃ cs, Chain l cs ∧ cs.length = raw.length ∧ ∀ s, PyFlat.told (PyFlat.played Sx62Neutral.step s (raw.map PySx62.whole)) = toldAll s cs
  | f, [], raw, h, _ => by
    have : raw = [] := by
      cases f <;> (unfold PyFlat.calls at h; injection h with h; exact h.symm)
    subst this
    exact ⟨[], .nil, rfl, fun s => rfl⟩
  | 0, p :: r, raw, h, _ => by unfold PyFlat.calls at h; cases h
  | f + 1, p :: r, raw, h, hb => by
    unfold PyFlat.calls at h
    split at h
    · cases h
    · rename_i c t hc
      split at h
      · cases h
      · rename_i cs hcs
        injection h with h
        subst h
        unfold PyInside.calls at hb
        rw [List.all_cons, Bool.and_eq_true] at hb
        obtain ⟨x, h1, h2⟩ := call_at hc hb.1
        obtain ⟨ys, h3, h4, h5⟩ := calls_chain hcs hb.2
        refine ⟨x :: ys, .cons h1 h3, by rw [List.length_cons, h4, List.length_cons], fun s => ?_⟩
        rw [List.map_cons]
        show PyFlat.told ((Sx62Neutral.step s (PySx62.whole c)).2 :: PyFlat.played Sx62Neutral.step (Sx62Neutral.step s (PySx62.whole c)).1 (cs.map PySx62.whole)) = _
        rw [h2]
        show (((Sx62Neutral.told (Sx62.step s x).2).length : Int) :: Sx62Neutral.told (Sx62.step s x).2) ++ PyFlat.told (PyFlat.played Sx62Neutral.step (Sx62.step s x).1 (cs.map PySx62.whole)) = _
        rw [h5]; rfl
theorem asked_chain {l : List Int} (h : PySx62.answers_asked l = true) : ∃ cs, Chain l cs ∧ PySx62.answers l = toldAll Sx62.init cs ∧ cs.length ≤ 30 ∧ (PySx62.answers l).length ≤ 10000000 := by
  unfold PySx62.answers_asked at h
  split at h
  · cases h
  · rename_i raw hr
    simp only [Bool.and_eq_true] at h
    obtain ⟨cs, h1, h2, h3⟩ := calls_chain hr h.1.1.2
    refine ⟨cs, h1, ?_, ?_, ?_⟩
    · unfold PySx62.answers PySx62.calls
      rw [hr]
      exact h3 _
    · have := h.1.1.1.2
      unfold PyFlat.atMost at this
      rw [h2]; exact of_decide_eq_true this
    · exact of_decide_eq_true h.2
end Sco
namespace Sco
open Sx62
/-! ### fractions and units -/
def WH : Nat := 4096770048000
theorem WH_eq : WH = 256 * (2520 * (2520 * 2520)) := by decide
theorem WH_pos : 0 < WH := by decide
def fr (u : Nat) : Frac := lowest u WH
theorem lowest_mul {k a b : Nat} (hk : 0 < k) : lowest (k * a) (k * b) = lowest a b := by
  unfold lowest
  simp only [Nat.gcd_mul_left, Nat.mul_div_mul_left _ _ hk]
theorem lowest_eq {a b c d : Nat} (hb : 0 < b) (hd : 0 < d) (h : a * d = c * b) : lowest a b = lowest c d := by
  have e1 := lowest_mul (a := a) (b := b) hd
  have e2 := lowest_mul (a := c) (b := d) hb
  rw [← e1, ← e2, Nat.mul_comm d a, Nat.mul_comm b c, h, Nat.mul_comm d b]
theorem lowest_den_pos {a b : Nat} (hb : 0 < b) : 0 < (lowest a b).den :=
  Nat.div_pos (Nat.gcd_le_right a hb) (Nat.gcd_pos_of_pos_right a hb)
theorem lowest_cross {a b : Nat} : (lowest a b).num * b = a * (lowest a b).den := by
  show a / Nat.gcd a b * b = a * (b / Nat.gcd a b)
  have h1 := Nat.div_mul_cancel (Nat.gcd_dvd_left a b)
  have h2 := Nat.div_mul_cancel (Nat.gcd_dvd_right a b)
  generalize Nat.gcd a b = g at h1 h2
  generalize a / g = x at h1 ⊢
  generalize b / g = y at h2 ⊢
  subst h1; subst h2
  rw [Nat.mul_assoc, Nat.mul_comm g y, Nat.mul_comm y g]
theorem lowest_low (a b c d : Nat) (hb : 0 < b) (hd : 0 < d) : lowest ((lowest a b).num * c) ((lowest a b).den * d) = lowest (a * c) (b * d) := by
  refine lowest_eq (Nat.mul_pos (lowest_den_pos hb) hd) (Nat.mul_pos hb hd) ?_
  have e := lowest_cross (a := a) (b := b)
  generalize (lowest a b).num = x at e ⊢
  generalize (lowest a b).den = y at e ⊢
  calc x * c * (b * d) = (x * b) * (c * d) := by ac_rfl
    _ = (a * y) * (c * d) := by rw [e]
    _ = a * c * (y * d) := by ac_rfl
theorem lowest_inj {a b c d : Nat} (hb : 0 < b) (hd : 0 < d) (h : lowest a b = lowest c d) : a * d = c * b := by
  have e1 := lowest_cross (a := a) (b := b)
  have e2 := lowest_cross (a := c) (b := d)
  have hp := lowest_den_pos (a := c) hd
  rw [h] at e1
  generalize (lowest c d).num = x at *
  generalize (lowest c d).den = y at *
  have : (a * d) * y = (c * b) * y := by
    calc a * d * y = (a * y) * d := by ac_rfl
      _ = (x * b) * d := by rw [e1]
      _ = (x * d) * b := by ac_rfl
      _ = (c * y) * b := by rw [e2]
      _ = c * b * y := by ac_rfl
  exact Nat.eq_of_mul_eq_mul_right hp this
theorem fr_zero : fr 0 = ⟨0, 1⟩ := by decide
theorem fr_inj {u v : Nat} (h : fr u = fr v) : u = v :=
  Nat.eq_of_mul_eq_mul_right WH_pos (lowest_inj WH_pos WH_pos h)
theorem fr_plus (u v : Nat) : (fr u).plus (fr v) = fr (u + v) := by
  unfold Frac.plus fr
  refine lowest_eq (Nat.mul_pos (lowest_den_pos WH_pos) (lowest_den_pos WH_pos)) WH_pos ?_
  have e1 := lowest_cross (a := u) (b := WH)
  have e2 := lowest_cross (a := v) (b := WH)
  generalize (lowest u WH).num = x at *
  generalize (lowest u WH).den = y at *
  generalize (lowest v WH).num = z at *
  generalize (lowest v WH).den = t at *
  rw [Nat.add_mul, Nat.add_mul]
  calc x * t * WH + z * y * WH = (x * WH) * t + (z * WH) * y := by ac_rfl
    _ = (u * y) * t + (v * t) * y := by rw [e1, e2]
    _ = u * (y * t) + v * (y * t) := by ac_rfl
theorem less_fr (u v : Nat) : less (fr u) (fr v) = decide (u < v) := by
  unfold less fr
  have e1 := lowest_cross (a := u) (b := WH)
  have e2 := lowest_cross (a := v) (b := WH)
  have p1 := lowest_den_pos (a := u) WH_pos
  have p2 := lowest_den_pos (a := v) WH_pos
  generalize (lowest u WH).num = x at *
  generalize (lowest u WH).den = y at *
  generalize (lowest v WH).num = z at *
  generalize (lowest v WH).den = t at *
  have key : (x * t < z * y) ↔ u < v := by
    have pw := WH_pos
    have a1 : x * t * WH = u * (y * t) := by
      calc x * t * WH = (x * WH) * t := by ac_rfl
        _ = (u * y) * t := by rw [e1]
        _ = u * (y * t) := by ac_rfl
    have a2 : z * y * WH = v * (y * t) := by
      calc z * y * WH = (z * WH) * y := by ac_rfl
        _ = (v * t) * y := by rw [e2]
        _ = v * (y * t) := by ac_rfl
    have pp : 0 < y * t := Nat.mul_pos p1 p2
    constructor
    · intro h
      have := Nat.mul_lt_mul_of_pos_right h pw
      rw [a1, a2] at this
      exact Nat.lt_of_mul_lt_mul_right this
    · intro h
      have := Nat.mul_lt_mul_of_pos_right h pp
      rw [← a1, ← a2] at this
      exact Nat.lt_of_mul_lt_mul_right this
  simp only [key]
theorem beq_fr (u v : Nat) : (fr u == fr v) = (u == v) := by
  by_cases h : u = v
  · subst h; simp
  · have : fr u ≠ fr v := fun e => h (fr_inj e)
    rw [beq_eq_false_iff_ne.mpr h]
    exact decide_eq_false this
theorem sum_fr_from : ∀ (l : List Nat) (a : Nat), (l.map fr).foldl Frac.plus (fr a) = fr (l.foldl (· + ·) a)
  | [], _ => rfl
  | x :: l, a => by
    rw [List.map_cons, List.foldl_cons, fr_plus, sum_fr_from l, List.foldl_cons]
theorem sum_fr (l : List Nat) : Sx62.sum (l.map fr) = fr (l.foldl (· + ·) 0) := by
  unfold Sx62.sum
  rw [← fr_zero]
  exact sum_fr_from l 0
/-! ### a length in units -/
/-- dotted_length -/
def dotU (k d : Nat) : Nat := WH / (4 * k) * (if d = 0 then 4 else if d = 1 then 6 else 7)
/-- length_in_tuplets, the outermost tuplet first -/
def tupU (l : Nat) (ts : List (Nat × Nat)) : Nat := ts.foldl (fun l t => l * t.2 / t.1) l
def Rat (t : Nat × Nat) : Prop := 2 ≤ t.1 ∧ t.1 ≤ 9 ∧ 2 ≤ t.2 ∧ t.2 ≤ 9
theorem rat_dvd {n : Nat} (h1 : 2 ≤ n) (h2 : n ≤ 9) : n ∣ 2520 := by
  have : ∀ m, m < 10 → 2 ≤ m → m ∣ 2520 := by decide
  exact this n (by omega) h1
def prodN (ts : List (Nat × Nat)) : Nat := ts.foldr (fun t p => t.1 * p) 1
def prodM (ts : List (Nat × Nat)) : Nat := ts.foldr (fun t p => t.2 * p) 1
theorem prodN_pos {ts : List (Nat × Nat)} (h : ∀ t ∈ ts, Rat t) : 0 < prodN ts := by
  induction ts with
  | nil => decide
  | cons t ts ih =>
    have := (h t List.mem_cons_self).1
    exact Nat.mul_pos (by omega) (ih fun x hx => h x (List.mem_cons_of_mem _ hx))
theorem tupU_prod : ∀ (ts : List (Nat × Nat)) (l : Nat), (∀ t ∈ ts, Rat t) → 2520 ^ ts.length ∣ l → tupU l ts * prodN ts = l * prodM ts
  | [], l, _, _ => by show l * 1 = l * 1; rfl
  | t :: ts, l, h, hd => by
    have ht := h t List.mem_cons_self
    obtain ⟨q, rfl⟩ := hd
    obtain ⟨c, hc⟩ := rat_dvd ht.1 ht.2.1
    have hn : 0 < t.1 := by have := ht.1; omega
    have e : 2520 ^ (t :: ts).length * q * t.2 / t.1 = 2520 ^ ts.length * (c * q * t.2) := by
      rw [List.length_cons, Nat.pow_succ]
      have : 2520 ^ ts.length * 2520 * q * t.2 = t.1 * (2520 ^ ts.length * (c * q * t.2)) := by
        conv => lhs; rw [show 2520 ^ ts.length * 2520 = 2520 ^ ts.length * (t.1 * c) by rw [← hc]]
        ac_rfl
      rw [this, Nat.mul_div_cancel_left _ hn]
    have ih := tupU_prod ts (2520 ^ (t :: ts).length * q * t.2 / t.1) (fun x hx => h x (List.mem_cons_of_mem _ hx)) (by rw [e]; exact Nat.dvd_mul_right _ _)
    show tupU (2520 ^ (t :: ts).length * q * t.2 / t.1) ts * (t.1 * prodN ts) = 2520 ^ (t :: ts).length * q * (t.2 * prodM ts)
    have e2 : 2520 ^ (t :: ts).length * q * t.2 = (2520 ^ (t :: ts).length * q * t.2 / t.1) * t.1 := by
      rw [e, List.length_cons, Nat.pow_succ]
      conv => lhs; rw [show 2520 ^ ts.length * 2520 = 2520 ^ ts.length * (t.1 * c) by rw [← hc]]
      ac_rfl
    calc tupU (2520 ^ (t :: ts).length * q * t.2 / t.1) ts * (t.1 * prodN ts)
        = (tupU (2520 ^ (t :: ts).length * q * t.2 / t.1) ts * prodN ts) * t.1 := by ac_rfl
      _ = (2520 ^ (t :: ts).length * q * t.2 / t.1 * prodM ts) * t.1 := by rw [ih]
      _ = (2520 ^ (t :: ts).length * q * t.2 / t.1 * t.1) * prodM ts := by ac_rfl
      _ = (2520 ^ (t :: ts).length * q * t.2) * prodM ts := by rw [← e2]
      _ = 2520 ^ (t :: ts).length * q * (t.2 * prodM ts) := by ac_rfl
theorem foldl_low : ∀ (st : List (Nat × Nat)) (a b : Nat), 0 < b → (∀ t ∈ st, Rat t) → st.foldl (fun x y => lowest (x.num * y.2) (x.den * y.1)) (lowest a b) = lowest (a * prodM st) (b * prodN st)
  | [], a, b, _, _ => by show lowest a b = lowest (a * 1) (b * 1); rw [Nat.mul_one, Nat.mul_one]
  | t :: st, a, b, hb, h => by
    have ht := h t List.mem_cons_self
    have hn : 0 < t.1 := by have := ht.1; omega
    rw [List.foldl_cons, lowest_low a b t.2 t.1 hb hn, foldl_low st _ _ (Nat.mul_pos hb hn) (fun x hx => h x (List.mem_cons_of_mem _ hx))]
    show lowest (a * t.2 * prodM st) (b * t.1 * prodN st) = lowest (a * (t.2 * prodM st)) (b * (t.1 * prodN st))
    rw [Nat.mul_assoc, Nat.mul_assoc]
theorem prodN_append (a b : List (Nat × Nat)) : prodN (a ++ b) = prodN a * prodN b := by
  induction a with
  | nil => show prodN b = 1 * prodN b; rw [Nat.one_mul]
  | cons t a ih => show t.1 * prodN (a ++ b) = t.1 * prodN a * prodN b; rw [ih, Nat.mul_assoc]
theorem prodM_append (a b : List (Nat × Nat)) : prodM (a ++ b) = prodM a * prodM b := by
  induction a with
  | nil => show prodM b = 1 * prodM b; rw [Nat.one_mul]
  | cons t a ih => show t.2 * prodM (a ++ b) = t.2 * prodM a * prodM b; rw [ih, Nat.mul_assoc]
theorem prodN_rev (a : List (Nat × Nat)) : prodN a.reverse = prodN a := by
  induction a with
  | nil => rfl
  | cons t a ih =>
    rw [List.reverse_cons, prodN_append, ih]
    show prodN a * (t.1 * 1) = t.1 * prodN a
    rw [Nat.mul_one, Nat.mul_comm]
theorem prodM_rev (a : List (Nat × Nat)) : prodM a.reverse = prodM a := by
  induction a with
  | nil => rfl
  | cons t a ih =>
    rw [List.reverse_cons, prodM_append, ih]
    show prodM a * (t.2 * 1) = t.2 * prodM a
    rw [Nat.mul_one, Nat.mul_comm]
theorem dot_facts : ∀ k ∈ KINDS, ∀ d, d < 3 → 2520 ^ 3 ∣ dotU k d ∧ dotU k d * (k * 2 ^ d) = (2 ^ (d + 1) - 1) * WH := by decide +kernel
theorem kinds_pos : ∀ k ∈ KINDS, 0 < k := by decide
/-- the specification's length of a sign is the program's -/
theorem signLong_eq {k d : Nat} (hk : k ∈ KINDS) (hd : d < 3) {ts : List (Nat × Nat)} (h : ∀ t ∈ ts, Rat t) (hl : ts.length ≤ 3) : signLong k d ts.reverse = fr (tupU (dotU k d) ts) := by
  obtain ⟨f1, f2⟩ := dot_facts k hk d hd
  have hp : 0 < k * 2 ^ d := Nat.mul_pos (kinds_pos k hk) (Nat.two_pow_pos d)
  unfold signLong
  rw [foldl_low _ _ _ hp (fun t ht => h t (List.mem_reverse.mp ht)), prodN_rev, prodM_rev]
  have e := tupU_prod ts (dotU k d) h (Nat.dvd_trans (Nat.pow_dvd_pow 2520 hl) f1)
  refine lowest_eq (Nat.mul_pos hp (prodN_pos h)) WH_pos ?_
  calc (2 ^ (d + 1) - 1) * prodM ts * WH = ((2 ^ (d + 1) - 1) * WH) * prodM ts := by ac_rfl
    _ = (dotU k d * (k * 2 ^ d)) * prodM ts := by rw [f2]
    _ = (dotU k d * prodM ts) * (k * 2 ^ d) := by ac_rfl
    _ = (tupU (dotU k d) ts * prodN ts) * (k * 2 ^ d) := by rw [e]
    _ = tupU (dotU k d) ts * (k * 2 ^ d * prodN ts) := by ac_rfl
theorem metre_eq {b u : Nat} (hu : u ∈ UNITS) : lowest b u = fr (WH / u * b) := by
  have hp : 0 < u := by
    have : ∀ x ∈ UNITS, 0 < x := by decide
    exact this u hu
  have hd : u ∣ WH := by
    have : ∀ x ∈ UNITS, x ∣ WH := by decide
    exact this u hu
  refine lowest_eq hp WH_pos ?_
  calc b * WH = b * (WH / u * u) := by rw [Nat.div_mul_cancel hd]
    _ = WH / u * b * u := by ac_rfl
theorem fr_parts (u : Nat) : fr u = ⟨u / Nat.gcd WH u, WH / Nat.gcd WH u⟩ := by
  unfold fr lowest
  rw [Nat.gcd_comm]
end Sco
namespace Sco
open Sx62
/-! ### numbers -/
theorem digit_iff {c : Nat} : digit c = true ↔ 48 ≤ c ∧ c ≤ 57 := by
  unfold digit; simp
theorem dec1 {n : Nat} (h : n < 10) : dec n = [48 + n] := by
  show (if n < 10 then [48 + n] else digits 3 (n / 10) ++ [48 + n % 10]) = _
  rw [if_pos h]
theorem dec2 {n : Nat} (h1 : 10 ≤ n) (h2 : n < 100) : dec n = [48 + n / 10, 48 + n % 10] := by
  show (if n < 10 then [48 + n] else (if n / 10 < 10 then [48 + n / 10] else digits 2 (n / 10 / 10) ++ [48 + n / 10 % 10]) ++ [48 + n % 10]) = _
  rw [if_neg (by omega), if_pos (by omega)]; rfl
theorem dec3 {n : Nat} (h1 : 100 ≤ n) (h2 : n < 1000) : dec n = [48 + n / 100, 48 + n / 10 % 10, 48 + n % 10] := by
  show (if n < 10 then [48 + n] else (if n / 10 < 10 then [48 + n / 10] else (if n / 10 / 10 < 10 then [48 + n / 10 / 10] else digits 1 (n / 10 / 10 / 10) ++ [48 + n / 10 / 10 % 10]) ++ [48 + n / 10 % 10]) ++ [48 + n % 10]) = _
  rw [if_neg (by omega), if_neg (by omega), if_pos (by omega)]
  rw [show n / 10 / 10 = n / 100 by omega]; rfl
theorem numberOf_iff {lo hi n : Nat} {t : Bytes} (hh : hi ≤ 999) : numberOf lo hi t = some n ↔ t = dec n ∧ lo ≤ n ∧ n ≤ hi := by
  unfold numberOf
  constructor
  · intro h
    dsimp only at h
    split at h
    · rename_i hc
      obtain ⟨h1, h2, h3, h4, h5, h6⟩ := hc
      injection h with h
      match t, h1, h2, h3, h4 with
      | [a], h1, _, _, _ =>
        simp only [List.all_cons, List.all_nil, Bool.and_true, digit_iff] at h1
        simp only [List.foldl_cons, List.foldl_nil] at h h5 h6
        rw [dec1 (by omega)]
        exact ⟨by congr 1; omega, by omega, by omega⟩
      | [a, b], h1, _, _, h4 =>
        simp only [List.all_cons, List.all_nil, Bool.and_true, Bool.and_eq_true, digit_iff] at h1
        simp only [List.foldl_cons, List.foldl_nil] at h h5 h6
        simp at h4
        rw [dec2 (by omega) (by omega)]
        refine ⟨?_, by omega, by omega⟩
        congr 1
        · omega
        · congr 1; omega
      | [a, b, c], h1, _, _, h4 =>
        simp only [List.all_cons, List.all_nil, Bool.and_true, Bool.and_eq_true, digit_iff] at h1
        simp only [List.foldl_cons, List.foldl_nil] at h h5 h6
        simp at h4
        rw [dec3 (by omega) (by omega)]
        refine ⟨?_, by omega, by omega⟩
        congr 1
        · omega
        · congr 1
          · omega
          · congr 1; omega
    · cases h
  · rintro ⟨rfl, h1, h2⟩
    dsimp only
    by_cases c1 : n < 10
    · rw [dec1 c1]
      rw [if_pos]
      · simp
      · simp [digit_iff]; omega
    · by_cases c2 : n < 100
      · rw [dec2 (by omega) c2]
        have e : 10 * (n / 10) + n % 10 = n := by omega
        rw [if_pos]
        · simp; exact e
        · simp [digit_iff, e]; omega
      · rw [dec3 (by omega) (by omega)]
        have e : 10 * (10 * (n / 100) + n / 10 % 10) + n % 10 = n := by omega
        rw [if_pos]
        · simp; exact e
        · simp [digit_iff, e]; omega
theorem opt_ext {α : Type} {a b : Option α} (h : ∀ x, a = some x ↔ b = some x) : a = b := by
  cases a with
  | none =>
    cases b with
    | none => rfl
    | some y => exact ((h y).mpr rfl)
  | some x => exact ((h x).mp rfl).symm
/-- a table of written numbers -/
def tab (ns : List Nat) (t : Bytes) : Option Nat := (ns.map fun n => (dec n, n)).lookup t
theorem tab_iff {ns : List Nat} {t : Bytes} {n : Nat} (h : ∀ a ∈ ns, ∀ b ∈ ns, dec a = dec b → a = b) : tab ns t = some n ↔ t = dec n ∧ n ∈ ns := by
  unfold tab
  induction ns with
  | nil => simp
  | cons a l ih =>
    rw [List.map_cons, List.lookup_cons]
    by_cases e : t = dec a
    · subst e
      simp only [beq_self_eq_true]
      constructor
      · intro q
        injection q with q
        subst q
        exact ⟨rfl, List.mem_cons_self⟩
      · rintro ⟨e1, e2⟩
        rw [h a List.mem_cons_self n e2 e1]
    · rw [show (t == dec a) = false from beq_eq_false_iff_ne.mpr e]
      rw [ih fun x hx y hy => h x (List.mem_cons_of_mem _ hx) y (List.mem_cons_of_mem _ hy)]
      constructor
      · rintro ⟨e1, e2⟩
        exact ⟨e1, List.mem_cons_of_mem _ e2⟩
      · rintro ⟨e1, e2⟩
        rcases List.mem_cons.mp e2 with q | q
        · subst q; exact absurd e1 e
        · exact ⟨e1, q⟩
theorem tabK_iff {t : Bytes} {n : Nat} : tab KINDS t = some n ↔ t = dec n ∧ n ∈ KINDS := tab_iff (by decide)
theorem tabU_iff {t : Bytes} {n : Nat} : tab UNITS t = some n ↔ t = dec n ∧ n ∈ UNITS := tab_iff (by decide)
/-! ### cutting -/
theorem cutAt_iff {c : Nat} : ∀ {t a b : Bytes}, cutAt c t = some (a, b) ↔ t = a ++ c :: b ∧ c ∉ a
  | [], a, b => by simp [cutAt]
  | x :: l, a, b => by
    unfold cutAt
    by_cases e : x = c
    · rw [if_pos e]
      subst e
      constructor
      · intro h
        injection h with h
        injection h with h1 h2
        subst h1; subst h2
        exact ⟨rfl, by simp⟩
      · rintro ⟨h, hn⟩
        cases a with
        | nil =>
          rw [List.nil_append] at h
          injection h with _ h
          subst h; rfl
        | cons y a =>
          injection h with h1 h2
          subst h1
          exact absurd List.mem_cons_self hn
    · rw [if_neg e, Option.map_eq_some_iff]
      constructor
      · rintro ⟨⟨p, q⟩, h1, h2⟩
        injection h2 with h2 h3
        subst h2; subst h3
        obtain ⟨e1, e2⟩ := cutAt_iff.mp h1
        refine ⟨by rw [e1]; rfl, fun z => ?_⟩
        rcases List.mem_cons.mp z with z | z
        · exact e z.symm
        · exact e2 z
      · rintro ⟨h, hn⟩
        cases a with
        | nil =>
          injection h with h1 h2
          exact absurd h1 e
        | cons y a =>
          injection h with h1 h2
          subst h1
          exact ⟨(a, b), cutAt_iff.mpr ⟨h2, fun z => hn (List.mem_cons_of_mem _ z)⟩, rfl⟩
theorem cutAt_none {c : Nat} : ∀ {t : Bytes}, cutAt c t = none ↔ c ∉ t
  | [] => by simp [cutAt]
  | x :: l => by
    unfold cutAt
    by_cases e : x = c
    · rw [if_pos e]; simp [e]
    · rw [if_neg e, Option.map_eq_none_iff, cutAt_none]
      simp; intro; exact fun z => e z.symm
/-- partition: what stands before the first such sign, it, and behind it -/
def part (c : Nat) (t : Bytes) : Bytes × Bytes × Bytes := match cutAt c t with
  | some (a, b) => (a, [c], b)
  | none => (t, [], [])
/-! ### metre, key -/
def cMetre (t : Bytes) : Option (Nat × Nat) := match numberOf 1 32 (part 47 t).1, tab UNITS (part 47 t).2.2 with
  | some n, some d => some (n, d)
  | _, _ => none
theorem units_le : ∀ d ∈ UNITS, 1 ≤ d ∧ d ≤ 32 := by decide
theorem tabU_num (t : Bytes) : tab UNITS t = (numberOf 1 32 t).bind fun d => if UNITS.contains d = true then some d else none := by
  apply opt_ext
  intro d
  rw [tabU_iff]
  constructor
  · rintro ⟨e, m⟩
    rw [(numberOf_iff (by decide)).mpr ⟨e, units_le d m⟩]
    show (if UNITS.contains d = true then some d else none) = some d
    rw [if_pos (List.contains_iff_mem.mpr m)]
  · intro h
    cases e : numberOf 1 32 t with
    | none => rw [e] at h; cases h
    | some d' =>
      rw [e] at h
      change (if UNITS.contains d' = true then some d' else none) = some d at h
      split at h
      · rename_i hc
        injection h with h
        subst h
        exact ⟨((numberOf_iff (by decide)).mp e).1, List.contains_iff_mem.mp hc⟩
      · cases h
theorem tab_nil_units : tab UNITS [] = none := by decide
theorem cMetre_eq (t : Bytes) : cMetre t = metreOf t := by
  unfold cMetre metreOf part
  cases e : cutAt 47 t with
  | none =>
    dsimp only
    rw [tab_nil_units]
    cases numberOf 1 32 t <;> rfl
  | some x =>
    obtain ⟨a, b⟩ := x
    dsimp only
    rw [tabU_num]
    cases numberOf 1 32 a with
    | none => rfl
    | some n =>
      cases numberOf 1 32 b with
      | none => rfl
      | some d =>
        show (match some n, (if UNITS.contains d = true then some d else none) with | some n, some d => some (n, d) | _, _ => none) = (if UNITS.contains d = true then some (n, d) else none)
        by_cases c : UNITS.contains d = true
        · rw [if_pos c, if_pos c]
        · rw [if_neg c, if_neg c]
theorem metreOf_iff {t : Bytes} {n d : Nat} : metreOf t = some (n, d) ↔ t = dec n ++ 47 :: dec d ∧ 1 ≤ n ∧ n ≤ 32 ∧ d ∈ UNITS := by
  rw [← cMetre_eq]
  unfold cMetre part
  constructor
  · intro h
    cases e : cutAt 47 t with
    | none =>
      rw [e] at h
      dsimp only at h
      rw [tab_nil_units] at h
      cases h2 : numberOf 1 32 t <;> rw [h2] at h <;> cases h
    | some x =>
      obtain ⟨a, b⟩ := x
      rw [e] at h
      dsimp only at h
      cases e1 : numberOf 1 32 a with
      | none => rw [e1] at h; cases h
      | some n' =>
        cases e2 : tab UNITS b with
        | none => rw [e1, e2] at h; cases h
        | some d' =>
          rw [e1, e2] at h
          injection h with h
          injection h with h1 h2
          subst h1; subst h2
          obtain ⟨q1, q2, q3⟩ := (numberOf_iff (by decide)).mp e1
          obtain ⟨q4, q5⟩ := tabU_iff.mp e2
          obtain ⟨q6, _⟩ := cutAt_iff.mp e
          subst q1; subst q4
          exact ⟨q6, q2, q3, q5⟩
  · rintro ⟨rfl, h1, h2, h3⟩
    have hn : 47 ∉ dec n := by
      have : ∀ m, m < 33 → 47 ∉ dec m := by decide
      exact this n (by omega)
    rw [cutAt_iff.mpr ⟨rfl, hn⟩]
    dsimp only
    rw [(numberOf_iff (by decide)).mpr ⟨rfl, h1, h2⟩, tabU_iff.mpr ⟨rfl, h3⟩]
theorem keyOf_neg (l : Bytes) : keyOf (45 :: l) = (numberOf 1 7 l).map fun (n : Nat) => -(n : Int) := by
  show Option.map (fun (n : Int) => -n) (do let a ← numberOf 1 7 l; pure (a : Int)) = _
  cases numberOf 1 7 l <;> rfl
theorem keyOf_pos {t : Bytes} (h : t.head? ≠ some 45) : keyOf t = (numberOf 1 7 t).map fun (n : Nat) => (n : Int) := by
  unfold keyOf
  split
  · exact absurd rfl h
  · cases numberOf 1 7 t <;> rfl
theorem keyOf_iff {t : Bytes} {z : Int} : keyOf t = some z ↔ ∃ n : Nat, 1 ≤ n ∧ n ≤ 7 ∧ ((t = 45 :: dec n ∧ z = -(n : Int)) ∨ (t = dec n ∧ z = (n : Int))) := by
  have hd : ∀ n, n < 8 → (dec n).head? ≠ some 45 := by decide
  constructor
  · intro h
    by_cases h0 : t.head? = some 45
    · cases t with
      | nil => cases h0
      | cons c l =>
        injection h0 with h0
        subst h0
        rw [keyOf_neg] at h
        obtain ⟨n, e1, e2⟩ := Option.map_eq_some_iff.mp h
        obtain ⟨q1, q2, q3⟩ := (numberOf_iff (by decide)).mp e1
        exact ⟨n, q2, q3, .inl ⟨by rw [q1], e2.symm⟩⟩
    · rw [keyOf_pos h0] at h
      obtain ⟨n, e1, e2⟩ := Option.map_eq_some_iff.mp h
      obtain ⟨q1, q2, q3⟩ := (numberOf_iff (by decide)).mp e1
      exact ⟨n, q2, q3, .inr ⟨q1, e2.symm⟩⟩
  · rintro ⟨n, h1, h2, h | h⟩
    · obtain ⟨rfl, rfl⟩ := h
      rw [keyOf_neg, (numberOf_iff (by decide)).mpr ⟨rfl, h1, h2⟩]; rfl
    · obtain ⟨rfl, rfl⟩ := h
      rw [keyOf_pos (hd n (by omega)), (numberOf_iff (by decide)).mpr ⟨rfl, h1, h2⟩]; rfl
/-- is_key -/
def cKey (t : Bytes) : Bool := (numberOf 1 7 (if t.head? = some 45 then t.drop 1 else t)).isSome
theorem cKey_eq (t : Bytes) : cKey t = (keyOf t).isSome := by
  unfold cKey
  by_cases h0 : t.head? = some 45
  · rw [if_pos h0]
    cases t with
    | nil => cases h0
    | cons c l =>
      injection h0 with h0
      subst h0
      rw [keyOf_neg, Option.isSome_map]; rfl
  · rw [if_neg h0, keyOf_pos h0, Option.isSome_map]
/-! ### tuplets -/
def cTup (t : Bytes) : Option (Nat × Nat) := if t.head? = some 123 then (match numberOf 2 9 (part 58 (t.drop 1)).1, numberOf 2 9 (part 58 (t.drop 1)).2.2 with
  | some n, some m => if n = m then none else some (n, m)
  | _, _ => none) else none
theorem num29_nil : numberOf 2 9 [] = none := by decide
theorem cTup_eq {t : Bytes} (h : t.head? = some 123) : cTup t = ratioOf (t.drop 1) := by
  unfold cTup ratioOf part
  rw [if_pos h]
  cases e : cutAt 58 (t.drop 1) with
  | none =>
    dsimp only
    rw [num29_nil]
    cases numberOf 2 9 (t.drop 1) <;> rfl
  | some x => rfl
theorem cTup_none {t : Bytes} (h : t.head? ≠ some 123) : cTup t = none := if_neg h
theorem cTup_iff {t : Bytes} {n m : Nat} : cTup t = some (n, m) ↔ t = 123 :: dec n ++ 58 :: dec m ∧ 2 ≤ n ∧ n ≤ 9 ∧ 2 ≤ m ∧ m ≤ 9 ∧ n ≠ m := by
  constructor
  · intro h
    by_cases h0 : t.head? = some 123
    · rw [cTup_eq h0] at h
      unfold ratioOf at h
      cases e : cutAt 58 (t.drop 1) with
      | none => rw [e] at h; cases h
      | some x =>
        obtain ⟨a, b⟩ := x
        rw [e] at h
        dsimp only at h
        cases e1 : numberOf 2 9 a with
        | none => rw [e1] at h; cases h
        | some n' =>
          cases e2 : numberOf 2 9 b with
          | none => rw [e1, e2] at h; cases h
          | some m' =>
            rw [e1, e2] at h
            dsimp only at h
            split at h
            · cases h
            · rename_i hne
              injection h with h
              injection h with h1 h2
              subst h1; subst h2
              obtain ⟨q1, q2, q3⟩ := (numberOf_iff (by decide)).mp e1
              obtain ⟨q4, q5, q6⟩ := (numberOf_iff (by decide)).mp e2
              obtain ⟨q7, _⟩ := cutAt_iff.mp e
              subst q1; subst q4
              refine ⟨?_, q2, q3, q5, q6, hne⟩
              cases t with
              | nil => cases h0
              | cons c l =>
                injection h0 with h0
                subst h0
                exact congrArg (123 :: ·) q7
    · rw [cTup_none h0] at h; cases h
  · rintro ⟨rfl, h1, h2, h3, h4, h5⟩
    rw [cTup_eq rfl]
    show ratioOf (dec n ++ 58 :: dec m) = _
    unfold ratioOf
    have hn : 58 ∉ dec n := by
      have : ∀ m, m < 10 → 58 ∉ dec m := by decide
      exact this n (by omega)
    rw [cutAt_iff.mpr ⟨rfl, hn⟩]
    dsimp only
    rw [(numberOf_iff (by decide)).mpr ⟨rfl, h1, h2⟩, (numberOf_iff (by decide)).mpr ⟨rfl, h3, h4⟩]
    dsimp only
    rw [if_neg h5]
end Sco
namespace Sco
open Sx62
/-! ### pitches -/
def PitchOk (p : Pitch) : Prop := p.letter < 7 ∧ p.sign < 5 ∧ p.octave < 10
theorem letters_find {c k : Nat} (h : LETTERS.findIdx? (fun x => x == c) = some k) : k < 7 ∧ LETTERS.getD k 99 = c := by
  obtain ⟨h1, h2, _⟩ := List.findIdx?_eq_some_iff_getElem.mp h
  refine ⟨h1, ?_⟩
  rw [List.getD_eq_getElem?_getD, List.getElem?_eq_getElem h1]
  exact eq_of_beq h2
theorem letters_back : ∀ k, k < 7 → LETTERS.findIdx? (fun x => x == LETTERS.getD k 99) = some k := by decide
theorem signOf_spec (l : Bytes) : (signOf l).1 < 5 ∧ l = signText (signOf l).1 ++ (signOf l).2 := by
  unfold signOf
  split <;> exact ⟨by dsimp only; decide, rfl⟩
theorem signOf_back {s o : Nat} (hs : s < 5) (ho : digit o = true) (r : Bytes) : signOf (signText s ++ o :: r) = (s, o :: r) := by
  have h := digit_iff.mp ho
  match s, hs with
  | 0, _ => rfl
  | 1, _ =>
    show signOf (98 :: o :: r) = _
    unfold signOf
    split <;> simp_all
  | 2, _ =>
    show signOf (o :: r) = _
    unfold signOf
    split <;> simp_all
  | 3, _ =>
    show signOf (35 :: o :: r) = _
    unfold signOf
    split <;> simp_all
  | 4, _ => rfl
theorem pitchOf_iff {t r : Bytes} {p : Pitch} : pitchOf t = some (p, r) ↔ t = pitchText p ++ r ∧ PitchOk p := by
  constructor
  · intro h
    cases t with
    | nil => cases h
    | cons c l =>
      unfold pitchOf at h
      cases e : LETTERS.findIdx? fun x => x == c with
      | none => simp only [e] at h; cases h
      | some k =>
        simp only [e] at h
        obtain ⟨k1, k2⟩ := letters_find e
        obtain ⟨s1, s2⟩ := signOf_spec l
        cases e2 : (signOf l).2 with
        | nil => rw [e2] at h; cases h
        | cons o r' =>
          rw [e2] at h s2
          dsimp only at h
          split at h
          · rename_i ho
            injection h with h
            injection h with h1 h2
            subst h1; subst h2
            have hd := digit_iff.mp ho
            refine ⟨?_, k1, s1, by show o - 48 < 10; omega⟩
            show c :: l = LETTERS.getD k 99 :: signText (signOf l).1 ++ dec (o - 48) ++ r'
            rw [k2, dec1 (by omega), show 48 + (o - 48) = o by omega]
            conv => lhs; rw [s2]
            simp
          · cases h
  · rintro ⟨rfl, h1, h2, h3⟩
    show pitchOf (LETTERS.getD p.letter 99 :: (signText p.sign ++ dec p.octave) ++ r) = _
    rw [dec1 h3]
    have ho : digit (48 + p.octave) = true := digit_iff.mpr ⟨by omega, by omega⟩
    unfold pitchOf
    rw [List.cons_append, List.append_assoc]
    dsimp only
    rw [letters_back _ h1]
    dsimp only
    rw [show signText p.sign ++ ([48 + p.octave] ++ r) = signText p.sign ++ (48 + p.octave) :: r from rfl, signOf_back h2 ho]
    dsimp only
    rw [if_pos ho, show 48 + p.octave - 48 = p.octave by omega]
def wholeP (w : Bytes) : Option Pitch := match pitchOf w with
  | some (p, []) => some p
  | _ => none
theorem wholeP_iff {w : Bytes} {p : Pitch} : wholeP w = some p ↔ w = pitchText p ∧ PitchOk p := by
  unfold wholeP
  constructor
  · intro h
    split at h
    · rename_i e
      injection h with h
      subst h
      have := pitchOf_iff.mp e
      rw [List.append_nil] at this
      exact this
    · cases h
  · rintro ⟨h1, h2⟩
    rw [pitchOf_iff.mpr ⟨by rw [List.append_nil]; exact h1, h2⟩]
def ALTS : List (Bytes × Nat) := [([98, 98], 0), ([98], 1), ([], 2), ([35], 3), ([35, 35], 4)]
def altOf (m : Bytes) : Option Nat := ALTS.lookup m
theorem altOf_iff {m : Bytes} {s : Nat} : altOf m = some s ↔ m = signText s ∧ s < 5 := by
  constructor
  · intro h
    unfold altOf ALTS at h
    simp only [List.lookup_cons] at h
    by_cases e0 : m = [98, 98]
    · subst e0; simp at h; subst h; exact ⟨rfl, by decide⟩
    · rw [beq_eq_false_iff_ne.mpr e0] at h
      by_cases e1 : m = [98]
      · subst e1; simp at h; subst h; exact ⟨rfl, by decide⟩
      · rw [beq_eq_false_iff_ne.mpr e1] at h
        by_cases e2 : m = []
        · subst e2; simp at h; subst h; exact ⟨rfl, by decide⟩
        · rw [beq_eq_false_iff_ne.mpr e2] at h
          by_cases e3 : m = [35]
          · subst e3; simp at h; subst h; exact ⟨rfl, by decide⟩
          · rw [beq_eq_false_iff_ne.mpr e3] at h
            by_cases e4 : m = [35, 35]
            · subst e4; simp at h; subst h; exact ⟨rfl, by decide⟩
            · rw [beq_eq_false_iff_ne.mpr e4] at h; simp at h
  · rintro ⟨rfl, h⟩
    have : ∀ s, s < 5 → altOf (signText s) = some s := by decide
    exact this s h
/-- pitch_of -/
def cPitch (w : Bytes) : Option Pitch := if w.length < 2 then none else if digit (w.getLastD 0) = false then none else
  match LETTERS.findIdx? (fun x => x == w.headD 0), altOf (w.drop 1).dropLast with
  | some k, some s => some ⟨k, s, w.getLastD 0 - 48⟩
  | _, _ => none
theorem split_word {w : Bytes} (h : ¬ w.length < 2) : ∃ c m o, w = c :: (m ++ [o]) := by
  match w, h with
  | c :: x :: r, _ => exact ⟨c, (x :: r).dropLast, (x :: r).getLast (by simp), by rw [List.dropLast_concat_getLast]⟩
  | [], h => simp at h
  | [_], h => simp at h
theorem cPitch_iff {w : Bytes} {p : Pitch} : cPitch w = some p ↔ w = pitchText p ∧ PitchOk p := by
  unfold cPitch
  by_cases h : w.length < 2
  · rw [if_pos h]
    constructor
    · intro q; cases q
    · rintro ⟨e, h1, h2, h3⟩
      rw [e] at h
      unfold pitchText at h
      rw [dec1 h3] at h
      simp at h
      omega
  · rw [if_neg h]
    obtain ⟨c, m, o, rfl⟩ := split_word h
    have e1 : (c :: (m ++ [o])).getLastD 0 = o := by rw [← List.cons_append, List.getLastD_eq_getLast?, List.getLast?_concat]; rfl
    have e2 : ((c :: (m ++ [o])).drop 1).dropLast = m := by simp
    have e3 : (c :: (m ++ [o])).headD 0 = c := rfl
    rw [e1, e2, e3]
    constructor
    · intro q
      split at q
      · cases q
      · rename_i ho
        have ho : digit o = true := by simpa using ho
        have hd := digit_iff.mp ho
        cases a1 : LETTERS.findIdx? (fun x => x == c) with
        | none => rw [a1] at q; cases q
        | some k =>
          cases a2 : altOf m with
          | none => rw [a1, a2] at q; cases q
          | some s =>
            rw [a1, a2] at q
            injection q with q
            subst q
            obtain ⟨k1, k2⟩ := letters_find a1
            obtain ⟨s1, s2⟩ := altOf_iff.mp a2
            refine ⟨?_, k1, s2, by show o - 48 < 10; omega⟩
            show c :: (m ++ [o]) = LETTERS.getD k 99 :: signText s ++ dec (o - 48)
            rw [k2, ← s1, dec1 (by omega), show 48 + (o - 48) = o by omega]
            simp
    · rintro ⟨e, h1, h2, h3⟩
      have e' : c :: (m ++ [o]) = LETTERS.getD p.letter 99 :: (signText p.sign ++ [48 + p.octave]) := by
        rw [e]; unfold pitchText; rw [dec1 h3]; rfl
      injection e' with q1 q2
      obtain ⟨q3, q4⟩ := List.append_inj' q2 rfl
      injection q4 with q4
      subst q4; subst q3; subst q1
      have ho : digit (48 + p.octave) = true := digit_iff.mpr ⟨by omega, by omega⟩
      rw [if_neg (by rw [ho]; decide), letters_back _ h1, altOf_iff.mpr ⟨rfl, h2⟩]
      show some (⟨p.letter, p.sign, 48 + p.octave - 48⟩ : Pitch) = some p
      rw [show 48 + p.octave - 48 = p.octave by omega]
theorem cPitch_eq (w : Bytes) : cPitch w = wholeP w := opt_ext fun p => by rw [cPitch_iff, wholeP_iff]
/-! ### lengths -/
theorem longOf_back : ∀ k ∈ KINDS, ∀ d, d < 3 → ∀ b : Bool, longOf (longText k d b) = some (k, d, b) := by decide
theorem dotsOf_spec (l : Bytes) : (dotsOf l).1 < 3 ∧ l = List.replicate (dotsOf l).1 46 ++ (dotsOf l).2 := by
  unfold dotsOf
  split <;> exact ⟨by dsimp only; decide, rfl⟩
theorem longOf_iff {t : Bytes} {k d : Nat} {b : Bool} : longOf t = some (k, d, b) ↔ t = longText k d b ∧ k ∈ KINDS ∧ d < 3 := by
  constructor
  · intro h
    unfold longOf at h
    split at h
    · rename_i l
      dsimp only at h
      cases e : numberOf 1 64 (l.takeWhile digit) with
      | none => rw [e] at h; cases h
      | some n =>
        rw [e] at h
        dsimp only at h
        obtain ⟨n1, _, _⟩ := (numberOf_iff (by decide)).mp e
        split at h
        · cases h
        · rename_i hk
          have hk : n ∈ KINDS := by simpa using hk
          obtain ⟨d1, d2⟩ := dotsOf_spec (l.drop (l.takeWhile digit).length)
          have el : l = l.takeWhile digit ++ l.drop (l.takeWhile digit).length := by
            conv => lhs; rw [← List.takeWhile_append_dropWhile (p := digit) (l := l)]
            congr 1
            have : ∀ (q : Nat → Bool) (l : List Nat), l.dropWhile q = l.drop (l.takeWhile q).length := by
              intro q l
              induction l with
              | nil => rfl
              | cons a l ih =>
                rw [List.dropWhile_cons, List.takeWhile_cons]
                cases q a with
                | true => simpa using ih
                | false => rfl
            exact this _ _
          split at h
          · rename_i hr
            injection h with h
            injection h with h1 h2
            injection h2 with h2 h3
            subst h1; subst h2; subst h3
            refine ⟨?_, hk, d1⟩
            show 47 :: l = 47 :: dec n ++ List.replicate _ 46 ++ []
            rw [hr, List.append_nil] at d2
            rw [List.append_nil, ← n1, List.cons_append, ← d2]
            exact congrArg _ el
          · split at h
            · rename_i hr
              injection h with h
              injection h with h1 h2
              injection h2 with h2 h3
              subst h1; subst h2; subst h3
              refine ⟨?_, hk, d1⟩
              show 47 :: l = 47 :: dec n ++ List.replicate _ 46 ++ [126]
              rw [hr] at d2
              rw [← n1, List.cons_append, List.cons_append, List.append_assoc, ← d2]
              exact congrArg _ el
            · cases h
    · cases h
  · rintro ⟨rfl, h1, h2⟩
    exact longOf_back k h1 d h2 b
/-- what is left without the dots at its end -/
def rst (l : Bytes) : Bytes := (l.reverse.dropWhile (· == 46)).reverse
theorem rst_spec (l : Bytes) : l = rst l ++ List.replicate (l.length - (rst l).length) 46 := by
  have key : ∀ r : Bytes, r = List.replicate (r.length - (r.dropWhile (· == 46)).length) 46 ++ r.dropWhile (· == 46) := by
    intro r
    induction r with
    | nil => rfl
    | cons a r ih =>
      rw [List.dropWhile_cons]
      by_cases e : a = 46
      · subst e
        simp only [beq_self_eq_true, if_true]
        have hl : (r.dropWhile (· == 46)).length ≤ r.length := by
          have := congrArg List.length ih
          simp at this; omega
        rw [List.length_cons, Nat.succ_sub hl, List.replicate_succ, List.cons_append]
        exact congrArg _ ih
      · rw [beq_eq_false_iff_ne.mpr e]
        simp
  have := congrArg List.reverse (key l.reverse)
  rw [List.reverse_reverse, List.reverse_append, List.reverse_replicate, List.length_reverse] at this
  unfold rst
  rw [List.length_reverse]
  exact this
/-- length_of, but for its units -/
def cLong (t : Bytes) : Option (Nat × Nat × Bool) := if t.head? = some 47 then
    (let tied := decide (t.getLast? = some 126)
    let dotted := if tied = true then (t.drop 1).dropLast else t.drop 1
    match tab KINDS (rst dotted) with
    | none => none
    | some k => if 2 < dotted.length - (rst dotted).length then none else some (k, dotted.length - (rst dotted).length, tied))
  else none
theorem cLong_back : ∀ k ∈ KINDS, ∀ d, d < 3 → ∀ b : Bool, cLong (longText k d b) = some (k, d, b) := by decide
theorem cLong_iff {t : Bytes} {k d : Nat} {b : Bool} : cLong t = some (k, d, b) ↔ t = longText k d b ∧ k ∈ KINDS ∧ d < 3 := by
  constructor
  · intro h
    unfold cLong at h
    split at h
    · rename_i h0
      obtain ⟨l, rfl⟩ : ∃ l, t = 47 :: l := by
        cases t with
        | nil => cases h0
        | cons a l => injection h0 with h0; subst h0; exact ⟨l, rfl⟩
      dsimp only at h
      rw [List.drop_succ_cons, List.drop_zero] at h
      generalize hD : (if decide (List.getLast? (47 :: l) = some 126) = true then l.dropLast else l) = D at h
      cases e : tab KINDS (rst D) with
      | none => rw [e] at h; cases h
      | some k' =>
        rw [e] at h
        dsimp only at h
        obtain ⟨e1, e2⟩ := tabK_iff.mp e
        split at h
        · cases h
        · rename_i hd
          injection h with h
          injection h with h1 h2
          injection h2 with h2 h3
          subst h1; subst h2; subst h3
          refine ⟨?_, e2, by omega⟩
          have eD := rst_spec D
          rw [e1] at eD
          unfold longText
          rw [e1]
          by_cases ht : List.getLast? (47 :: l) = some 126
          · rw [decide_eq_true ht] at hD ⊢
            rw [if_pos rfl] at hD ⊢
            have hl : l ≠ [] := by intro z; subst z; simp at ht
            have : l = D ++ [126] := by
              rw [← hD]
              have hg : l.getLast hl = 126 := by
                rw [List.getLast?_cons, List.getLast?_eq_some_getLast hl] at ht
                simpa using ht
              rw [← hg, List.dropLast_concat_getLast]
            rw [this]
            conv => lhs; rw [eD]
            simp
          · rw [decide_eq_false ht] at hD ⊢
            rw [if_neg (by decide)] at hD ⊢
            subst hD
            conv => lhs; rw [eD]
            simp
    · cases h
  · rintro ⟨rfl, h1, h2⟩
    exact cLong_back k h1 d h2 b
theorem cLong_eq (t : Bytes) : cLong t = longOf t := opt_ext fun ⟨k, d, b⟩ => by rw [cLong_iff, longOf_iff]
theorem longOf_head {t : Bytes} (h : t.head? ≠ some 47) : longOf t = none := by
  rw [← cLong_eq]; unfold cLong; rw [if_neg h]
/-! ### notes and rests -/
def cNote (t : Bytes) : Option (List Pitch × Nat × Nat × Bool) := match longOf ((part 47 t).2.1 ++ (part 47 t).2.2) with
  | none => none
  | some (k, d, tie) => if (part 47 t).1 = [114] then (if tie = true then none else some ([], k, d, false)) else match cPitch (part 47 t).1 with
    | none => none
    | some q => some ([q], k, d, tie)
theorem slash_pitch {p : Pitch} (h : PitchOk p) : 47 ∉ pitchText p := by
  unfold pitchText
  rw [dec1 h.2.2]
  have h1 : ∀ k, k < 7 → LETTERS.getD k 99 ≠ 47 := by decide
  have h2 : ∀ s, s < 5 → 47 ∉ signText s := by decide
  simp only [List.cons_append, List.mem_cons, List.mem_append, not_or]
  exact ⟨fun z => h1 _ h.1 z.symm, h2 _ h.2.1, by omega, by simp⟩
theorem letters_not : LETTERS.findIdx? (fun x => x == 47) = none ∧ LETTERS.findIdx? (fun x => x == 114) = none := by decide
theorem cPitch_r (a : Bytes) : cPitch (114 :: a) = none := by
  cases e : cPitch (114 :: a) with
  | none => rfl
  | some p =>
    obtain ⟨e1, e2, _⟩ := cPitch_iff.mp e
    injection e1 with e1 _
    have : ∀ k, k < 7 → 114 ≠ LETTERS.getD k 99 := by decide
    exact absurd e1 (this _ e2)
theorem noteOf_r (w : Nat) (l : Bytes) : noteOf ⟨w, 114 :: l⟩ = match longOf l with
    | some (k, d, false) => some (.note w [] k d false)
    | _ => none := rfl
theorem noteOf_p {w : Nat} {t : Bytes} (h : t.head? ≠ some 114) : noteOf ⟨w, t⟩ = match pitchOf t with
    | none => none
    | some x => (longOf x.2).map fun y => .note w [x.1] y.1 y.2.1 y.2.2 := by
  unfold noteOf
  dsimp only
  split
  · rename_i e; exact absurd (by first | rfl | (rw [e]; rfl)) h
  · rfl
theorem cNote_eq (w : Nat) (t : Bytes) : noteOf ⟨w, t⟩ = (cNote t).map fun x => .note w x.1 x.2.1 x.2.2.1 x.2.2.2 := by
  unfold cNote part
  cases e : cutAt 47 t with
  | none =>
    have hn := cutAt_none.mp e
    dsimp only
    rw [List.append_nil, longOf_head (t := []) (by simp)]
    show _ = none
    by_cases h0 : t.head? = some 114
    · cases t with
      | nil => cases h0
      | cons c l =>
        injection h0 with h0
        subst h0
        rw [noteOf_r, longOf_head]
        intro z
        cases l with
        | nil => cases z
        | cons a l => injection z with z; subst z; exact hn (by simp)
    · rw [noteOf_p h0]
      cases e2 : pitchOf t with
      | none => rfl
      | some x =>
        obtain ⟨p, r⟩ := x
        obtain ⟨e3, _⟩ := pitchOf_iff.mp e2
        dsimp only
        rw [longOf_head]
        · rfl
        · intro z
          cases r with
          | nil => cases z
          | cons a r => injection z with z; subst z; exact hn (by rw [e3]; simp)
  | some x =>
    obtain ⟨a, b⟩ := x
    obtain ⟨e1, hn⟩ := cutAt_iff.mp e
    dsimp only
    show _ = Option.map _ (match longOf (47 :: b) with
      | none => none
      | some (k, d, tie) => if a = [114] then (if tie = true then none else some ([], k, d, false)) else match cPitch a with
        | none => none
        | some q => some ([q], k, d, tie))
    cases a with
    | nil =>
      have : cPitch [] = none := rfl
      rw [this, e1, noteOf_p (by simp)]
      have : pitchOf ([] ++ 47 :: b) = none := by
        show pitchOf (47 :: b) = none
        simp only [pitchOf, letters_not.1]
      rw [this]
      cases longOf (47 :: b) <;> rfl
    | cons c a =>
      by_cases hc : c = 114
      · subst hc
        rw [e1, List.cons_append, noteOf_r]
        cases a with
        | nil =>
          rw [List.nil_append]
          cases longOf (47 :: b) with
          | none => rfl
          | some x =>
            obtain ⟨k, d, tie⟩ := x
            cases tie <;> rfl
        | cons x a =>
          rw [longOf_head (t := x :: a ++ 47 :: b), cPitch_r]
          · cases longOf (47 :: b) with
            | none => rfl
            | some y => simp
          · intro z
            injection z with z
            subst z
            exact hn (by simp)
      · rw [e1, noteOf_p (by simp; exact hc)]
        have hne : ¬ (c :: a = [114]) := by intro z; injection z with z _; exact hc z
        simp only [hne, if_false]
        cases e2 : cPitch (c :: a) with
        | some p =>
          obtain ⟨e3, e4⟩ := cPitch_iff.mp e2
          rw [pitchOf_iff.mpr ⟨by rw [e3], e4⟩]
          dsimp only
          cases longOf (47 :: b) <;> rfl
        | none =>
          have : (match longOf (47 :: b) with | none => none | some (k, d, tie) => (none : Option (List Pitch × Nat × Nat × Bool))) = none := by
            cases longOf (47 :: b) <;> rfl
          rw [this]
          show _ = none
          cases e5 : pitchOf (c :: a ++ 47 :: b) with
          | none => rfl
          | some x =>
            obtain ⟨p, r⟩ := x
            obtain ⟨e6, e7⟩ := pitchOf_iff.mp e5
            dsimp only
            rw [longOf_head]
            · rfl
            · intro z
              cases r with
              | nil => cases z
              | cons y r =>
                injection z with z
                subst z
                have := cutAt_iff.mpr ⟨e6, slash_pitch e7⟩
                rw [cutAt_iff.mpr ⟨rfl, hn⟩] at this
                injection this with this
                injection this with q1 q2
                rw [cPitch_iff.mpr ⟨q1, e7⟩] at e2
                cases e2
theorem cNote_text {t : Bytes} {x : List Pitch × Nat × Nat × Bool} (h : cNote t = some x) : t = (match x.1 with | [] => [114] | p :: _ => pitchText p) ++ longText x.2.1 x.2.2.1 x.2.2.2 ∧ x.2.1 ∈ KINDS ∧ x.2.2.1 < 3 ∧ ((x.1 = [] ∧ x.2.2.2 = false) ∨ ∃ p, x.1 = [p] ∧ PitchOk p) := by
  unfold cNote part at h
  cases e : cutAt 47 t with
  | none =>
    rw [e] at h
    dsimp only at h
    rw [List.append_nil, longOf_head (t := []) (by simp)] at h
    cases h
  | some y =>
    obtain ⟨a, b⟩ := y
    rw [e] at h
    dsimp only at h
    obtain ⟨e1, hn⟩ := cutAt_iff.mp e
    change (match longOf (47 :: b) with
      | none => none
      | some (k, d, tie) => if a = [114] then (if tie = true then none else some ([], k, d, false)) else match cPitch a with
        | none => none
        | some q => some ([q], k, d, tie)) = some x at h
    cases e2 : longOf (47 :: b) with
    | none => rw [e2] at h; cases h
    | some y =>
      obtain ⟨k, d, tie⟩ := y
      rw [e2] at h
      dsimp only at h
      obtain ⟨e3, e4, e5⟩ := longOf_iff.mp e2
      split at h
      · rename_i ha
        subst ha
        split at h
        · cases h
        · rename_i ht
          have ht : tie = false := by simpa using ht
          injection h with h
          subst h; subst ht
          exact ⟨by rw [e1, e3], e4, e5, .inl ⟨rfl, rfl⟩⟩
      · cases e6 : cPitch a with
        | none => rw [e6] at h; cases h
        | some p =>
          rw [e6] at h
          injection h with h
          subst h
          obtain ⟨e7, e8⟩ := cPitch_iff.mp e6
          exact ⟨by rw [e1, e3, e7], e4, e5, .inr ⟨p, rfl, e8⟩⟩
end Sco
namespace Sco
open Sx62
/-! ### the words of a text -/
def SIG : List Nat := [97, 98, 99, 100, 101, 102, 103, 104, 105, 106, 107, 108, 109, 110, 111, 112, 113, 114, 115, 116, 117, 118, 119, 120, 121, 122, 48, 49, 50, 51, 52, 53, 54, 55, 56, 57, 47, 46, 126, 35, 91, 93, 123, 125, 58, 124, 45]
def cl (c : Nat) : Nat := if c ∈ SIG then c else 63
def cw (w : Word) : Word := ⟨w.place, w.text.map cl⟩
def wStep (st : List Word × Bytes) (i c : Nat) : List Word × Bytes := if c ≠ 32 ∧ c ≠ 10 then (st.1, st.2 ++ [cl c]) else if st.2 ≠ [] then (st.1 ++ [⟨i - st.2.length, st.2⟩], []) else st
def wAt (l : List Nat) : Nat → List Word × Bytes
  | 0 => ([], [])
  | i + 1 => match l[i]? with
    | some c => wStep (wAt l i) i c
    | none => wAt l i
theorem wAt_succ {l : List Nat} {i c : Nat} (h : l[i]? = some c) : wAt l (i + 1) = wStep (wAt l i) i c := by
  show (match l[i]? with | some c => wStep (wAt l i) i c | none => wAt l i) = _
  rw [h]
theorem wordsFrom_ne {i s c : Nat} {w t : Bytes} (h : c ≠ 32 ∧ c ≠ 10) : wordsFrom i s w (c :: t) = wordsFrom (i + 1) s (c :: w) t := by
  show (if c = 32 ∨ c = 10 then _ else _) = _
  rw [if_neg (by omega)]
theorem wordsFrom_eq {i s c : Nat} {w t : Bytes} (h : ¬ (c ≠ 32 ∧ c ≠ 10)) : wordsFrom i s w (c :: t) = (if w = [] then [] else [⟨s, w.reverse⟩]) ++ wordsFrom (i + 1) (i + 1) [] t := by
  show (if c = 32 ∨ c = 10 then _ else _) = _
  rw [if_pos (by omega)]
theorem wAt_inv (t : Bytes) : ∀ i, i ≤ t.length → ∃ wr : Bytes, (wAt (t ++ [32]) i).2 = wr.reverse.map cl ∧ wr.length ≤ i ∧ (words t).map cw = (wAt (t ++ [32]) i).1 ++ (wordsFrom i (i - wr.length) wr (t.drop i)).map cw
  | 0, _ => ⟨[], rfl, Nat.le_refl _, rfl⟩
  | i + 1, h => by
    obtain ⟨wr, h1, h2, h3⟩ := wAt_inv t i (by omega)
    have hlt : i < t.length := h
    have hg : (t ++ [32])[i]? = some t[i] := by
      rw [List.getElem?_append_left hlt, List.getElem?_eq_getElem hlt]
    have hdr : t.drop i = t[i] :: t.drop (i + 1) := List.drop_eq_getElem_cons hlt
    rw [wAt_succ hg]
    rw [hdr] at h3
    unfold wStep
    by_cases c : t[i] ≠ 32 ∧ t[i] ≠ 10
    · rw [if_pos c]
      rw [wordsFrom_ne c] at h3
      refine ⟨t[i] :: wr, ?_, by rw [List.length_cons]; omega, ?_⟩
      · show (wAt (t ++ [32]) i).2 ++ [cl t[i]] = _
        rw [h1, List.reverse_cons, List.map_append]; rfl
      · rw [List.length_cons, show i + 1 - (wr.length + 1) = i - wr.length by omega]
        exact h3
    · rw [if_neg c]
      rw [wordsFrom_eq c] at h3
      refine ⟨[], ?_, Nat.zero_le _, ?_⟩
      · split
        · rfl
        · rename_i hn
          show (wAt (t ++ [32]) i).2 = []
          exact Decidable.not_not.mp hn
      · have e : wr = [] ↔ (wAt (t ++ [32]) i).2 = [] := by rw [h1]; simp
        by_cases hw : wr = []
        · rw [if_neg (by rw [Decidable.not_not]; exact e.mp hw)]
          rw [if_pos hw, List.nil_append] at h3
          exact h3
        · rw [if_pos (fun z => hw (e.mpr z))]
          rw [if_neg hw, List.map_append, ← List.append_assoc] at h3
          rw [h3]
          show _ = ((wAt (t ++ [32]) i).1 ++ [⟨i - (wAt (t ++ [32]) i).2.length, (wAt (t ++ [32]) i).2⟩]) ++ _
          rw [h1]
          simp [cw]
theorem wAt_all (t : Bytes) : wAt (t ++ [32]) (t.length + 1) = ((words t).map cw, []) := by
  obtain ⟨wr, h1, h2, h3⟩ := wAt_inv t t.length (Nat.le_refl _)
  have hg : (t ++ [32])[t.length]? = some 32 := by simp
  rw [wAt_succ hg]
  rw [List.drop_length] at h3
  unfold wStep
  rw [if_neg (by decide)]
  have e : wr = [] ↔ (wAt (t ++ [32]) t.length).2 = [] := by rw [h1]; simp
  by_cases hw : wr = []
  · rw [if_neg (by rw [Decidable.not_not]; exact e.mp hw)]
    have : wordsFrom t.length (t.length - wr.length) wr [] = [] := by
      show (if wr = [] then [] else _) = _
      rw [if_pos hw]
    rw [this] at h3
    rw [h3]
    exact Prod.ext (by simp) (e.mp hw)
  · rw [if_pos (fun z => hw (e.mpr z))]
    have : wordsFrom t.length (t.length - wr.length) wr [] = [⟨t.length - wr.length, wr.reverse⟩] := by
      show (if wr = [] then [] else _) = _
      rw [if_neg hw]
    rw [this] at h3
    rw [h3, h1]
    simp [cw]
/-- a word of a text is not empty -/
theorem wordsFrom_nonempty : ∀ (t : Bytes) (i s : Nat) (w : Bytes), ∀ x ∈ wordsFrom i s w t, x.text ≠ []
  | [], i, s, w, x, h => by
    change x ∈ (if w = [] then [] else [⟨s, w.reverse⟩]) at h
    split at h
    · cases h
    · rename_i hn
      rw [List.mem_singleton.mp h]
      simpa using hn
  | c :: t, i, s, w, x, h => by
    by_cases hc : c ≠ 32 ∧ c ≠ 10
    · rw [wordsFrom_ne hc] at h
      exact wordsFrom_nonempty t _ _ _ x h
    · rw [wordsFrom_eq hc] at h
      rcases List.mem_append.mp h with h | h
      · split at h
        · cases h
        · rename_i hn
          rw [List.mem_singleton.mp h]
          simpa using hn
      · exact wordsFrom_nonempty t _ _ _ x h
theorem wordsFrom_count : ∀ (t : Bytes) (i s : Nat) (w : Bytes), (wordsFrom i s w t).length ≤ t.length + 1
  | [], i, s, w => by
    show (if w = [] then [] else [(⟨s, w.reverse⟩ : Word)]).length ≤ _
    split <;> simp
  | c :: t, i, s, w => by
    by_cases hc : c ≠ 32 ∧ c ≠ 10
    · rw [wordsFrom_ne hc]
      have := wordsFrom_count t (i + 1) s (c :: w)
      rw [List.length_cons]; omega
    · rw [wordsFrom_eq hc, List.length_append]
      have := wordsFrom_count t (i + 1) (i + 1) []
      have h2 : (if w = [] then [] else [(⟨s, w.reverse⟩ : Word)]).length ≤ 1 := by split <;> simp
      rw [List.length_cons]; omega
theorem cl_ascii (c : Nat) : cl c < 128 := by
  unfold cl
  split
  · have : ∀ x ∈ SIG, x < 128 := by decide
    rename_i h
    exact this c h
  · decide
/-! ### other signs are no signs -/
def Clean (t : Bytes) : Prop := ∀ c ∈ t, c ∈ SIG
theorem cl_in {c : Nat} (h : c ∈ SIG) : cl c = c := if_pos h
theorem cl_clean {c : Nat} (h : cl c ∈ SIG) : cl c = c := by
  unfold cl at h ⊢
  split at h
  · rename_i q; rw [if_pos q]
  · exact absurd h (by decide)
theorem map_clean : ∀ {t : Bytes}, Clean t → t.map cl = t
  | [], _ => rfl
  | c :: t, h => by
    rw [List.map_cons, cl_in (h c List.mem_cons_self), map_clean fun x hx => h x (List.mem_cons_of_mem _ hx)]
theorem clean_map : ∀ {t : Bytes}, Clean (t.map cl) → t.map cl = t
  | [], _ => rfl
  | c :: t, h => by
    rw [List.map_cons, cl_clean (h _ List.mem_cons_self), clean_map fun x hx => h x (by rw [List.map_cons]; exact List.mem_cons_of_mem _ hx)]
theorem fun_clean {α : Type} {f : Bytes → Option α} (h : ∀ t x, f t = some x → Clean t) (t : Bytes) : f (t.map cl) = f t := by
  cases e : f t with
  | some x => rw [map_clean (h t x e), e]
  | none =>
    cases e2 : f (t.map cl) with
    | none => rfl
    | some x => rw [clean_map (h _ x e2), e] at e2; cases e2
theorem eq_clean {l : Bytes} (h : Clean l) (t : Bytes) : t.map cl = l ↔ t = l := by
  constructor
  · intro e
    rw [← e] at h
    rw [← clean_map h]; exact e
  · intro e
    subst e
    exact map_clean h
theorem clean_dec {n : Nat} (h : n < 1000) : Clean (dec n) := by
  have key : ∀ d, d < 10 → 48 + d ∈ SIG := by decide
  intro c hc
  by_cases h1 : n < 10
  · rw [dec1 h1] at hc
    rw [List.mem_singleton.mp hc]; exact key n h1
  · by_cases h2 : n < 100
    · rw [dec2 (by omega) h2] at hc
      simp only [List.mem_cons, List.not_mem_nil, or_false] at hc
      rcases hc with rfl | rfl
      · exact key _ (by omega)
      · exact key _ (by omega)
    · rw [dec3 (by omega) h] at hc
      simp only [List.mem_cons, List.not_mem_nil, or_false] at hc
      rcases hc with rfl | rfl | rfl
      · exact key _ (by omega)
      · exact key _ (by omega)
      · exact key _ (by omega)
theorem Clean.append {a b : Bytes} (ha : Clean a) (hb : Clean b) : Clean (a ++ b) := fun c hc => by
  rcases List.mem_append.mp hc with h | h
  · exact ha c h
  · exact hb c h
theorem Clean.cons {c : Nat} {b : Bytes} (hc : c ∈ SIG) (hb : Clean b) : Clean (c :: b) := fun x hx => by
  rcases List.mem_cons.mp hx with h | h
  · rw [h]; exact hc
  · exact hb x h
theorem Clean.nil : Clean [] := fun c hc => by cases hc
theorem clean_num {lo hi : Nat} (hh : hi ≤ 999) (t : Bytes) (n : Nat) (h : numberOf lo hi t = some n) : Clean t := by
  obtain ⟨e, _, h2⟩ := (numberOf_iff hh).mp h
  rw [e]; exact clean_dec (by omega)
theorem clean_metre (t : Bytes) (x : Nat × Nat) (h : metreOf t = some x) : Clean t := by
  obtain ⟨n, d⟩ := x
  obtain ⟨e, h1, h2, h3⟩ := metreOf_iff.mp h
  have := (units_le d h3).2
  rw [e]
  exact (clean_dec (by omega)).append ((clean_dec (by omega)).cons (by decide))
theorem clean_key (t : Bytes) (z : Int) (h : keyOf t = some z) : Clean t := by
  obtain ⟨n, h1, h2, h | h⟩ := keyOf_iff.mp h
  · rw [h.1]; exact (clean_dec (by omega)).cons (by decide)
  · rw [h.1]; exact clean_dec (by omega)
theorem clean_tup (t : Bytes) (x : Nat × Nat) (h : cTup t = some x) : Clean t := by
  obtain ⟨n, m⟩ := x
  obtain ⟨e, h1, h2, h3, h4, _⟩ := cTup_iff.mp h
  rw [e]
  exact ((clean_dec (by omega)).cons (by decide)).append ((clean_dec (by omega)).cons (by decide))
theorem clean_pitch {p : Pitch} (h : PitchOk p) : Clean (pitchText p) := by
  unfold pitchText
  have h1 : ∀ k, k < 7 → LETTERS.getD k 99 ∈ SIG := by decide
  have h2 : ∀ s, s < 5 → ∀ c ∈ signText s, c ∈ SIG := by decide
  exact Clean.append (Clean.cons (h1 _ h.1) (fun c hc => h2 _ h.2.1 c hc)) (clean_dec (by have := h.2.2; omega))
theorem clean_long {k d : Nat} {b : Bool} (hk : k ∈ KINDS) (hd : d < 3) : Clean (longText k d b) := by
  have : ∀ k ∈ KINDS, ∀ d, d < 3 → ∀ b : Bool, ∀ c ∈ longText k d b, c ∈ SIG := by decide
  exact fun c hc => this k hk d hd b c hc
theorem clean_longOf (t : Bytes) (x : Nat × Nat × Bool) (h : longOf t = some x) : Clean t := by
  obtain ⟨k, d, b⟩ := x
  obtain ⟨e, h1, h2⟩ := longOf_iff.mp h
  rw [e]; exact clean_long h1 h2
theorem clean_whole (t : Bytes) (p : Pitch) (h : wholeP t = some p) : Clean t := by
  obtain ⟨e, h1⟩ := wholeP_iff.mp h
  rw [e]; exact clean_pitch h1
theorem clean_note (t : Bytes) (x : List Pitch × Nat × Nat × Bool) (h : cNote t = some x) : Clean t := by
  obtain ⟨e, h1, h2, h3⟩ := cNote_text h
  rw [e]
  refine Clean.append ?_ (clean_long h1 h2)
  rcases h3 with ⟨h3, _⟩ | ⟨p, h3, h4⟩
  · rw [h3]; exact Clean.nil.cons (by decide)
  · rw [h3]; exact clean_pitch h4
theorem isName_clean {t : Bytes} (h : isName t = true) : Clean t := by
  unfold isName at h
  simp only [Bool.and_eq_true, List.all_eq_true] at h
  intro c hc
  have := h.2.2 c hc
  unfold small at this
  have key : ∀ c, c < 123 → 97 ≤ c → c ∈ SIG := by decide
  simp at this
  exact key c (by omega) (by omega)
theorem isName_cl (t : Bytes) : isName (t.map cl) = isName t := by
  have := fun_clean (f := fun t => if isName t = true then some () else none) (fun t x h => by
    split at h
    · rename_i q; exact isName_clean q
    · cases h) t
  by_cases h : isName t = true
  · rw [if_pos h] at this
    split at this
    · rename_i q; rw [q, h]
    · cases this
  · rw [if_neg h] at this
    split at this
    · cases this
    · rename_i q; simp at h q; rw [h, q]
end Sco
namespace Sco
open Sx62
/-! ### the specification's readers, unfolded -/
theorem chord_nil {e pl : Nat} {ps : List Pitch} : chordFrom e pl ps [] = bad e := by
  unfold chordFrom; rfl
theorem head_cons {t : Bytes} {c : Nat} (h : t.head? = some c) : t = c :: t.drop 1 := by
  cases t with
  | nil => cases h
  | cons a l => injection h with h; subst h; rfl
theorem chord_end {e pl : Nat} {ps : List Pitch} {w : Word} {l : List Word} (h : w.text.head? = some 93) : chordFrom e pl ps (w :: l) = match longOf (w.text.drop 1) with
    | none => bad w.place
    | some y => if ps.length < 2 then bad w.place else .ok (.note pl ps y.1 y.2.1 y.2.2, l) := by
  obtain ⟨p, t⟩ := w
  dsimp only at h ⊢
  rw [head_cons h]
  unfold chordFrom
  rfl
theorem chord_pitch {e pl : Nat} {ps : List Pitch} {w : Word} {l : List Word} (h : w.text.head? ≠ some 93) : chordFrom e pl ps (w :: l) = match wholeP w.text with
    | some p => if ps.contains p = true ∨ 6 ≤ ps.length then bad w.place else chordFrom e pl (putPitch p ps) l
    | none => bad w.place := by
  obtain ⟨pw, t⟩ := w
  dsimp only at h ⊢
  rw [chordFrom.eq_def]
  dsimp only
  split
  · exact absurd rfl h
  · unfold wholeP
    cases e1 : pitchOf t with
    | none => rfl
    | some x =>
      obtain ⟨p, r⟩ := x
      cases r <;> rfl
theorem note_head {t : Bytes} {c : Nat} (h : t.head? = some c) (hc : c = 123 ∨ c = 124 ∨ c = 125 ∨ c = 91) : cNote t = none := by
  cases e : cNote t with
  | none => rfl
  | some x =>
    obtain ⟨e1, _, _, e4⟩ := cNote_text e
    rcases e4 with ⟨q, _⟩ | ⟨p, q, ok⟩
    · rw [q] at e1
      rw [e1] at h
      injection h with h
      subst h
      exact absurd hc (by decide)
    · rw [q] at e1
      rw [e1] at h
      unfold pitchText at h
      injection h with h
      have : ∀ k, k < 7 → ∀ c, LETTERS.getD k 99 = c → ¬ (c = 123 ∨ c = 124 ∨ c = 125 ∨ c = 91) := by
        intro k hk c hc
        subst hc
        revert k
        decide
      exact absurd hc (this _ ok.1 _ h)
theorem pieces_zero {e d : Nat} {acc : List Piece} {l : List Word} : piecesFrom e 0 d acc l = bad e := by
  unfold piecesFrom; rfl
theorem pieces_nil {e f d : Nat} {acc : List Piece} : piecesFrom e f d acc [] = bad e := by
  cases f <;> (unfold piecesFrom; rfl)
theorem pieces_cons {e f d : Nat} {acc : List Piece} {w : Word} {l : List Word} : piecesFrom e (f + 1) d acc (w :: l) =
    if w.text = [124] then (if d = 0 ∧ acc ≠ [] then .ok (acc.reverse, w.place, l) else bad w.place)
    else if w.text = [125] then (if 0 < d ∧ afterOpen acc = false then piecesFrom e f (d - 1) (.closes :: acc) l else bad w.place)
    else match cTup w.text with
      | some x => if 3 ≤ d then .error ⟨3, w.place⟩ else piecesFrom e f (d + 1) (.opens x.1 x.2 :: acc) l
      | none => if w.text = [91] then (match chordFrom e w.place [] l with
          | .error x => .error x
          | .ok x => piecesFrom e f d (x.1 :: acc) x.2)
        else match cNote w.text with
          | none => bad w.place
          | some x => piecesFrom e f d (.note w.place x.1 x.2.1 x.2.2.1 x.2.2.2 :: acc) l := by
  conv => lhs; unfold piecesFrom
  by_cases h1 : w.text = [124]
  · rw [if_pos h1, if_pos h1]
  · rw [if_neg h1, if_neg h1]
    by_cases h2 : w.text = [125]
    · rw [if_pos h2, if_pos h2]
    · rw [if_neg h2, if_neg h2]
      by_cases h3 : w.text.head? = some 123
      · rw [if_pos h3, cTup_eq h3]
        cases ratioOf (w.text.drop 1) with
        | some x => rfl
        | none =>
          dsimp only
          rw [if_neg (by intro z; rw [z] at h3; revert h3; decide), note_head h3 (.inl rfl)]
      · rw [if_neg h3, cTup_none h3]
        dsimp only
        by_cases h4 : w.text = [91]
        · rw [if_pos h4, if_pos h4]; rfl
        · rw [if_neg h4, if_neg h4]
          obtain ⟨p, t⟩ := w
          rw [cNote_eq]
          dsimp only
          cases cNote t <;> rfl
theorem bars_nil {e f : Nat} {acc : List Bar} : barsFrom e f acc [] = bad e := by
  cases f <;> (unfold barsFrom; rfl)
theorem bars_cons {e f : Nat} {acc : List Bar} {w : Word} {l : List Word} : barsFrom e (f + 1) acc (w :: l) =
    if w.text = END then (if acc = [] then bad w.place else .ok (acc.reverse, w.place, l))
    else match piecesFrom e ((w :: l).length + 1) 0 [] (if w.text = SHORT then l else w :: l) with
      | .error x => .error x
      | .ok x => barsFrom e f (⟨x.2.1, w.text == SHORT, x.1⟩ :: acc) x.2.2 := by
  conv => lhs; unfold barsFrom
  rfl
theorem voices_nil {e f : Nat} {acc : List Voice} : voicesFrom e (f + 1) acc [] = if acc = [] then bad e else .ok acc.reverse := by
  conv => lhs; unfold voicesFrom
theorem voices_one {e f : Nat} {acc : List Voice} {w : Word} : voicesFrom e (f + 1) acc [w] = if w.text ≠ VOICE then bad w.place else bad e := by
  conv => lhs; unfold voicesFrom
theorem voices_cons {e f : Nat} {acc : List Voice} {w n : Word} {l : List Word} : voicesFrom e (f + 1) acc (w :: n :: l) =
    if w.text ≠ VOICE then bad w.place else if isName n.text = false then bad n.place
    else if 4 ≤ acc.length ∨ (acc.any fun v => v.name == n.text) = true then .error ⟨4, n.place⟩
    else match barsFrom e (l.length + 1) [] l with
      | .error x => .error x
      | .ok x => voicesFrom e f (⟨n.text, x.1, x.2.1⟩ :: acc) x.2.2 := by
  conv => lhs; unfold voicesFrom
  rfl
/-! ### enough is enough: more of the first number changes nothing -/
theorem chord_less : ∀ {l : List Word} {e pl : Nat} {ps : List Pitch} {x : Piece × List Word}, chordFrom e pl ps l = .ok x → x.2.length < l.length
  | [], e, pl, ps, x, h => by rw [chord_nil] at h; cases h
  | w :: l, e, pl, ps, x, h => by
    by_cases h1 : w.text.head? = some 93
    · rw [chord_end h1] at h
      split at h
      · cases h
      · split at h
        · cases h
        · injection h with h; subst h; exact Nat.lt_succ_self _
    · rw [chord_pitch h1] at h
      split at h
      · split at h
        · cases h
        · exact Nat.lt_succ_of_lt (chord_less h)
      · cases h
theorem pieces_less : ∀ {f e d : Nat} {acc : List Piece} {l : List Word} {x : List Piece × Nat × List Word}, piecesFrom e f d acc l = .ok x → x.2.2.length < l.length
  | 0, e, d, acc, l, x, h => by rw [pieces_zero] at h; cases h
  | f + 1, e, d, acc, [], x, h => by rw [pieces_nil] at h; cases h
  | f + 1, e, d, acc, w :: l, x, h => by
    rw [pieces_cons] at h
    split at h
    · split at h
      · injection h with h; subst h; exact Nat.lt_succ_self _
      · cases h
    · split at h
      · split at h
        · exact Nat.lt_succ_of_lt (pieces_less h)
        · cases h
      · split at h
        · split at h
          · cases h
          · exact Nat.lt_succ_of_lt (pieces_less h)
        · split at h
          · split at h
            · cases h
            · rename_i hc
              have := chord_less hc
              have := pieces_less h
              rw [List.length_cons]; omega
          · split at h
            · cases h
            · exact Nat.lt_succ_of_lt (pieces_less h)
theorem pieces_fuel : ∀ {f g e d : Nat} {acc : List Piece} {l : List Word}, l.length < f → l.length < g → piecesFrom e f d acc l = piecesFrom e g d acc l
  | f, g, e, d, acc, [], _, _ => by rw [pieces_nil, pieces_nil]
  | 0, g, e, d, acc, w :: l, h, _ => by simp at h
  | f + 1, 0, e, d, acc, w :: l, _, h => by simp at h
  | f + 1, g + 1, e, d, acc, w :: l, h1, h2 => by
    rw [List.length_cons] at h1 h2
    rw [pieces_cons, pieces_cons]
    have ih : ∀ d acc (r : List Word), r.length ≤ l.length → piecesFrom e f d acc r = piecesFrom e g d acc r := fun d acc r hr => pieces_fuel (by omega) (by omega)
    rw [ih _ _ _ (Nat.le_refl _)]
    cases cTup w.text with
    | some x => dsimp only; rw [ih _ _ _ (Nat.le_refl _)]
    | none =>
      dsimp only
      cases e2 : chordFrom e w.place [] l with
      | error x =>
        cases cNote w.text with
        | none => rfl
        | some x => dsimp only; rw [ih _ _ _ (Nat.le_refl _)]
      | ok x =>
        have := chord_less e2
        dsimp only
        rw [ih _ _ x.2 (by omega)]
        cases cNote w.text with
        | none => rfl
        | some x => dsimp only; rw [ih _ _ _ (Nat.le_refl _)]
theorem bars_fuel : ∀ {f g e : Nat} {acc : List Bar} {l : List Word}, l.length < f → l.length < g → barsFrom e f acc l = barsFrom e g acc l
  | f, g, e, acc, [], _, _ => by rw [bars_nil, bars_nil]
  | 0, g, e, acc, w :: l, h, _ => by simp at h
  | f + 1, 0, e, acc, w :: l, _, h => by simp at h
  | f + 1, g + 1, e, acc, w :: l, h1, h2 => by
    rw [List.length_cons] at h1 h2
    rw [bars_cons, bars_cons]
    cases e2 : piecesFrom e ((w :: l).length + 1) 0 [] (if w.text = SHORT then l else w :: l) with
    | error x => rfl
    | ok x =>
      have := pieces_less e2
      have h3 : x.2.2.length < l.length + 1 := by
        split at this
        · omega
        · exact this
      dsimp only
      rw [bars_fuel (f := f) (g := g) (by omega) (by omega)]
theorem bars_less : ∀ {f e : Nat} {acc : List Bar} {l : List Word} {x : List Bar × Nat × List Word}, barsFrom e f acc l = .ok x → x.2.2.length < l.length
  | 0, e, acc, l, x, h => by unfold barsFrom at h; cases h
  | f + 1, e, acc, [], x, h => by rw [bars_nil] at h; cases h
  | f + 1, e, acc, w :: l, x, h => by
    rw [bars_cons] at h
    split at h
    · split at h
      · cases h
      · injection h with h; subst h; exact Nat.lt_succ_self _
    · split at h
      · cases h
      · rename_i y hy
        have h1 := pieces_less hy
        have h2 := bars_less h
        rw [List.length_cons]
        split at h1
        · omega
        · rw [List.length_cons] at h1; omega
/-- the reading of one bar, the first word perhaps "short" -/
def readBar (e : Nat) : List Word → R (Bar × List Word)
  | [] => bad e
  | w :: l => match piecesFrom e (l.length + 2) 0 [] (if w.text = SHORT then l else w :: l) with
    | .error x => .error x
    | .ok x => .ok (⟨x.2.1, w.text == SHORT, x.1⟩, x.2.2)
theorem readBar_cons (e : Nat) (w : Word) (l : List Word) : readBar e (w :: l) = match piecesFrom e (l.length + 2) 0 [] (if w.text = SHORT then l else w :: l) with
    | .error x => .error x
    | .ok x => .ok (⟨x.2.1, w.text == SHORT, x.1⟩, x.2.2) := rfl
/-- what is read of a voice from its bars on, at least one wanted -/
theorem bars_first {e f : Nat} {l : List Word} (hf : l.length < f) : barsFrom e f [] l = match readBar e l with
    | .error x => .error x
    | .ok x => barsFrom e f [x.1] x.2 := by
  cases l with
  | nil => rw [bars_nil]; rfl
  | cons w l =>
    obtain ⟨g, rfl⟩ : ∃ g, f = g + 1 := ⟨f - 1, by rw [List.length_cons] at hf; omega⟩
    rw [bars_cons, readBar_cons]
    by_cases h : w.text = END
    · rw [if_pos h, if_pos rfl]
      have hs : ¬ w.text = SHORT := by rw [h]; decide
      rw [if_neg hs]
      have : piecesFrom e (l.length + 2) 0 [] (w :: l) = bad w.place := by
        rw [pieces_cons, if_neg (by rw [h]; decide), if_neg (by rw [h]; decide)]
        have c1 : cTup w.text = none := by rw [h]; decide
        have c2 : cNote w.text = none := by rw [h]; decide
        rw [c1]
        dsimp only
        rw [if_neg (by rw [h]; decide), c2]
      rw [this]; rfl
    · rw [if_neg h]
      show (match piecesFrom e (l.length + 2) 0 [] (if w.text = SHORT then l else w :: l) with
        | .error x => Except.error x
        | .ok x => barsFrom e g [⟨x.2.1, w.text == SHORT, x.1⟩] x.2.2) = _
      cases e2 : piecesFrom e (l.length + 2) 0 [] (if w.text = SHORT then l else w :: l) with
      | error x => rfl
      | ok x =>
        have h1 := pieces_less e2
        have h3 : x.2.2.length < l.length + 1 := by
          split at h1
          · omega
          · exact h1
        rw [List.length_cons] at hf
        dsimp only
        exact bars_fuel (by omega) (by omega)
theorem bars_more {e f : Nat} {acc : List Bar} {w : Word} {l : List Word} (hf : l.length + 1 < f) (h : w.text ≠ END) : barsFrom e f acc (w :: l) = match readBar e (w :: l) with
    | .error x => .error x
    | .ok x => barsFrom e f (x.1 :: acc) x.2 := by
  obtain ⟨g, rfl⟩ : ∃ g, f = g + 1 := ⟨f - 1, by omega⟩
  rw [bars_cons, if_neg h, readBar_cons]
  show (match piecesFrom e (l.length + 2) 0 [] (if w.text = SHORT then l else w :: l) with
    | .error x => Except.error x
    | .ok x => barsFrom e g (⟨x.2.1, w.text == SHORT, x.1⟩ :: acc) x.2.2) = _
  cases e2 : piecesFrom e (l.length + 2) 0 [] (if w.text = SHORT then l else w :: l) with
  | error x => rfl
  | ok x =>
    have h1 := pieces_less e2
    have h3 : x.2.2.length < l.length + 1 := by
      split at h1
      · omega
      · exact h1
    dsimp only
    exact bars_fuel (by omega) (by omega)
theorem readBar_less {e : Nat} {l : List Word} {x : Bar × List Word} (h : readBar e l = .ok x) : x.2.length < l.length := by
  cases l with
  | nil => cases h
  | cons w l =>
    rw [readBar_cons] at h
    split at h
    · cases h
    · rename_i y hy
      injection h with h
      subst h
      have h1 := pieces_less hy
      show y.2.2.length < l.length + 1
      split at h1
      · omega
      · exact h1
end Sco
namespace Sco
open Sx62
/-! ### the words with other signs are read alike -/
def mapR {A B : Type} (f : A → B) : R A → R B
  | .error x => .error x
  | .ok x => .ok (f x)
theorem cl_head {t : Bytes} {c : Nat} (hc : c ∈ SIG) : (t.map cl).head? = some c ↔ t.head? = some c := by
  cases t with
  | nil => simp
  | cons a l =>
    show some (cl a) = some c ↔ some a = some c
    constructor
    · intro h
      injection h with h
      rw [← h] at hc ⊢
      rw [cl_clean hc]
    · intro h
      injection h with h
      rw [h, cl_in hc]
theorem chord_cl : ∀ (l : List Word) (e pl : Nat) (ps : List Pitch), chordFrom e pl ps (l.map cw) = mapR (fun x => (x.1, x.2.map cw)) (chordFrom e pl ps l)
  | [], e, pl, ps => by rw [List.map_nil, chord_nil]; rfl
  | w :: l, e, pl, ps => by
    rw [List.map_cons]
    by_cases h : w.text.head? = some 93
    · rw [chord_end h, chord_end ((cl_head (by decide)).mpr h)]
      show (match longOf ((w.text.map cl).drop 1) with
        | none => bad w.place
        | some y => if ps.length < 2 then bad w.place else .ok (Piece.note pl ps y.1 y.2.1 y.2.2, l.map cw)) = _
      rw [← List.map_drop, fun_clean clean_longOf]
      cases longOf (w.text.drop 1) with
      | none => rfl
      | some y =>
        dsimp only
        split <;> rfl
    · rw [chord_pitch h, chord_pitch (fun z => h ((cl_head (by decide)).mp z))]
      show (match wholeP (w.text.map cl) with
        | some p => if ps.contains p = true ∨ 6 ≤ ps.length then bad w.place else chordFrom e pl (putPitch p ps) (l.map cw)
        | none => bad w.place) = _
      rw [fun_clean clean_whole]
      cases wholeP w.text with
      | none => rfl
      | some p =>
        dsimp only
        split
        · rfl
        · exact chord_cl l e pl _
theorem eqc (l : Bytes) (h : ∀ c ∈ l, c ∈ SIG) (t : Bytes) : t.map cl = l ↔ t = l := eq_clean h t
theorem pieces_cl : ∀ (f e d : Nat) (acc : List Piece) (l : List Word), piecesFrom e f d acc (l.map cw) = mapR (fun x => (x.1, x.2.1, x.2.2.map cw)) (piecesFrom e f d acc l)
  | 0, e, d, acc, l => by rw [pieces_zero, pieces_zero]; rfl
  | f + 1, e, d, acc, [] => by rw [List.map_nil, pieces_nil]; rfl
  | f + 1, e, d, acc, w :: l => by
    rw [List.map_cons, pieces_cons, pieces_cons]
    show (if w.text.map cl = [124] then (if d = 0 ∧ acc ≠ [] then .ok (acc.reverse, w.place, l.map cw) else bad w.place)
      else if w.text.map cl = [125] then (if 0 < d ∧ afterOpen acc = false then piecesFrom e f (d - 1) (.closes :: acc) (l.map cw) else bad w.place)
      else match cTup (w.text.map cl) with
        | some x => if 3 ≤ d then .error ⟨3, w.place⟩ else piecesFrom e f (d + 1) (.opens x.1 x.2 :: acc) (l.map cw)
        | none => if w.text.map cl = [91] then (match chordFrom e w.place [] (l.map cw) with
            | .error x => .error x
            | .ok x => piecesFrom e f d (x.1 :: acc) x.2)
          else match cNote (w.text.map cl) with
            | none => bad w.place
            | some x => piecesFrom e f d (.note w.place x.1 x.2.1 x.2.2.1 x.2.2.2 :: acc) (l.map cw)) = _
    simp only [eqc [124] (by decide), eqc [125] (by decide), eqc [91] (by decide)]
    rw [fun_clean clean_tup, fun_clean clean_note, chord_cl]
    split
    · split <;> rfl
    · split
      · split
        · exact pieces_cl f _ _ _ _
        · rfl
      · cases cTup w.text with
        | some x =>
          dsimp only
          split
          · rfl
          · exact pieces_cl f _ _ _ _
        | none =>
          dsimp only
          split
          · cases chordFrom e w.place [] l with
            | error x => rfl
            | ok x => exact pieces_cl f _ _ _ _
          · cases cNote w.text with
            | none => rfl
            | some x => exact pieces_cl f _ _ _ _
theorem bars_cl : ∀ (f e : Nat) (acc : List Bar) (l : List Word), barsFrom e f acc (l.map cw) = mapR (fun x => (x.1, x.2.1, x.2.2.map cw)) (barsFrom e f acc l)
  | 0, e, acc, l => by unfold barsFrom; rfl
  | f + 1, e, acc, [] => by rw [List.map_nil, bars_nil]; rfl
  | f + 1, e, acc, w :: l => by
    rw [List.map_cons, bars_cons, bars_cons]
    show (if w.text.map cl = END then (if acc = [] then bad w.place else .ok (acc.reverse, w.place, l.map cw))
      else match piecesFrom e ((cw w :: l.map cw).length + 1) 0 [] (if w.text.map cl = SHORT then l.map cw else cw w :: l.map cw) with
        | .error x => .error x
        | .ok x => barsFrom e f (⟨x.2.1, w.text.map cl == SHORT, x.1⟩ :: acc) x.2.2) = _
    have hs : (w.text.map cl == SHORT) = (w.text == SHORT) := by
      rw [Bool.eq_iff_iff, beq_iff_eq, beq_iff_eq, eqc SHORT (by decide)]
    simp only [eqc END (by decide), eqc SHORT (by decide), hs]
    have hl : (if w.text = SHORT then l.map cw else cw w :: l.map cw) = (if w.text = SHORT then l else w :: l).map cw := by split <;> rfl
    rw [hl, pieces_cl]
    have hn : (cw w :: l.map cw).length + 1 = (w :: l).length + 1 := by simp
    rw [hn]
    split
    · split <;> rfl
    · cases piecesFrom e ((w :: l).length + 1) 0 [] (if w.text = SHORT then l else w :: l) with
      | error x => rfl
      | ok x => exact bars_cl f _ _ _
theorem voices_cl : ∀ (f e : Nat) (acc : List Voice) (l : List Word), voicesFrom e f acc (l.map cw) = voicesFrom e f acc l
  | 0, e, acc, l => by unfold voicesFrom; rfl
  | f + 1, e, acc, [] => rfl
  | f + 1, e, acc, [w] => by
    rw [List.map_cons, List.map_nil, voices_one, voices_one]
    show (if w.text.map cl ≠ VOICE then bad w.place else bad e) = _
    simp only [ne_eq, eqc VOICE (by decide)]
  | f + 1, e, acc, w :: n :: l => by
    rw [List.map_cons, List.map_cons, voices_cons, voices_cons]
    show (if w.text.map cl ≠ VOICE then bad w.place else if isName (n.text.map cl) = false then bad n.place
      else if 4 ≤ acc.length ∨ (acc.any fun v => v.name == n.text.map cl) = true then .error ⟨4, n.place⟩
      else match barsFrom e ((l.map cw).length + 1) [] (l.map cw) with
        | .error x => .error x
        | .ok x => voicesFrom e f (⟨n.text.map cl, x.1, x.2.1⟩ :: acc) x.2.2) = _
    simp only [ne_eq, eqc VOICE (by decide)]
    rw [isName_cl]
    split
    · rfl
    · split
      · rfl
      · rename_i hn
        rw [map_clean (isName_clean (by simpa using hn)), List.length_map, bars_cl]
        split
        · rfl
        · cases barsFrom e (l.length + 1) [] l with
          | error x => rfl
          | ok x => exact voices_cl f _ _ _
theorem parse_cl (e : Nat) (l : List Word) : parse e (l.map cw) = parse e l := by
  have hT : ∀ w : Word, (cw w).text = TIME ↔ w.text = TIME := fun w => eqc TIME (by decide) _
  have hK : ∀ w : Word, (cw w).text = KEY ↔ w.text = KEY := fun w => eqc KEY (by decide) _
  cases l with
  | nil => rfl
  | cons w l =>
    rw [List.map_cons]
    unfold parse
    simp only [ne_eq, hT w]
    cases l with
    | nil => rfl
    | cons m l =>
      rw [List.map_cons]
      dsimp only
      rw [show metreOf (cw m).text = metreOf m.text from fun_clean clean_metre _, show (cw w).place = w.place from rfl, show (cw m).place = m.place from rfl]
      cases metreOf m.text with
      | none => rfl
      | some x =>
        dsimp only
        cases l with
        | nil => rfl
        | cons k r =>
          rw [List.map_cons]
          simp only [hK k]
          have hv := voices_cl ((k :: r).length + 1) e [] (k :: r)
          rw [List.map_cons] at hv
          rw [show (cw k :: r.map cw).length + 1 = (k :: r).length + 1 by simp, hv]
          cases r with
          | nil => rfl
          | cons n r =>
            rw [List.map_cons]
            dsimp only
            rw [show keyOf (cw n).text = keyOf n.text from fun_clean clean_key _, show (cw n).place = n.place from rfl, List.length_map, voices_cl]
end Sco
namespace Sco
open Sx62
/-! ### events in units -/
structure Ev where
  place : Nat
  ps : List Pitch
  len : Nat
  tie : Bool
def evTimed (e : Ev) : Timed := ⟨e.place, e.ps, fr e.len, e.tie⟩
def stStep (st : List (Nat × Nat)) : Piece → List (Nat × Nat)
  | .opens n m => (n, m) :: st
  | .closes => st.drop 1
  | .note _ _ _ _ _ => st
def stAfter (st : List (Nat × Nat)) (l : List Piece) : List (Nat × Nat) := l.foldl stStep st
def evStep (st : List (Nat × Nat)) : Piece → List Ev
  | .note p ps k d t => [⟨p, ps, tupU (dotU k d) st.reverse, t⟩]
  | _ => []
def evsOf : List (Nat × Nat) → List Piece → List Ev
  | _, [] => []
  | st, x :: l => evStep st x ++ evsOf (stStep st x) l
def PieceOk (st : List (Nat × Nat)) : Piece → Prop
  | .opens n m => Rat (n, m) ∧ st.length < 3
  | .closes => True
  | .note _ ps k d t => k ∈ KINDS ∧ d < 3 ∧ (∀ p ∈ ps, PitchOk p) ∧ (t = true → ps ≠ [])
def PsOk : List (Nat × Nat) → List Piece → Prop
  | _, [] => True
  | st, x :: l => PieceOk st x ∧ PsOk (stStep st x) l
theorem PsOk_append : ∀ {l r : List Piece} {st : List (Nat × Nat)}, PsOk st (l ++ r) ↔ PsOk st l ∧ PsOk (stAfter st l) r
  | [], r, st => by simp [PsOk, stAfter]
  | x :: l, r, st => by
    show PieceOk st x ∧ PsOk (stStep st x) (l ++ r) ↔ (PieceOk st x ∧ PsOk (stStep st x) l) ∧ PsOk (stAfter (stStep st x) l) r
    rw [PsOk_append, and_assoc]
theorem evs_append : ∀ {l r : List Piece} {st : List (Nat × Nat)}, evsOf st (l ++ r) = evsOf st l ++ evsOf (stAfter st l) r
  | [], r, st => rfl
  | x :: l, r, st => by
    show evStep st x ++ evsOf (stStep st x) (l ++ r) = (evStep st x ++ evsOf (stStep st x) l) ++ evsOf (stAfter (stStep st x) l) r
    rw [evs_append, List.append_assoc]
theorem stStep_ok {st : List (Nat × Nat)} {x : Piece} (h : ∀ t ∈ st, Rat t) (hl : st.length ≤ 3) (hx : PieceOk st x) : (∀ t ∈ stStep st x, Rat t) ∧ (stStep st x).length ≤ 3 := by
  cases x with
  | opens n m =>
    refine ⟨fun t ht => ?_, ?_⟩
    · rcases List.mem_cons.mp ht with e | e
      · subst e; exact hx.1
      · exact h t e
    · have := hx.2
      show st.length + 1 ≤ 3; omega
  | closes =>
    refine ⟨fun t ht => h t (List.mem_of_mem_drop ht), ?_⟩
    show (st.drop 1).length ≤ 3
    rw [List.length_drop]; omega
  | note => exact ⟨h, hl⟩
theorem stAfter_ok : ∀ {l : List Piece} {st : List (Nat × Nat)}, (∀ t ∈ st, Rat t) → st.length ≤ 3 → PsOk st l → (∀ t ∈ stAfter st l, Rat t) ∧ (stAfter st l).length ≤ 3
  | [], st, h, hl, _ => ⟨h, hl⟩
  | x :: l, st, h, hl, ⟨h1, h2⟩ => by
    obtain ⟨a, b⟩ := stStep_ok h hl h1
    exact stAfter_ok (l := l) a b h2
theorem timed_evs : ∀ (l : List Piece) (st : List (Nat × Nat)), (∀ t ∈ st, Rat t) → st.length ≤ 3 → PsOk st l → timed st l = (evsOf st l).map evTimed
  | [], _, _, _, _ => rfl
  | .opens n m :: l, st, h, hl, ⟨h1, h2⟩ => by
    obtain ⟨a, b⟩ := stStep_ok h hl h1
    exact timed_evs l _ a b h2
  | .closes :: l, st, h, hl, ⟨h1, h2⟩ => by
    obtain ⟨a, b⟩ := stStep_ok h hl h1
    exact timed_evs l _ a b h2
  | .note p ps k d t :: l, st, h, hl, ⟨h1, h2⟩ => by
    show (⟨p, ps, signLong k d st, t⟩ : Timed) :: timed st l = (evTimed ⟨p, ps, tupU (dotU k d) st.reverse, t⟩) :: (evsOf st l).map evTimed
    rw [timed_evs l st h hl h2]
    have e := signLong_eq h1.1 h1.2.1 (ts := st.reverse) (fun t ht => h t (List.mem_reverse.mp ht)) (by rw [List.length_reverse]; exact hl)
    rw [List.reverse_reverse] at e
    rw [e]; rfl
/-! ### bars, voices, scores -/
def BarOk (b : Bar) : Prop := PsOk [] b.pieces
def barEvs (b : Bar) : List Ev := evsOf [] b.pieces
def lens (l : List Ev) : List Nat := l.map (·.len)
def tot (l : List Nat) : Nat := l.foldl (· + ·) 0
def barLen (b : Bar) : Nat := tot (lens (barEvs b))
theorem bar_notes {b : Bar} (h : BarOk b) : b.notes = (barEvs b).map evTimed := timed_evs _ _ (fun _ h => by cases h) (by decide) h
theorem bar_long {b : Bar} (h : BarOk b) : b.long = fr (barLen b) := by
  unfold Bar.long
  rw [bar_notes h, List.map_map]
  have : ((fun n : Timed => n.long) ∘ evTimed) = fr ∘ Ev.len := rfl
  rw [this, ← List.map_map, sum_fr]
  rfl
def VoiceOk (v : Voice) : Prop := (∀ b ∈ v.bars, BarOk b) ∧ v.bars ≠ []
def voiceEvs (v : Voice) : List Ev := v.bars.flatMap barEvs
theorem voice_notes {v : Voice} (h : VoiceOk v) : v.notes = (voiceEvs v).map evTimed := by
  unfold Voice.notes voiceEvs
  have key : ∀ bs : List Bar, (∀ b ∈ bs, BarOk b) → bs.flatMap Bar.notes = (bs.flatMap barEvs).map evTimed := by
    intro bs
    induction bs with
    | nil => intro _; rfl
    | cons b bs ih =>
      intro h
      rw [List.flatMap_cons, List.flatMap_cons, List.map_append, bar_notes (h b List.mem_cons_self), ih fun x hx => h x (List.mem_cons_of_mem _ hx)]
  exact key v.bars h.1
/-- how long a bar that isn't short is -/
def full (s : Score) : Nat := WH / s.unit * s.beats
structure ScoreOk (s : Score) : Prop where
  unit : s.unit ∈ UNITS
  beats : 1 ≤ s.beats ∧ s.beats ≤ 32
  key : s.key.natAbs ≤ 7
  voices : ∀ v ∈ s.voices, VoiceOk v
  some : s.voices ≠ []
theorem metre_full {s : Score} (h : ScoreOk s) : s.metre = fr (full s) := metre_eq h.unit
/-! ### faults -/
def right (fl : Nat) (b : Bar) : Bool := if b.short = true then decide (barLen b < fl) else barLen b == fl
theorem fits_right {fl : Nat} {b : Bar} (h : BarOk b) : fits (fr fl) b = right fl b := by
  unfold fits right
  rw [bar_long h, less_fr, beq_fr]
def folOf (l : List Ev) : List Pitch := match l with
  | [] => []
  | y :: _ => y.ps
def looseE : List Ev → Option Ev
  | [] => none
  | x :: l => if x.tie = true ∧ (x.ps.all fun p => (folOf l).contains p) = false then some x else looseE l
theorem loose_evs : ∀ (l : List Ev), (∀ e ∈ l, e.tie = true → e.ps ≠ []) → loose (l.map evTimed) = (looseE l).map evTimed
  | [], _ => rfl
  | [x], h => by
    show (if x.tie = true then some (evTimed x) else none) = Option.map evTimed (if x.tie = true ∧ (x.ps.all fun p => ([] : List Pitch).contains p) = false then some x else none)
    by_cases ht : x.tie = true
    · have : (x.ps.all fun p => ([] : List Pitch).contains p) = false := by
        have := h x List.mem_cons_self ht
        cases e : x.ps with
        | nil => exact absurd e this
        | cons a r => rfl
      rw [if_pos ht, if_pos ⟨ht, this⟩]; rfl
    · rw [if_neg ht, if_neg (fun z => ht z.1)]; rfl
  | x :: y :: l, h => by
    have ih := loose_evs (y :: l) fun e he => h e (List.mem_cons_of_mem _ he)
    show (if x.tie = true ∧ (x.ps.all fun p => y.ps.contains p) = false then some (evTimed x) else loose ((y :: l).map evTimed)) =
      Option.map evTimed (if x.tie = true ∧ (x.ps.all fun p => y.ps.contains p) = false then some x else looseE (y :: l))
    rw [ih]
    split <;> rfl
def againstE (e : Nat) : List Bar → List Bar → Option Nat
  | [], [] => none
  | _ :: _, [] => some e
  | [], b :: _ => some b.place
  | a :: l, b :: r => if barLen a == barLen b then againstE e l r else some b.place
theorem against_e {e : Nat} : ∀ (a b : List Bar), (∀ x ∈ a, BarOk x) → (∀ x ∈ b, BarOk x) → against e a b = againstE e a b
  | [], [], _, _ => rfl
  | _ :: _, [], _, _ => rfl
  | [], _ :: _, _, _ => rfl
  | x :: l, y :: r, h1, h2 => by
    show (if x.long == y.long then against e l r else some y.place) = if barLen x == barLen y then againstE e l r else some y.place
    rw [bar_long (h1 x List.mem_cons_self), bar_long (h2 y List.mem_cons_self), beq_fr, against_e l r (fun z hz => h1 z (List.mem_cons_of_mem _ hz)) (fun z hz => h2 z (List.mem_cons_of_mem _ hz))]
def faultE (fl : Nat) (first : List Bar) (v : Voice) : Option Fault := match v.bars.find? fun b => !right fl b with
  | some b => some ⟨5, b.place⟩
  | none => match looseE (voiceEvs v) with
    | some n => some ⟨6, n.place⟩
    | none => (againstE v.place first v.bars).map fun p => ⟨7, p⟩
theorem evs_tie : ∀ (l : List Piece) (st : List (Nat × Nat)), PsOk st l → ∀ e ∈ evsOf st l, (e.tie = true → e.ps ≠ []) ∧ ∀ p ∈ e.ps, PitchOk p
  | [], st, _, e, he => by cases he
  | x :: l, st, ⟨h1, h2⟩, e, he => by
    rcases List.mem_append.mp he with q | q
    · cases x with
      | opens n m => cases q
      | closes => cases q
      | note p ps k d t =>
        rw [List.mem_singleton.mp q]
        exact ⟨h1.2.2.2, h1.2.2.1⟩
    · exact evs_tie l _ h2 e q
theorem voice_tie {v : Voice} (h : VoiceOk v) : ∀ e ∈ voiceEvs v, (e.tie = true → e.ps ≠ []) ∧ ∀ p ∈ e.ps, PitchOk p := by
  intro e he
  obtain ⟨b, hb, hq⟩ := List.mem_flatMap.mp he
  exact evs_tie _ _ (h.1 b hb) e hq
theorem find_congr {α : Type} {p q : α → Bool} : ∀ {l : List α}, (∀ x ∈ l, p x = q x) → l.find? p = l.find? q
  | [], _ => rfl
  | x :: l, h => by
    rw [List.find?_cons, List.find?_cons, h x List.mem_cons_self, find_congr fun y hy => h y (List.mem_cons_of_mem _ hy)]
theorem fault_e {fl : Nat} {first : List Bar} {v : Voice} (h : VoiceOk v) (hf : ∀ b ∈ first, BarOk b) : faultOf (fr fl) first v = faultE fl first v := by
  unfold faultOf faultE
  rw [find_congr (q := fun b => !right fl b) fun b hb => by rw [fits_right (h.1 b hb)]]
  rw [voice_notes h, loose_evs _ fun e he => (voice_tie h e he).1, against_e _ _ hf h.1]
  cases v.bars.find? fun b => !right fl b with
  | some b => rfl
  | none =>
    dsimp only
    cases looseE (voiceEvs v) <;> rfl
def firstBars (s : Score) : List Bar := ((s.voices.head?).map fun v => v.bars).getD []
theorem firstBars_ok {s : Score} (h : ScoreOk s) : ∀ b ∈ firstBars s, BarOk b := by
  unfold firstBars
  cases e : s.voices with
  | nil => exact absurd e h.some
  | cons v l => exact (h.voices v (by rw [e]; exact List.mem_cons_self)).1
theorem findSome_congr {α β : Type} {p q : α → Option β} : ∀ {l : List α}, (∀ x ∈ l, p x = q x) → l.findSome? p = l.findSome? q
  | [], _ => rfl
  | x :: l, h => by
    rw [List.findSome?_cons, List.findSome?_cons, h x List.mem_cons_self, findSome_congr fun y hy => h y (List.mem_cons_of_mem _ hy)]
theorem score_fault {s : Score} (h : ScoreOk s) : s.fault = s.voices.findSome? (faultE (full s) (firstBars s)) := by
  unfold Score.fault
  show s.voices.findSome? (faultOf s.metre (firstBars s)) = _
  rw [metre_full h]
  exact findSome_congr fun v hv => fault_e (h.voices v hv) (firstBars_ok h)
/-! ### the one form -/
def pieceWords : Piece → List Bytes
  | .note _ ps k d t => match ps with
    | [] => [114 :: longText k d t]
    | [p] => [pitchText p ++ longText k d t]
    | _ => [91] :: (ps.map pitchText ++ [93 :: longText k d t])
  | .opens n m => [123 :: dec n ++ 58 :: dec m]
  | .closes => [[125]]
def barWords (b : Bar) : List Bytes := (if b.short = true then [SHORT] else []) ++ b.pieces.flatMap pieceWords ++ [[124]]
theorem spaced_cons {a : Bytes} {l : List Bytes} (h : l ≠ []) : spaced (a :: l) = a ++ 32 :: spaced l := by
  cases l with
  | nil => exact absurd rfl h
  | cons b l => rfl
theorem spaced_append : ∀ {a b : List Bytes}, a ≠ [] → b ≠ [] → spaced (a ++ b) = spaced a ++ 32 :: spaced b
  | [], _, h, _ => absurd rfl h
  | [x], b, _, h => spaced_cons h
  | x :: y :: a, b, _, h => by
    rw [List.cons_append, spaced_cons (by simp), spaced_append (a := y :: a) (by simp) h, spaced_cons (a := x) (by simp)]
    simp
theorem pieceWords_ne (x : Piece) : pieceWords x ≠ [] := by
  match x with
  | .note p [] k d t => simp [pieceWords]
  | .note p [q] k d t => simp [pieceWords]
  | .note p (q :: r :: ps) k d t => simp [pieceWords]
  | .opens n m => simp [pieceWords]
  | .closes => simp [pieceWords]
theorem spaced_pitches : ∀ (ps : List Pitch) (z : Bytes), spaced (ps.map pitchText ++ [z]) = (ps.flatMap fun p => pitchText p ++ [32]) ++ z
  | [], z => rfl
  | p :: ps, z => by
    rw [List.map_cons, List.cons_append, spaced_cons (by simp), spaced_pitches ps z, List.flatMap_cons]
    simp
theorem flat_swap : ∀ (ps : List Pitch), (ps.flatMap fun p => 32 :: pitchText p) ++ [32] = 32 :: (ps.flatMap fun p => pitchText p ++ [32])
  | [] => rfl
  | p :: ps => by
    rw [List.flatMap_cons, List.flatMap_cons, List.append_assoc, flat_swap ps]
    simp
theorem spaced_chord (ps : List Pitch) (z : Bytes) : spaced ([91] :: (ps.map pitchText ++ [93 :: z])) = [91] ++ ps.flatMap (fun p => 32 :: pitchText p) ++ [32, 93] ++ z := by
  rw [spaced_cons (by simp), spaced_pitches]
  have e := flat_swap ps
  have : [91] ++ 32 :: ((ps.flatMap fun p => pitchText p ++ [32]) ++ 93 :: z) = [91] ++ (32 :: (ps.flatMap fun p => pitchText p ++ [32])) ++ 93 :: z := by simp
  rw [this, ← e]
  simp
theorem spaced_piece (x : Piece) : spaced (pieceWords x) = pieceText x := by
  match x with
  | .note p [] k d t => rfl
  | .note p [q] k d t => rfl
  | .note p (q :: r :: ps) k d t => exact spaced_chord (q :: r :: ps) (longText k d t)
  | .opens n m => rfl
  | .closes => rfl
theorem spaced_flat : ∀ (l : List Piece) (a z : List Bytes), z ≠ [] → spaced (a ++ l.flatMap pieceWords ++ z) = spaced (a ++ l.map pieceText ++ z)
  | [], a, z, _ => rfl
  | x :: l, a, z, hz => by
    have ih := spaced_flat l [] z hz
    rw [List.nil_append, List.nil_append] at ih
    have hne : l.flatMap pieceWords ++ z ≠ [] := by simp [hz]
    have hne2 : l.map pieceText ++ z ≠ [] := by simp [hz]
    rw [List.flatMap_cons, List.map_cons]
    have e1 : spaced (pieceWords x ++ (l.flatMap pieceWords ++ z)) = spaced (pieceText x :: (l.map pieceText ++ z)) := by
      rw [spaced_append (pieceWords_ne x) hne, spaced_piece, spaced_cons hne2, ih]
    cases a with
    | nil =>
      rw [List.nil_append, List.nil_append, List.append_assoc, List.cons_append]; exact e1
    | cons b a =>
      rw [List.append_assoc, List.append_assoc, List.append_assoc, List.cons_append (as := l.map pieceText)]
      have hn : pieceWords x ++ (l.flatMap pieceWords ++ z) ≠ [] := by simp [hz]
      have e2 := spaced_append (a := b :: a) (by simp) hn
      have e3 := spaced_append (a := b :: a) (b := pieceText x :: (l.map pieceText ++ z)) (by simp) (by simp)
      rw [e2, e3, e1]
def formLines (s : Score) : List Bytes := [TIME ++ 32 :: (dec s.beats ++ 47 :: dec s.unit)] ++ (if s.key = 0 then [] else [KEY ++ 32 :: ((if s.key < 0 then [45] else []) ++ dec s.key.natAbs)]) ++
  s.voices.flatMap fun v => [VOICE ++ 32 :: v.name] ++ v.bars.map (fun b => spaced (barWords b)) ++ [END]
theorem bar_line (b : Bar) : barText b = spaced (barWords b) ++ [10] := by
  unfold barText barWords
  rw [spaced_flat _ _ _ (by simp)]
theorem form_lines (s : Score) : s.form = (formLines s).flatMap fun l => l ++ [10] := by
  unfold Score.form formLines
  rw [List.flatMap_append, List.flatMap_append]
  have hv : ∀ vs : List Voice, vs.flatMap voiceText = (vs.flatMap fun v => [VOICE ++ 32 :: v.name] ++ v.bars.map (fun b => spaced (barWords b)) ++ [END]).flatMap fun l => l ++ [10] := by
    intro vs
    induction vs with
    | nil => rfl
    | cons v vs ih =>
      rw [List.flatMap_cons, List.flatMap_cons, List.flatMap_append, ih, List.flatMap_append, List.flatMap_append]
      have hb : ∀ bs : List Bar, bs.flatMap barText = (bs.map fun b => spaced (barWords b)).flatMap fun l => l ++ [10] := by
        intro bs
        induction bs with
        | nil => rfl
        | cons b bs ih => rw [List.flatMap_cons, List.map_cons, List.flatMap_cons, ih, bar_line]
      unfold voiceText
      rw [hb]
      simp
  rw [hv]
  by_cases hk : s.key = 0
  · rw [if_pos hk, if_pos hk]; simp
  · rw [if_neg hk, if_neg hk]; simp
end Sco
namespace Sco
open Sx62
/-! ### what is read is in order -/
theorem put_mem {p q : Pitch} : ∀ {l : List Pitch}, q ∈ putPitch p l ↔ q = p ∨ q ∈ l
  | [] => by simp [putPitch]
  | x :: l => by
    unfold putPitch
    split
    · simp
    · rw [List.mem_cons, put_mem, List.mem_cons]
      constructor
      · rintro (h | h | h)
        · exact .inr (.inl h)
        · exact .inl h
        · exact .inr (.inr h)
      · rintro (h | h | h)
        · exact .inr (.inl h)
        · exact .inl h
        · exact .inr (.inr h)
theorem put_len {p : Pitch} : ∀ {l : List Pitch}, (putPitch p l).length = l.length + 1
  | [] => rfl
  | x :: l => by
    unfold putPitch
    split
    · rfl
    · rw [List.length_cons, put_len, List.length_cons]
theorem chord_ok : ∀ {l : List Word} {e pl : Nat} {ps : List Pitch} {x : Piece × List Word}, (∀ p ∈ ps, PitchOk p) → chordFrom e pl ps l = .ok x →
    ∃ qs k d t, x.1 = .note pl qs k d t ∧ 2 ≤ qs.length ∧ (∀ p ∈ qs, PitchOk p) ∧ k ∈ KINDS ∧ d < 3
  | [], e, pl, ps, x, _, h => by rw [chord_nil] at h; cases h
  | w :: l, e, pl, ps, x, hp, h => by
    by_cases h1 : w.text.head? = some 93
    · rw [chord_end h1] at h
      split at h
      · cases h
      · rename_i y hy
        split at h
        · cases h
        · injection h with h; subst h
          obtain ⟨k, d, t⟩ := y
          obtain ⟨_, h2, h3⟩ := longOf_iff.mp hy
          exact ⟨ps, k, d, t, rfl, by omega, hp, h2, h3⟩
    · rw [chord_pitch h1] at h
      split at h
      · rename_i p hpw
        split at h
        · cases h
        · refine chord_ok (fun q hq => ?_) h
          rcases put_mem.mp hq with rfl | hq
          · exact (wholeP_iff.mp hpw).2
          · exact hp q hq
      · cases h
theorem chord_piece {l : List Word} {e pl : Nat} {x : Piece × List Word} {st : List (Nat × Nat)} (h : chordFrom e pl [] l = .ok x) : PieceOk st x.1 := by
  obtain ⟨qs, k, d, t, e1, h1, h2, h3, h4⟩ := chord_ok (fun p hp => by cases hp) h
  rw [e1]
  exact ⟨h3, h4, h2, fun _ z => by rw [z] at h1; simp at h1⟩
theorem note_piece {t : Bytes} {x : List Pitch × Nat × Nat × Bool} {pl : Nat} {st : List (Nat × Nat)} (h : cNote t = some x) : PieceOk st (.note pl x.1 x.2.1 x.2.2.1 x.2.2.2) := by
  obtain ⟨_, h1, h2, h3⟩ := cNote_text h
  refine ⟨h1, h2, ?_, ?_⟩
  · rcases h3 with ⟨e, _⟩ | ⟨p, e, ok⟩
    · rw [e]; intro p hp; cases hp
    · rw [e]; intro q hq; rw [List.mem_singleton.mp hq]; exact ok
  · rcases h3 with ⟨_, e⟩ | ⟨p, e, ok⟩
    · rw [e]; intro z; cases z
    · rw [e]; intro _ z; cases z
theorem tup_piece {t : Bytes} {x : Nat × Nat} {st : List (Nat × Nat)} (h : cTup t = some x) (hl : st.length < 3) : PieceOk st (.opens x.1 x.2) := by
  obtain ⟨_, h1, h2, h3, h4, _⟩ := cTup_iff (n := x.1) (m := x.2).mp h
  exact ⟨⟨h1, h2, h3, h4⟩, hl⟩
/-- the tuplets that are open, the innermost first -/
def stOf (acc : List Piece) : List (Nat × Nat) := stAfter [] acc.reverse
theorem stOf_cons (x : Piece) (acc : List Piece) : stOf (x :: acc) = stStep (stOf acc) x := by
  unfold stOf stAfter
  rw [List.reverse_cons, List.foldl_append]; rfl
theorem ok_cons {x : Piece} {acc : List Piece} (h : PsOk [] acc.reverse) (hx : PieceOk (stOf acc) x) : PsOk [] (x :: acc).reverse := by
  rw [List.reverse_cons, PsOk_append]
  exact ⟨h, hx, trivial⟩
theorem pieces_ok : ∀ {f e : Nat} {acc : List Piece} {l : List Word} {x : List Piece × Nat × List Word}, PsOk [] acc.reverse → piecesFrom e f (stOf acc).length acc l = .ok x → PsOk [] x.1
  | 0, e, acc, l, x, _, h => by rw [pieces_zero] at h; cases h
  | f + 1, e, acc, [], x, _, h => by rw [pieces_nil] at h; cases h
  | f + 1, e, acc, w :: l, x, ho, h => by
    rw [pieces_cons] at h
    split at h
    · split at h
      · injection h with h; subst h; exact ho
      · cases h
    · split at h
      · split at h
        · rename_i hd
          have : (stOf acc).length - 1 = (stOf (.closes :: acc)).length := by
            rw [stOf_cons]; show _ = ((stOf acc).drop 1).length; rw [List.length_drop]
          rw [this] at h
          exact pieces_ok (ok_cons (x := .closes) ho (show PieceOk (stOf acc) .closes from trivial)) h
        · cases h
      · split at h
        · rename_i y hy
          split at h
          · cases h
          · rename_i hd
            have : (stOf acc).length + 1 = (stOf (.opens y.1 y.2 :: acc)).length := by
              rw [stOf_cons]; rfl
            rw [this] at h
            exact pieces_ok (ok_cons ho (tup_piece hy (by omega))) h
        · split at h
          · split at h
            · cases h
            · rename_i y hc
              obtain ⟨qs, k, d, t, e1, _⟩ := chord_ok (fun p hp => by cases hp) hc
              have hp := chord_piece (st := stOf acc) hc
              have : (stOf acc).length = (stOf (y.1 :: acc)).length := by
                rw [stOf_cons, e1]; rfl
              rw [this] at h
              exact pieces_ok (ok_cons ho hp) h
          · split at h
            · cases h
            · rename_i y hc
              have hp := note_piece (st := stOf acc) (pl := w.place) hc
              have : (stOf acc).length = (stOf (.note w.place y.1 y.2.1 y.2.2.1 y.2.2.2 :: acc)).length := by
                rw [stOf_cons]; rfl
              rw [this] at h
              exact pieces_ok (ok_cons ho hp) h
theorem readBar_ok {e : Nat} {l : List Word} {x : Bar × List Word} (h : readBar e l = .ok x) : BarOk x.1 := by
  cases l with
  | nil => cases h
  | cons w l =>
    rw [readBar_cons] at h
    split at h
    · cases h
    · rename_i y hy
      injection h with h
      subst h
      exact pieces_ok (acc := []) trivial hy
theorem bars_ok : ∀ {f e : Nat} {acc : List Bar} {l : List Word} {x : List Bar × Nat × List Word}, (∀ b ∈ acc, BarOk b) → barsFrom e f acc l = .ok x → (∀ b ∈ x.1, BarOk b) ∧ x.1 ≠ []
  | 0, e, acc, l, x, _, h => by unfold barsFrom at h; cases h
  | f + 1, e, acc, [], x, _, h => by rw [bars_nil] at h; cases h
  | f + 1, e, acc, w :: l, x, ho, h => by
    rw [bars_cons] at h
    split at h
    · split at h
      · cases h
      · rename_i hn
        injection h with h; subst h
        exact ⟨fun b hb => ho b (List.mem_reverse.mp hb), by simpa using hn⟩
    · split at h
      · cases h
      · rename_i y hy
        refine bars_ok (fun b hb => ?_) h
        rcases List.mem_cons.mp hb with rfl | hb
        · exact pieces_ok (acc := []) trivial hy
        · exact ho b hb
theorem voices_ok : ∀ {f e : Nat} {acc : List Voice} {l : List Word} {x : List Voice}, (∀ v ∈ acc, VoiceOk v) → voicesFrom e f acc l = .ok x → (∀ v ∈ x, VoiceOk v) ∧ x ≠ []
  | 0, e, acc, l, x, _, h => by unfold voicesFrom at h; cases h
  | f + 1, e, acc, [], x, ho, h => by
    rw [voices_nil] at h
    split at h
    · cases h
    · rename_i hn
      injection h with h; subst h
      exact ⟨fun b hb => ho b (List.mem_reverse.mp hb), by simpa using hn⟩
  | f + 1, e, acc, [w], x, ho, h => by
    rw [voices_one] at h
    split at h <;> cases h
  | f + 1, e, acc, w :: n :: l, x, ho, h => by
    rw [voices_cons] at h
    split at h
    · cases h
    · split at h
      · cases h
      · split at h
        · cases h
        · split at h
          · cases h
          · rename_i y hy
            refine voices_ok (fun v hv => ?_) h
            rcases List.mem_cons.mp hv with rfl | hv
            · exact bars_ok (fun b hb => by cases hb) hy
            · exact ho v hv
theorem parse_nil {e : Nat} : parse e [] = bad e := rfl
theorem parse_one {e : Nat} {w : Word} : parse e [w] = if w.text ≠ TIME then bad w.place else bad e := rfl
/-- behind the metre -/
def parseRest (e : Nat) (x : Nat × Nat) : List Word → R Score
  | [] => bad e
  | k :: r => if k.text = KEY then (match r with
      | [] => bad e
      | n :: r => match keyOf n.text with
        | none => bad n.place
        | some z => match voicesFrom e (r.length + 1) [] r with
          | .error y => .error y
          | .ok v => .ok ⟨x.1, x.2, z, v⟩)
    else match voicesFrom e ((k :: r).length + 1) [] (k :: r) with
      | .error y => .error y
      | .ok v => .ok ⟨x.1, x.2, 0, v⟩
theorem rest_cons {e : Nat} {x : Nat × Nat} {k : Word} {r : List Word} : parseRest e x (k :: r) = if k.text = KEY then (match r with
      | [] => bad e
      | n :: r => match keyOf n.text with
        | none => bad n.place
        | some z => match voicesFrom e (r.length + 1) [] r with
          | .error y => .error y
          | .ok v => .ok ⟨x.1, x.2, z, v⟩)
    else match voicesFrom e ((k :: r).length + 1) [] (k :: r) with
      | .error y => .error y
      | .ok v => .ok ⟨x.1, x.2, 0, v⟩ := rfl
theorem parse_two {e : Nat} {w m : Word} {l : List Word} : parse e (w :: m :: l) = if w.text ≠ TIME then bad w.place else match metreOf m.text with
    | none => bad m.place
    | some x => parseRest e x l := by
  unfold parse
  dsimp only
  split
  · rfl
  · cases metreOf m.text with
    | none => rfl
    | some x => cases l <;> rfl
theorem rest_ok {e : Nat} {x : Nat × Nat} {l : List Word} {s : Score} (m1 : 1 ≤ x.1) (m2 : x.1 ≤ 32) (m3 : x.2 ∈ UNITS) (h : parseRest e x l = .ok s) : ScoreOk s := by
  cases l with
  | nil => cases h
  | cons k r =>
    rw [rest_cons] at h
    by_cases hk : k.text = KEY
    · rw [if_pos hk] at h
      cases r with
      | nil => cases h
      | cons n r =>
        dsimp only at h
        cases hz : keyOf n.text with
        | none => rw [hz] at h; cases h
        | some z =>
          rw [hz] at h
          dsimp only at h
          cases hv : voicesFrom e (r.length + 1) [] r with
          | error y => rw [hv] at h; cases h
          | ok v =>
            rw [hv] at h
            injection h with h
            subst h
            obtain ⟨a, b⟩ := voices_ok (fun v hv => by cases hv) hv
            obtain ⟨n, k1, k2, k3⟩ := keyOf_iff.mp hz
            exact ⟨m3, ⟨m1, m2⟩, by show z.natAbs ≤ 7; rcases k3 with k3 | k3 <;> (rw [k3.2]; omega), a, b⟩
    · rw [if_neg hk] at h
      cases hv : voicesFrom e ((k :: r).length + 1) [] (k :: r) with
      | error y => rw [hv] at h; cases h
      | ok v =>
        rw [hv] at h
        injection h with h
        subst h
        obtain ⟨a, b⟩ := voices_ok (fun v hv => by cases hv) hv
        exact ⟨m3, ⟨m1, m2⟩, by show (0 : Int).natAbs ≤ 7; decide, a, b⟩
theorem parse_ok {e : Nat} {l : List Word} {s : Score} (h : parse e l = .ok s) : ScoreOk s := by
  match l, h with
  | [], h => cases h
  | [w], h =>
    rw [parse_one] at h
    split at h <;> cases h
  | w :: m :: l, h =>
    rw [parse_two] at h
    split at h
    · cases h
    · cases hx : metreOf m.text with
      | none => rw [hx] at h; cases h
      | some x =>
        rw [hx] at h
        obtain ⟨_, m1, m2, m3⟩ := metreOf_iff (n := x.1) (d := x.2).mp hx
        exact rest_ok m1 m2 m3 h
/-! ### sounds -/
/-- how long what begins at the first one sounds -/
def lastE : List Ev → Nat
  | [] => 0
  | x :: l => x.len + (if x.tie = true then lastE l else 0)
def sndE : Nat → List Pitch → List Ev → List (Pitch × Nat × Nat)
  | _, _, [] => []
  | t, tied, x :: l => ((x.ps.filter fun p => !tied.contains p).map fun p => (p, t, lastE (x :: l))) ++ sndE (t + x.len) (if x.tie = true then x.ps else []) l
theorem looseE_cons {x : Ev} {l : List Ev} (h : looseE (x :: l) = none) : looseE l = none ∧ (x.tie = true → ∀ p ∈ x.ps, p ∈ folOf l) := by
  unfold looseE at h
  split at h
  · cases h
  · rename_i hc
    refine ⟨h, fun ht p hp => ?_⟩
    have : (x.ps.all fun p => (folOf l).contains p) = true := by
      cases e : (x.ps.all fun p => (folOf l).contains p) with
      | true => rfl
      | false => exact absurd ⟨ht, e⟩ hc
    have := List.all_eq_true.mp this p hp
    exact List.contains_iff_mem.mp this
theorem goesOn_e : ∀ (l : List Ev) (p : Pitch), looseE l = none → p ∈ folOf l → goesOn p (l.map evTimed) = fr (lastE l)
  | [], p, _, h => by cases h
  | y :: l, p, hl, h => by
    obtain ⟨h1, h2⟩ := looseE_cons hl
    show (if y.ps.contains p = true then (if y.tie = true then (fr y.len).plus (goesOn p (l.map evTimed)) else fr y.len) else ⟨0, 1⟩) = fr (y.len + (if y.tie = true then lastE l else 0))
    rw [if_pos (List.contains_iff_mem.mpr (show p ∈ y.ps from h))]
    by_cases ht : y.tie = true
    · rw [if_pos ht, if_pos ht, goesOn_e l p h1 (h2 ht p h), fr_plus]
    · rw [if_neg ht, if_neg ht]; rfl
theorem sounds_e : ∀ (l : List Ev) (t : Nat) (tied : List Pitch), looseE l = none → soundsFrom (fr t) tied (l.map evTimed) = (sndE t tied l).map fun x => ⟨x.1, fr x.2.1, fr x.2.2⟩
  | [], t, tied, _ => rfl
  | x :: l, t, tied, hl => by
    obtain ⟨h1, h2⟩ := looseE_cons hl
    have ih := sounds_e l (t + x.len) (if x.tie = true then x.ps else []) h1
    show ((x.ps.filter fun p => !tied.contains p).map fun p => (⟨p, fr t, if x.tie = true then (fr x.len).plus (goesOn p (l.map evTimed)) else fr x.len⟩ : Sound)) ++ soundsFrom ((fr t).plus (fr x.len)) (if x.tie = true then x.ps else []) (l.map evTimed) = _
    rw [fr_plus, ih]
    show _ = (((x.ps.filter fun p => !tied.contains p).map fun p => (p, t, lastE (x :: l))) ++ sndE (t + x.len) (if x.tie = true then x.ps else []) l).map _
    rw [List.map_append, List.map_map]
    congr 1
    refine List.map_congr_left fun p hp => ?_
    have hp2 : p ∈ x.ps := (List.mem_filter.mp hp).1
    show (⟨p, fr t, _⟩ : Sound) = ⟨p, fr t, fr (x.len + (if x.tie = true then lastE l else 0))⟩
    by_cases ht : x.tie = true
    · rw [if_pos ht, if_pos ht, goesOn_e l p h1 (h2 ht p hp2), fr_plus]
    · rw [if_neg ht, if_neg ht]; rfl
theorem fault_none {s : Score} {v : Voice} (h : ScoreOk s) (hf : s.fault = none) (hv : v ∈ s.voices) : looseE (voiceEvs v) = none := by
  rw [score_fault h] at hf
  have := List.findSome?_eq_none_iff.mp hf v hv
  unfold faultE at this
  split at this
  · cases this
  · split at this
    · cases this
    · assumption
theorem voice_sounds {s : Score} {v : Voice} (h : ScoreOk s) (hf : s.fault = none) (hv : v ∈ s.voices) : v.sounds = (sndE 0 [] (voiceEvs v)).map fun x => ⟨x.1, fr x.2.1, fr x.2.2⟩ := by
  unfold Voice.sounds
  rw [voice_notes (h.voices v hv), ← fr_zero]
  exact sounds_e _ 0 [] (fault_none h hf hv)
/-! ### bars -/
def startsE : Nat → List Bar → List (Nat × Nat)
  | _, [] => []
  | t, b :: l => (t, barLen b) :: startsE (t + barLen b) l
theorem starts_e : ∀ (l : List Bar) (t : Nat), (∀ b ∈ l, BarOk b) → startsFrom (fr t) l = (startsE t l).map fun x => (fr x.1, fr x.2)
  | [], t, _ => rfl
  | b :: l, t, h => by
    show (fr t, b.long) :: startsFrom ((fr t).plus b.long) l = (fr t, fr (barLen b)) :: (startsE (t + barLen b) l).map _
    rw [bar_long (h b List.mem_cons_self), fr_plus, starts_e l _ fun x hx => h x (List.mem_cons_of_mem _ hx)]
theorem score_starts {s : Score} (h : ScoreOk s) : s.starts = (startsE 0 (firstBars s)).map fun x => (fr x.1, fr x.2) := by
  unfold Score.starts
  rw [← fr_zero]
  exact starts_e _ 0 (firstBars_ok h)
end Sco
namespace Sco
open Sx62
/-! ### the pieces, word by word -/
def pcs (e : Nat) (acc : List Piece) (rest : List Word) : R (List Piece × Nat × List Word) := piecesFrom e (rest.length + 1) (stOf acc).length acc rest
theorem pcs_nil {e : Nat} {acc : List Piece} : pcs e acc [] = bad e := pieces_nil
theorem pcs_fuel {e f : Nat} {acc : List Piece} {l : List Word} (h : l.length < f) : piecesFrom e f (stOf acc).length acc l = pcs e acc l := pieces_fuel h (Nat.lt_succ_self _)
theorem pcs_bar {e : Nat} {acc : List Piece} {w : Word} {l : List Word} (h : w.text = [124]) (h1 : stOf acc = []) (h2 : acc ≠ []) : pcs e acc (w :: l) = .ok (acc.reverse, w.place, l) := by
  unfold pcs
  rw [pieces_cons, if_pos h, if_pos ⟨by rw [h1]; rfl, h2⟩]
theorem tup_not {t : Bytes} {x : Nat × Nat} (h : cTup t = some x) : t ≠ [124] ∧ t ≠ [125] ∧ t ≠ [91] := by
  refine ⟨fun z => ?_, fun z => ?_, fun z => ?_⟩ <;> (rw [z] at h; revert h; decide +revert)
theorem pcs_deep {e : Nat} {acc : List Piece} {w : Word} {l : List Word} {x : Nat × Nat} (h : cTup w.text = some x) (h1 : 3 ≤ (stOf acc).length) : pcs e acc (w :: l) = .error ⟨3, w.place⟩ := by
  obtain ⟨a, b, c⟩ := tup_not h
  unfold pcs
  rw [pieces_cons, if_neg a, if_neg b, h]
  dsimp only
  rw [if_pos h1]
theorem pcs_open {e : Nat} {acc : List Piece} {w : Word} {l : List Word} {x : Nat × Nat} (h : cTup w.text = some x) (h1 : ¬ 3 ≤ (stOf acc).length) : pcs e acc (w :: l) = pcs e (.opens x.1 x.2 :: acc) l := by
  obtain ⟨a, b, c⟩ := tup_not h
  unfold pcs
  rw [pieces_cons, if_neg a, if_neg b, h]
  dsimp only
  rw [if_neg h1, List.length_cons, stOf_cons]; rfl
theorem pcs_close {e : Nat} {acc : List Piece} {w : Word} {l : List Word} (h : w.text = [125]) (h1 : 0 < (stOf acc).length) (h2 : afterOpen acc = false) : pcs e acc (w :: l) = pcs e (.closes :: acc) l := by
  unfold pcs
  rw [pieces_cons, if_neg (by rw [h]; decide), if_pos h, if_pos ⟨h1, h2⟩, List.length_cons, stOf_cons]
  show _ = piecesFrom e (l.length + 1) ((stOf acc).drop 1).length _ _
  rw [List.length_drop]
theorem pcs_chord {e : Nat} {acc : List Piece} {w : Word} {l : List Word} (h : w.text = [91]) : pcs e acc (w :: l) = match chordFrom e w.place [] l with
    | .error x => .error x
    | .ok x => pcs e (x.1 :: acc) x.2 := by
  unfold pcs
  have c1 : cTup w.text = none := by rw [h]; decide
  rw [pieces_cons, if_neg (by rw [h]; decide), if_neg (by rw [h]; decide), c1]
  dsimp only
  rw [if_pos h]
  cases e2 : chordFrom e w.place [] l with
  | error x => rfl
  | ok x =>
    dsimp only
    obtain ⟨qs, k, d, t, e1, _⟩ := chord_ok (fun p hp => by cases hp) e2
    have hl := chord_less e2
    rw [List.length_cons, stOf_cons, e1]
    exact pieces_fuel (by omega) (Nat.lt_succ_self _)
theorem note_not {t : Bytes} {x : List Pitch × Nat × Nat × Bool} (h : cNote t = some x) : t ≠ [124] ∧ t ≠ [125] ∧ t ≠ [91] ∧ cTup t = none := by
  refine ⟨fun z => ?_, fun z => ?_, fun z => ?_, ?_⟩
  · rw [note_head (c := 124) (by rw [z]; rfl) (by decide)] at h; cases h
  · rw [note_head (c := 125) (by rw [z]; rfl) (by decide)] at h; cases h
  · rw [note_head (c := 91) (by rw [z]; rfl) (by decide)] at h; cases h
  · refine cTup_none fun z => ?_
    rw [note_head z (by decide)] at h; cases h
theorem pcs_note {e : Nat} {acc : List Piece} {w : Word} {l : List Word} {x : List Pitch × Nat × Nat × Bool} (h : cNote w.text = some x) : pcs e acc (w :: l) = pcs e (.note w.place x.1 x.2.1 x.2.2.1 x.2.2.2 :: acc) l := by
  obtain ⟨a, b, c, d⟩ := note_not h
  unfold pcs
  rw [pieces_cons, if_neg a, if_neg b, d]
  dsimp only
  rw [if_neg c, h, List.length_cons, stOf_cons]; rfl
theorem pcs_bad {e : Nat} {acc : List Piece} {w : Word} {l : List Word} (h1 : cTup w.text = none) (h2 : w.text ≠ [91]) (h3 : cNote w.text = none) (h4 : ¬ (w.text = [124] ∧ stOf acc = [] ∧ acc ≠ [])) (h5 : ¬ (w.text = [125] ∧ 0 < (stOf acc).length ∧ afterOpen acc = false)) :
    pcs e acc (w :: l) = bad w.place := by
  unfold pcs
  rw [pieces_cons]
  by_cases a : w.text = [124]
  · rw [if_pos a, if_neg fun z => h4 ⟨a, List.length_eq_zero_iff.mp z.1, z.2⟩]
  · rw [if_neg a]
    by_cases b : w.text = [125]
    · rw [if_pos b, if_neg fun z => h5 ⟨b, z⟩]
    · rw [if_neg b, h1]
      dsimp only
      rw [if_neg h2, h3]
theorem readBar_pcs {e : Nat} {w : Word} {l : List Word} : readBar e (w :: l) = match pcs e [] (if w.text = SHORT then l else w :: l) with
    | .error x => .error x
    | .ok x => .ok (⟨x.2.1, w.text == SHORT, x.1⟩, x.2.2) := by
  rw [readBar_cons]
  have : piecesFrom e (l.length + 2) 0 [] (if w.text = SHORT then l else w :: l) = pcs e [] (if w.text = SHORT then l else w :: l) := by
    refine pieces_fuel ?_ (Nat.lt_succ_self _)
    split
    · omega
    · rw [List.length_cons]; omega
  rw [this] <;> rfl
/-! ### chords -/
def endOf (t : Bytes) : Option (Nat × Nat × Bool) := if t.head? = some 93 then longOf (t.drop 1) else none
def sortP (acc : List Pitch) : List Pitch := acc.foldl (fun ps p => putPitch p ps) []
theorem sortP_snoc (acc : List Pitch) (p : Pitch) : sortP (acc ++ [p]) = putPitch p (sortP acc) := by
  unfold sortP; rw [List.foldl_append]; rfl
theorem sortP_mem {q : Pitch} (acc : List Pitch) : q ∈ sortP acc ↔ q ∈ acc := by
  have key : ∀ (l : List Pitch) (ps : List Pitch), q ∈ l.foldl (fun ps p => putPitch p ps) ps ↔ q ∈ ps ∨ q ∈ l := by
    intro l
    induction l with
    | nil => intro ps; simp
    | cons a l ih =>
      intro ps
      rw [List.foldl_cons, ih, put_mem, List.mem_cons]
      constructor
      · rintro ((h | h) | h)
        · exact .inr (.inl h)
        · exact .inl h
        · exact .inr (.inr h)
      · rintro (h | h | h)
        · exact .inl (.inr h)
        · exact .inl (.inl h)
        · exact .inr h
  have := key acc []
  unfold sortP
  simpa using this
theorem sortP_len (acc : List Pitch) : (sortP acc).length = acc.length := by
  have key : ∀ (l : List Pitch) (ps : List Pitch), (l.foldl (fun ps p => putPitch p ps) ps).length = ps.length + l.length := by
    intro l
    induction l with
    | nil => intro ps; simp
    | cons a l ih =>
      intro ps
      rw [List.foldl_cons, ih, put_len, List.length_cons]; omega
  have := key acc []
  unfold sortP
  simpa using this
def pitchesFrom (e : Nat) : List Pitch → List Word → R (List Pitch × List Word)
  | _, [] => bad e
  | acc, w :: l => if 2 ≤ acc.length ∧ (endOf w.text).isSome = true then .ok (acc, w :: l) else match cPitch w.text with
    | some p => if p ∈ acc ∨ 6 ≤ acc.length then bad w.place else pitchesFrom e (acc ++ [p]) l
    | none => bad w.place
theorem pitch_close {t : Bytes} (h : t.head? = some 93) : cPitch t = none := by
  cases e : cPitch t with
  | none => rfl
  | some p =>
    obtain ⟨e1, e2, _⟩ := cPitch_iff.mp e
    rw [e1] at h
    unfold pitchText at h
    injection h with h
    have : ∀ k, k < 7 → LETTERS.getD k 99 ≠ 93 := by decide
    exact absurd h (this _ e2)
theorem chord_pitches : ∀ (l : List Word) (e pl : Nat) (acc : List Pitch), chordFrom e pl (sortP acc) l = match pitchesFrom e acc l with
    | .error f => .error f
    | .ok x => match x.2 with
      | [] => bad e
      | w :: r => match endOf w.text with
        | none => bad w.place
        | some y => .ok (.note pl (sortP x.1) y.1 y.2.1 y.2.2, r)
  | [], e, pl, acc => by rw [chord_nil]; rfl
  | w :: l, e, pl, acc => by
    unfold pitchesFrom
    by_cases h : w.text.head? = some 93
    · rw [chord_end h]
      have he : endOf w.text = longOf (w.text.drop 1) := if_pos h
      rw [sortP_len, he]
      cases e1 : longOf (w.text.drop 1) with
      | none =>
        rw [if_neg (by simp), pitch_close h]; rfl
      | some y =>
        dsimp only
        by_cases h2 : acc.length < 2
        · rw [if_pos h2, if_neg (by omega), pitch_close h]; rfl
        · rw [if_neg h2, if_pos ⟨by omega, rfl⟩]
          dsimp only
          rw [he, e1]
    · rw [chord_pitch h]
      have he : endOf w.text = none := if_neg h
      rw [he, if_neg (by simp), cPitch_eq]
      cases wholeP w.text with
      | none => rfl
      | some p =>
        dsimp only
        have hc : ((sortP acc).contains p = true ∨ 6 ≤ (sortP acc).length) ↔ (p ∈ acc ∨ 6 ≤ acc.length) := by
          rw [List.contains_iff_mem, sortP_mem, sortP_len]
        by_cases c : p ∈ acc ∨ 6 ≤ acc.length
        · rw [if_pos (hc.mpr c), if_pos c]; rfl
        · rw [if_neg (fun z => c (hc.mp z)), if_neg c, ← sortP_snoc]
          exact chord_pitches l e pl (acc ++ [p])
theorem pitches_cons {e : Nat} {acc : List Pitch} {w : Word} {l : List Word} : pitchesFrom e acc (w :: l) = if 2 ≤ acc.length ∧ (endOf w.text).isSome = true then .ok (acc, w :: l) else match cPitch w.text with
    | some p => if p ∈ acc ∨ 6 ≤ acc.length then bad w.place else pitchesFrom e (acc ++ [p]) l
    | none => bad w.place := by
  conv => lhs; unfold pitchesFrom
/-- the order of pitches -/
def pKey (p : Pitch) : Nat := p.octave * 100 + p.letter * 10 + p.sign
theorem lower_key {p q : Pitch} (hp : PitchOk p) (hq : PitchOk q) : lower p q = decide (pKey p < pKey q) := by
  obtain ⟨a1, a2, a3⟩ := hp
  obtain ⟨b1, b2, b3⟩ := hq
  unfold lower pKey
  rw [Bool.eq_iff_iff]
  simp only [Bool.or_eq_true, Bool.and_eq_true, decide_eq_true_eq, beq_iff_eq]
  omega
theorem put_sorted {p : Pitch} (hp : PitchOk p) : ∀ {l : List Pitch}, (∀ q ∈ l, PitchOk q) → p ∉ l → l.Pairwise (fun a b => pKey a < pKey b) → (putPitch p l).Pairwise fun a b => pKey a < pKey b
  | [], _, _, _ => by simp [putPitch]
  | q :: l, h, hn, hs => by
    unfold putPitch
    have hq := h q List.mem_cons_self
    rw [lower_key hp hq]
    rw [List.pairwise_cons] at hs
    by_cases c : pKey p < pKey q
    · rw [if_pos (decide_eq_true c), List.pairwise_cons, List.pairwise_cons]
      refine ⟨fun a ha => ?_, hs⟩
      rcases List.mem_cons.mp ha with rfl | ha
      · exact c
      · exact Nat.lt_trans c (hs.1 a ha)
    · rw [if_neg (by rw [decide_eq_false c]; decide), List.pairwise_cons]
      refine ⟨fun a ha => ?_, put_sorted hp (fun x hx => h x (List.mem_cons_of_mem _ hx)) (fun z => hn (List.mem_cons_of_mem _ z)) hs.2⟩
      rcases put_mem.mp ha with rfl | ha
      · have : pKey q ≠ pKey a := by
          intro z
          apply hn
          have : q = a := by
            obtain ⟨a1, a2, a3⟩ := hp
            obtain ⟨b1, b2, b3⟩ := hq
            unfold pKey at z
            obtain ⟨l1, s1, o1⟩ := q
            obtain ⟨l2, s2, o2⟩ := a
            simp only at *
            have : l1 = l2 ∧ s1 = s2 ∧ o1 = o2 := by omega
            obtain ⟨rfl, rfl, rfl⟩ := this
            rfl
          rw [this]; exact List.mem_cons_self
        omega
      · exact hs.1 a ha
theorem pKey_inj {p q : Pitch} (hp : PitchOk p) (hq : PitchOk q) (h : pKey p = pKey q) : p = q := by
  obtain ⟨a1, a2, a3⟩ := hp
  obtain ⟨b1, b2, b3⟩ := hq
  unfold pKey at h
  obtain ⟨l1, s1, o1⟩ := p
  obtain ⟨l2, s2, o2⟩ := q
  simp only at *
  have : l1 = l2 ∧ s1 = s2 ∧ o1 = o2 := by omega
  obtain ⟨rfl, rfl, rfl⟩ := this
  rfl
theorem sortP_sorted : ∀ (acc : List Pitch), (∀ p ∈ acc, PitchOk p) → acc.Nodup → (sortP acc).Pairwise fun a b => pKey a < pKey b := by
  intro acc
  generalize hn : acc.length = n
  induction n generalizing acc with
  | zero =>
    intro _ _
    rw [List.length_eq_zero_iff.mp hn]; simp [sortP]
  | succ n ih =>
    intro h1 h2
    rcases List.eq_nil_or_concat acc with rfl | ⟨l, p, rfl⟩
    · simp at hn
    · rw [List.concat_eq_append] at *
      rw [sortP_snoc]
      have h3 : (∀ q ∈ l, PitchOk q) := fun q hq => h1 q (List.mem_append_left _ hq)
      rw [List.nodup_append] at h2
      refine put_sorted (h1 p (by simp)) (fun q hq => h3 q ((sortP_mem l).mp hq)) (fun z => ?_) (ih l (by simp at hn; exact hn) h3 h2.1)
      exact h2.2.2 p ((sortP_mem l).mp z) p (by simp) rfl
end Sco
namespace Sco
open Sx62
def readKey (e : Nat) : List Word → R (Bytes × List Word)
  | [] => .ok ([], [])
  | k :: r => if k.text = KEY then (match r with
      | [] => bad e
      | n :: r => match keyOf n.text with
        | none => bad n.place
        | some _ => .ok (n.text, r))
    else .ok ([], k :: r)
theorem readKey_none {e : Nat} {k : Word} {r : List Word} (h : ¬ k.text = KEY) : readKey e (k :: r) = .ok ([], k :: r) := by
  show (if k.text = KEY then _ else _) = _
  rw [if_neg h]
theorem readKey_end {e : Nat} {k : Word} (h : k.text = KEY) : readKey e [k] = bad e := by
  show (if k.text = KEY then _ else _) = _
  rw [if_pos h]
theorem readKey_some {e : Nat} {k n : Word} {r : List Word} (h : k.text = KEY) : readKey e (k :: n :: r) = match keyOf n.text with
    | none => bad n.place
    | some _ => .ok (n.text, r) := by
  show (if k.text = KEY then _ else _) = _
  rw [if_pos h]
/-! ### voices -/
def readVoice (e : Nat) (names : List Bytes) : List Word → R (Voice × List Word)
  | [] => bad e
  | [w] => if w.text ≠ VOICE then bad w.place else bad e
  | w :: n :: l => if w.text ≠ VOICE then bad w.place else if isName n.text = false then bad n.place
    else if n.text ∈ names ∨ names.length = 4 then .error ⟨4, n.place⟩
    else match barsFrom e (l.length + 1) [] l with
      | .error x => .error x
      | .ok x => .ok (⟨n.text, x.1, x.2.1⟩, x.2.2)
theorem rv_word {e : Nat} {names : List Bytes} {w : Word} {l : List Word} (h : w.text ≠ VOICE) : readVoice e names (w :: l) = bad w.place := by
  cases l with
  | nil => show (if w.text ≠ VOICE then _ else _) = _; rw [if_pos h]
  | cons n l => show (if w.text ≠ VOICE then _ else _) = _; rw [if_pos h]
theorem rv_end {e : Nat} {names : List Bytes} {w : Word} (h : w.text = VOICE) : readVoice e names [w] = bad e := by
  show (if w.text ≠ VOICE then _ else _) = _; rw [if_neg fun z => z h]
theorem rv_name {e : Nat} {names : List Bytes} {w n : Word} {l : List Word} (h : w.text = VOICE) : readVoice e names (w :: n :: l) = if isName n.text = false then bad n.place
    else if n.text ∈ names ∨ names.length = 4 then .error ⟨4, n.place⟩
    else match barsFrom e (l.length + 1) [] l with
      | .error x => .error x
      | .ok x => .ok (⟨n.text, x.1, x.2.1⟩, x.2.2) := by
  show (if w.text ≠ VOICE then _ else _) = _; rw [if_neg fun z => z h]
def vcs (e : Nat) (acc : List Voice) (rest : List Word) : R (List Voice) := voicesFrom e (rest.length + 1) acc rest
theorem voices_fuel : ∀ {f g e : Nat} {acc : List Voice} {l : List Word}, l.length < f → l.length < g → voicesFrom e f acc l = voicesFrom e g acc l
  | 0, g, e, acc, l, h, _ => by omega
  | f + 1, 0, e, acc, l, _, h => by omega
  | f + 1, g + 1, e, acc, [], _, _ => by rw [voices_nil, voices_nil]
  | f + 1, g + 1, e, acc, [w], _, _ => by rw [voices_one, voices_one]
  | f + 1, g + 1, e, acc, w :: n :: l, h1, h2 => by
    rw [voices_cons, voices_cons]
    rw [List.length_cons, List.length_cons] at h1 h2
    cases e2 : barsFrom e (l.length + 1) [] l with
    | error x => rfl
    | ok x =>
      have := bars_less e2
      dsimp only
      rw [voices_fuel (f := f) (g := g) (by omega) (by omega)]
theorem vcs_nil {e : Nat} {acc : List Voice} (h : acc ≠ []) : vcs e acc [] = .ok acc.reverse := by
  unfold vcs
  rw [voices_nil, if_neg h]
theorem vcs_step {e : Nat} {acc : List Voice} {rest : List Word} (h : rest ≠ [] ∨ acc = []) (hl : acc.length ≤ 4) : vcs e acc rest = match readVoice e (acc.reverse.map fun v => v.name) rest with
    | .error x => .error x
    | .ok x => vcs e (x.1 :: acc) x.2 := by
  unfold vcs
  match rest with
  | [] =>
    rcases h with h | h
    · exact absurd rfl h
    · rw [voices_nil, if_pos h]; rfl
  | [w] =>
    rw [voices_one]
    by_cases h1 : w.text = VOICE
    · rw [if_neg fun z => z h1, rv_end h1]; rfl
    · rw [if_pos h1, rv_word h1]; rfl
  | w :: n :: l =>
    rw [voices_cons]
    by_cases h1 : w.text = VOICE
    · rw [if_neg fun z => z h1, rv_name h1]
      by_cases h2 : isName n.text = false
      · rw [if_pos h2, if_pos h2]; rfl
      · rw [if_neg h2, if_neg h2]
        have hc : (4 ≤ acc.length ∨ (acc.any fun v => v.name == n.text) = true) ↔ (n.text ∈ acc.reverse.map (fun v => v.name) ∨ (acc.reverse.map (fun v => v.name)).length = 4) := by
          rw [List.any_eq_true, List.length_map, List.length_reverse]
          constructor
          · rintro (z | ⟨v, hv, ev⟩)
            · exact .inr (by omega)
            · exact .inl (List.mem_map.mpr ⟨v, List.mem_reverse.mpr hv, eq_of_beq ev⟩)
          · rintro (z | z)
            · obtain ⟨v, hv, ev⟩ := List.mem_map.mp z
              exact .inr ⟨v, List.mem_reverse.mp hv, beq_iff_eq.mpr ev⟩
            · exact .inl (by omega)
        by_cases h3 : n.text ∈ acc.reverse.map (fun v => v.name) ∨ (acc.reverse.map (fun v => v.name)).length = 4
        · rw [if_pos (hc.mpr h3), if_pos h3]
        · rw [if_neg (fun z => h3 (hc.mp z)), if_neg h3]
          cases e2 : barsFrom e (l.length + 1) [] l with
          | error x => rfl
          | ok x =>
            have := bars_less e2
            dsimp only
            exact voices_fuel (by rw [List.length_cons, List.length_cons]; omega) (Nat.lt_succ_self _)
    · rw [if_pos h1, rv_word h1]; rfl
theorem rv_less {e : Nat} {names : List Bytes} {rest : List Word} {x : Voice × List Word} (h : readVoice e names rest = .ok x) : x.2.length < rest.length := by
  match rest, h with
  | [], h => cases h
  | [w], h =>
    by_cases h1 : w.text = VOICE
    · rw [rv_end h1] at h; cases h
    · rw [rv_word h1] at h; cases h
  | w :: n :: l, h =>
    by_cases h1 : w.text = VOICE
    · rw [rv_name h1] at h
      split at h
      · cases h
      · split at h
        · cases h
        · split at h
          · cases h
          · rename_i y hy
            have := bars_less hy
            injection h with h
            subst h
            rw [List.length_cons, List.length_cons]
            show y.2.2.length < _
            omega
    · rw [rv_word h1] at h; cases h
/-! ### the whole -/
def keyVal (t : Bytes) : Int := (keyOf t).getD 0
theorem keyOf_nil : keyOf [] = none := by decide
theorem rest_key {e : Nat} {x : Nat × Nat} {l : List Word} : parseRest e x l = match readKey e l with
    | .error f => .error f
    | .ok y => match vcs e [] y.2 with
      | .error f => .error f
      | .ok v => .ok ⟨x.1, x.2, keyVal y.1, v⟩ := by
  match l with
  | [] => rfl
  | [k] =>
    rw [rest_cons]
    by_cases h : k.text = KEY
    · rw [if_pos h, readKey_end h]; rfl
    · rw [if_neg h, readKey_none h]; rfl
  | k :: n :: r =>
    rw [rest_cons]
    by_cases h : k.text = KEY
    · rw [if_pos h, readKey_some h]
      dsimp only
      cases e1 : keyOf n.text with
      | none => rfl
      | some z =>
        have : keyVal n.text = z := by unfold keyVal; rw [e1]; rfl
        dsimp only
        rw [this]; rfl
    · rw [if_neg h, readKey_none h]; rfl
theorem key_text {t : Bytes} {z : Int} (h : keyOf t = some z) : z ≠ 0 ∧ t = (if z < 0 then [45] else []) ++ dec z.natAbs := by
  obtain ⟨n, h1, h2, ⟨e, ez⟩ | ⟨e, ez⟩⟩ := keyOf_iff.mp h
  · refine ⟨by omega, ?_⟩
    rw [if_pos (by omega), e, ez]
    congr 1
    congr 1
    omega
  · refine ⟨by omega, ?_⟩
    rw [if_neg (by omega), e, ez]
    show dec n = [] ++ dec n
    rfl
theorem readKey_text {e : Nat} {l : List Word} {y : Bytes × List Word} (h : readKey e l = .ok y) : y.1 = [] ∨ ∃ z, keyOf y.1 = some z := by
  match l, h with
  | [], h => injection h with h; subst h; exact .inl rfl
  | [k], h =>
    by_cases c : k.text = KEY
    · rw [readKey_end c] at h; cases h
    · rw [readKey_none c] at h; injection h with h; subst h; exact .inl rfl
  | k :: n :: r, h =>
    by_cases c : k.text = KEY
    · rw [readKey_some c] at h
      cases e1 : keyOf n.text with
      | none => rw [e1] at h; cases h
      | some z => rw [e1] at h; injection h with h; subst h; exact .inr ⟨z, e1⟩
    · rw [readKey_none c] at h; injection h with h; subst h; exact .inl rfl
end Sco
namespace Sco
open Sx62
/-! ### how great what is read can be -/
def pw (x : Piece) : Nat := (pieceWords x).length
def pws (l : List Piece) : Nat := (l.map pw).sum
def bw (b : Bar) : Nat := (barWords b).length
def vw (v : Voice) : Nat := 3 + (v.bars.map bw).sum
theorem pws_cons (x : Piece) (l : List Piece) : pws (x :: l) = pw x + pws l := rfl
theorem pws_rev (l : List Piece) : pws l.reverse = pws l := by
  unfold pws
  rw [List.map_reverse, List.sum_reverse]
theorem flat_words : ∀ l : List Piece, (l.flatMap pieceWords).length = pws l
  | [] => rfl
  | x :: l => by rw [List.flatMap_cons, List.length_append, flat_words l]; rfl
theorem bw_eq (b : Bar) : bw b = (if b.short = true then 1 else 0) + pws b.pieces + 1 := by
  unfold bw barWords
  rw [List.length_append, List.length_append, flat_words]
  split <;> simp
theorem pw_chord {p k d : Nat} {t : Bool} {qs : List Pitch} (h : 2 ≤ qs.length) : pw (.note p qs k d t) = qs.length + 2 := by
  match qs, h with
  | a :: b :: r, _ =>
    show ([91] :: ((a :: b :: r).map pitchText ++ [93 :: longText k d t])).length = _
    simp
theorem mz_chord : ∀ {l : List Word} {e pl : Nat} {ps : List Pitch} {x : Piece × List Word}, chordFrom e pl ps l = .ok x → ∃ qs k d t, x.1 = .note pl qs k d t ∧ 2 ≤ qs.length ∧ qs.length + 1 + x.2.length = ps.length + l.length
  | [], e, pl, ps, x, h => by rw [chord_nil] at h; cases h
  | w :: l, e, pl, ps, x, h => by
    by_cases h1 : w.text.head? = some 93
    · rw [chord_end h1] at h
      split at h
      · cases h
      · rename_i y hy
        split at h
        · cases h
        · injection h with h; subst h
          obtain ⟨k, d, t⟩ := y
          exact ⟨ps, k, d, t, rfl, by omega, by show ps.length + 1 + l.length = _; rw [List.length_cons]; omega⟩
    · rw [chord_pitch h1] at h
      split at h
      · rename_i p hpw
        split at h
        · cases h
        · obtain ⟨qs, k, d, t, h2, h3, h4⟩ := mz_chord h
          rw [put_len] at h4
          exact ⟨qs, k, d, t, h2, h3, by rw [List.length_cons]; omega⟩
      · cases h
theorem note_pw {t : Bytes} {x : List Pitch × Nat × Nat × Bool} {pl : Nat} (h : cNote t = some x) : pw (.note pl x.1 x.2.1 x.2.2.1 x.2.2.2) = 1 := by
  obtain ⟨_, h1, h2, h3⟩ := cNote_text h
  rcases h3 with ⟨e, _⟩ | ⟨p, e, ok⟩
  · rw [e]; rfl
  · rw [e]; rfl
theorem mz_pieces : ∀ {f e d : Nat} {acc : List Piece} {l : List Word} {x : List Piece × Nat × List Word}, piecesFrom e f d acc l = .ok x → pws x.1 + 1 + x.2.2.length = pws acc + l.length
  | 0, e, d, acc, l, x, h => by rw [pieces_zero] at h; cases h
  | f + 1, e, d, acc, [], x, h => by rw [pieces_nil] at h; cases h
  | f + 1, e, d, acc, w :: l, x, h => by
    rw [pieces_cons] at h
    rw [List.length_cons]
    split at h
    · split at h
      · injection h with h; subst h
        show pws acc.reverse + 1 + l.length = _
        rw [pws_rev]; omega
      · cases h
    · split at h
      · split at h
        · have := mz_pieces h
          rw [pws_cons] at this
          have e1 : pw .closes = 1 := rfl
          omega
        · cases h
      · split at h
        · rename_i y hy
          split at h
          · cases h
          · have := mz_pieces h
            rw [pws_cons] at this
            have e1 : pw (.opens y.1 y.2) = 1 := rfl
            omega
        · split at h
          · split at h
            · cases h
            · rename_i y hc
              obtain ⟨qs, k, dd, t, e1, e2, e3⟩ := mz_chord hc
              have := mz_pieces h
              rw [pws_cons, e1, pw_chord e2] at this
              have : ([] : List Pitch).length = 0 := rfl
              omega
          · split at h
            · cases h
            · rename_i y hc
              have := mz_pieces h
              rw [pws_cons, note_pw hc] at this
              omega
def bws (l : List Bar) : Nat := (l.map bw).sum
theorem bws_cons (b : Bar) (l : List Bar) : bws (b :: l) = bw b + bws l := rfl
theorem bws_rev (l : List Bar) : bws l.reverse = bws l := by
  unfold bws
  rw [List.map_reverse, List.sum_reverse]
theorem mz_bars : ∀ {f e : Nat} {acc : List Bar} {l : List Word} {x : List Bar × Nat × List Word}, barsFrom e f acc l = .ok x → bws x.1 + 1 + x.2.2.length = bws acc + l.length
  | 0, e, acc, l, x, h => by unfold barsFrom at h; cases h
  | f + 1, e, acc, [], x, h => by rw [bars_nil] at h; cases h
  | f + 1, e, acc, w :: l, x, h => by
    rw [bars_cons] at h
    rw [List.length_cons]
    split at h
    · split at h
      · cases h
      · injection h with h; subst h
        show bws acc.reverse + 1 + l.length = _
        rw [bws_rev]; omega
    · split at h
      · cases h
      · rename_i y hy
        have h1 := mz_bars h
        have h2 := mz_pieces hy
        rw [bws_cons, bw_eq] at h1
        have h3 : pws ([] : List Piece) = 0 := rfl
        by_cases hs : w.text = SHORT
        · rw [if_pos hs] at h2
          rw [if_pos (show (w.text == SHORT) = true from beq_iff_eq.mpr hs)] at h1
          dsimp only at h1
          omega
        · rw [if_neg hs, List.length_cons] at h2
          rw [if_neg (by intro z; exact hs (beq_iff_eq.mp z))] at h1
          dsimp only at h1
          omega
def vws (l : List Voice) : Nat := (l.map vw).sum
theorem vws_cons (b : Voice) (l : List Voice) : vws (b :: l) = vw b + vws l := rfl
theorem vws_rev (l : List Voice) : vws l.reverse = vws l := by
  unfold vws
  rw [List.map_reverse, List.sum_reverse]
theorem mz_voices : ∀ {f e : Nat} {acc : List Voice} {l : List Word} {x : List Voice}, (∀ v ∈ acc, v.name.length ≤ 8) → voicesFrom e f acc l = .ok x → vws x = vws acc + l.length ∧ ∀ v ∈ x, v.name.length ≤ 8
  | 0, e, acc, l, x, _, h => by unfold voicesFrom at h; cases h
  | f + 1, e, acc, [], x, ho, h => by
    rw [voices_nil] at h
    split at h
    · cases h
    · injection h with h; subst h
      exact ⟨by rw [vws_rev]; rfl, fun v hv => ho v (List.mem_reverse.mp hv)⟩
  | f + 1, e, acc, [w], x, ho, h => by
    rw [voices_one] at h
    split at h <;> cases h
  | f + 1, e, acc, w :: n :: l, x, ho, h => by
    rw [voices_cons] at h
    split at h
    · cases h
    · split at h
      · cases h
      · rename_i hn
        split at h
        · cases h
        · split at h
          · cases h
          · rename_i y hy
            have h1 := mz_bars hy
            obtain ⟨h2, h3⟩ := mz_voices (fun v hv => by
              rcases List.mem_cons.mp hv with rfl | hv
              · have hnm : isName n.text = true := by cases hh : isName n.text with
                  | true => rfl
                  | false => exact absurd hh hn
                unfold isName at hnm
                exact of_decide_eq_true (Bool.and_eq_true_iff.mp (Bool.and_eq_true_iff.mp hnm).2).1
              · exact ho v hv) h
            refine ⟨?_, h3⟩
            rw [vws_cons] at h2
            have h4 : vw ⟨n.text, y.1, y.2.1⟩ = 3 + bws y.1 := rfl
            have h5 : bws ([] : List Bar) = 0 := rfl
            rw [List.length_cons, List.length_cons]
            omega
theorem mz_parse {e : Nat} {l : List Word} {s : Score} (h : parse e l = .ok s) : vws s.voices ≤ l.length ∧ ∀ v ∈ s.voices, v.name.length ≤ 8 := by
  match l, h with
  | [], h => cases h
  | [w], h =>
    rw [parse_one] at h
    split at h <;> cases h
  | w :: m :: l, h =>
    rw [parse_two] at h
    split at h
    · cases h
    · cases hx : metreOf m.text with
      | none => rw [hx] at h; cases h
      | some x =>
        rw [hx] at h
        dsimp only at h
        rw [List.length_cons, List.length_cons]
        cases l with
        | nil => cases h
        | cons k r =>
          rw [rest_cons] at h
          rw [List.length_cons]
          by_cases hk : k.text = KEY
          · rw [if_pos hk] at h
            cases r with
            | nil => cases h
            | cons n r =>
              dsimp only at h
              rw [List.length_cons]
              cases hz : keyOf n.text with
              | none => rw [hz] at h; cases h
              | some z =>
                rw [hz] at h
                dsimp only at h
                cases hv : voicesFrom e (r.length + 1) [] r with
                | error y => rw [hv] at h; cases h
                | ok v =>
                  rw [hv] at h
                  injection h with h
                  subst h
                  obtain ⟨a, b⟩ := mz_voices (fun v hv => by cases hv) hv
                  have : vws ([] : List Voice) = 0 := rfl
                  exact ⟨by dsimp only; omega, b⟩
          · rw [if_neg hk] at h
            cases hv : voicesFrom e ((k :: r).length + 1) [] (k :: r) with
            | error y => rw [hv] at h; cases h
            | ok v =>
              rw [hv] at h
              injection h with h
              subst h
              obtain ⟨a, b⟩ := mz_voices (fun v hv => by cases hv) hv
              have : vws ([] : List Voice) = 0 := rfl
              rw [List.length_cons] at a
              exact ⟨by dsimp only; omega, b⟩
end Sco
namespace Sco
open Sx62
/-! ### place, in units -/
/-- x/b = a/c in small, y likewise: which one is less -/
theorem less_low {a b c d : Nat} (hb : 0 < b) (hd : 0 < d) : less (lowest a b) (lowest c d) = decide (a * d < c * b) := by
  unfold less
  have p1 := lowest_cross (a := a) (b := b)
  have p2 := lowest_cross (a := c) (b := d)
  have d1 := lowest_den_pos (a := a) hb
  have d2 := lowest_den_pos (a := c) hd
  generalize (lowest a b).num = x at *
  generalize (lowest a b).den = y at *
  generalize (lowest c d).num = z at *
  generalize (lowest c d).den = w at *
  refine decide_eq_decide.mpr ?_
  -- x * b = a * y, z * d = c * w
  have k1 : (x * w) * (b * d) = (a * d) * (y * w) := by
    calc (x * w) * (b * d) = (x * b) * (w * d) := by simp only [Nat.mul_comm, Nat.mul_left_comm, Nat.mul_assoc]
      _ = (a * y) * (w * d) := by rw [p1]
      _ = (a * d) * (y * w) := by simp only [Nat.mul_comm, Nat.mul_left_comm, Nat.mul_assoc]
  have k2 : (z * y) * (b * d) = (c * b) * (y * w) := by
    calc (z * y) * (b * d) = (z * d) * (y * b) := by simp only [Nat.mul_comm, Nat.mul_left_comm, Nat.mul_assoc]
      _ = (c * w) * (y * b) := by rw [p2]
      _ = (c * b) * (y * w) := by simp only [Nat.mul_comm, Nat.mul_left_comm, Nat.mul_assoc]
  have hbd : 0 < b * d := Nat.mul_pos hb hd
  have hyw : 0 < y * w := Nat.mul_pos d1 d2
  constructor
  · intro h
    have := Nat.mul_lt_mul_of_pos_right h hbd
    rw [k1, k2] at this
    exact Nat.lt_of_mul_lt_mul_right this
  · intro h
    have := Nat.mul_lt_mul_of_pos_right h hyw
    rw [← k1, ← k2] at this
    exact Nat.lt_of_mul_lt_mul_right this
theorem less_time {n d u : Nat} (hd : 0 < d) : less (lowest n d) (fr u) = decide (n * WH < u * d) := less_low hd WH_pos
theorem behind_time {n d u : Nat} (hd : 0 < d) : lowest ((lowest n d).num * (fr u).den - (fr u).num * (lowest n d).den) ((lowest n d).den * (fr u).den) = lowest (n * WH - u * d) (d * WH) := by
  have p1 := lowest_cross (a := n) (b := d)
  have p2 := lowest_cross (a := u) (b := WH)
  have d1 := lowest_den_pos (a := n) hd
  have d2 := lowest_den_pos (a := u) WH_pos
  show lowest ((lowest n d).num * (lowest u WH).den - (lowest u WH).num * (lowest n d).den) ((lowest n d).den * (lowest u WH).den) = _
  generalize (lowest n d).num = x at *
  generalize (lowest n d).den = y at *
  generalize (lowest u WH).num = z at *
  generalize (lowest u WH).den = w at *
  refine lowest_eq (Nat.mul_pos d1 d2) (Nat.mul_pos hd WH_pos) ?_
  rw [Nat.sub_mul, Nat.sub_mul]
  congr 1
  · calc x * w * (d * WH) = (x * d) * (w * WH) := by simp only [Nat.mul_comm, Nat.mul_left_comm, Nat.mul_assoc]
      _ = (n * y) * (w * WH) := by rw [p1]
      _ = n * WH * (y * w) := by simp only [Nat.mul_comm, Nat.mul_left_comm, Nat.mul_assoc]
  · calc z * y * (d * WH) = (z * WH) * (y * d) := by simp only [Nat.mul_comm, Nat.mul_left_comm, Nat.mul_assoc]
      _ = (u * w) * (y * d) := by rw [p2]
      _ = u * d * (y * w) := by simp only [Nat.mul_comm, Nat.mul_left_comm, Nat.mul_assoc]
/-- the bar, and where it begins -/
def whereE (n d : Nat) : Nat → List (Nat × Nat) → Option (Nat × Nat)
  | _, [] => none
  | i, x :: l => if n * WH < (x.1 + x.2) * d then some (i, x.1) else whereE n d (i + 1) l
theorem where_e {n d : Nat} (hd : 0 < d) : ∀ (l : List (Nat × Nat)) (i : Nat), whereFrom (lowest n d) i (l.map fun x => (fr x.1, fr x.2)) = (whereE n d i l).map fun y => (y.1, lowest (n * WH - y.2 * d) (d * WH))
  | [], i => rfl
  | x :: l, i => by
    show (if less (lowest n d) ((fr x.1).plus (fr x.2)) = true then some (i, _) else whereFrom (lowest n d) (i + 1) (l.map fun x => (fr x.1, fr x.2))) = Option.map _ (if n * WH < (x.1 + x.2) * d then some (i, x.1) else whereE n d (i + 1) l)
    rw [fr_plus, less_time hd, where_e hd l (i + 1)]
    by_cases h : n * WH < (x.1 + x.2) * d
    · rw [if_pos (decide_eq_true h), if_pos h]
      show some (i, lowest ((lowest n d).num * (fr x.1).den - (fr x.1).num * (lowest n d).den) ((lowest n d).den * (fr x.1).den)) = some (i, _)
      rw [behind_time hd]
    · rw [if_neg (fun z => h (of_decide_eq_true z)), if_neg h]
end Sco
namespace Sco
open PySem PySem.Spec PyProof.Rows L2
/-- the i-th statement of the program -/
def top (i : Nat) : Stmt := PySem.Challenge.pw_scoretexts_s01_answers.main.body.getD i (.Pass ⟨0, 0, 0, 0⟩)
/-- a def of the program's top -/
structure DefAt (K : PySem.W.Frag) (mg : Str → Option Value) (x : Str) (st : Stmt) where
  f : Addr
  fd : FuncData
  g : mg x = some (.ref f)
  F : Fun K x x st f fd
/-- a method of a class -/
structure MethAt (K : PySem.W.Frag) (C : Addr) (x q : Str) (st : Stmt) where
  f : Addr
  fd : FuncData
  F : Fun K x q st f fd
  M : Meth K C x f
/-- a class's __init__ -/
structure InitAt (K : PySem.W.Frag) (C : Addr) (q : Str) (st : Stmt) where
  f : Addr
  fd : FuncData
  F : Fun K "__init__" q st f fd
  M : Mk K C f
theorem pe_ki {X : Cx} {x : Str} {v : Int} {pos : Pos} (h : ∃ t, X.mg x = some (.int v t)) (hg : Gl X x := by rfl) (hd : (x == ("__debug__" : Str)) = false := by decide) : PE X (.Name x pos) (tC (.int v)) := by
  obtain ⟨t, e⟩ := h
  exact pe_glob hg e ⟨t, rfl⟩ hd
theorem pe_ks {X : Cx} {x v : Str} {pos : Pos} (h : ∃ t, X.mg x = some (.str v t)) (hg : Gl X x := by rfl) (hd : (x == ("__debug__" : Str)) = false := by decide) : PE X (.Name x pos) (tC (.str v)) := by
  obtain ⟨t, e⟩ := h
  exact pe_glob hg e ⟨t, rfl⟩ hd
theorem pe_kr {X : Cx} {x : Str} {a : Addr} {pos : Pos} (h : X.mg x = some (.ref a)) (hg : Gl X x := by rfl) (hd : (x == ("__debug__" : Str)) = false := by decide) : PE X (.Name x pos) (tC (.ref a)) := pe_glob hg h rfl hd
/-- a statement and what follows, parted by a word of one's own -/
def tMid (t u : TS) : TS := fun D σ H => ∃ M : L2.St → Hp → Prop, t { D with nx := M } σ H ∧ ∀ a b, M a b → u D a b
theorem pss_mid {X : Cx} {st : Stmt} {more : List Stmt} {t u : TS} (hs : PS X st t) (hm : PSs X more u) : PSs X (st :: more) (tMid t u) := by
  refine ⟨fun pins s σ H D I hh => ?_⟩
  obtain ⟨M, h1, h2⟩ := hh
  refine wpAny_execs_cons (thn (hs.run pins s σ H { D with nx := M } I h1) fun fl s1 q => ?_)
  cases fl with
  | next =>
    obtain ⟨a, b, J, m⟩ := q
    exact hm.run pins s1 a b D J (h2 a b m)
  | ret v => exact q
  | brk => exact q
  | cont => exact q
theorem if_t {c : Bool} {A B : Prop} (hc : c = true) (h : A) : if c = true then A else B := by
  rw [if_pos hc]; exact h
theorem if_f {c : Bool} {A B : Prop} (hc : c = false) (h : B) : if c = true then A else B := by
  rw [hc, if_neg Bool.false_ne_true]; exact h
end Sco
namespace Sco
open PySem PySem.Spec PyProof.Rows L2
/-! ### a dict of the top with text keys: d.get(k) -/
/-- what a written dict gives at each key -/
def GivesAt (K : PySem.W.Frag) (d : Addr) (f : Str → Option V) : Prop := ∀ z : Str, ∃ r, PySem.W.nsIn K d z = some r ∧ RelO (f z) r
def tKG (d : Addr) (f : Str → Option V) (td ty : TE) : TE := fun σ H Q => td σ H fun x H1 => x = .ref d ∧ ty σ H1 fun y H2 => ∃ z, y = .str z ∧ Q ((f z).getD .non) H2
theorem pe_kget {X : Cx} {o e : Expr} {apos cpos : Pos} {td ty : TE} {d : Addr} {es : Array DictEntry} {n : Nat} {f : Str → Option V} (D : KDict X.K X.w d es n) (hf : GivesAt X.K d f)
    (ho : PE X o td) (he : PE X e ty) (m : M1 X o "get" apos e cpos) : PE X (.Call (.Attribute o "get" apos) [e] [] cpos) (tKG d f td ty) := by
  refine ⟨fun pins s σ H Q I h => ?_⟩
  refine wpAny_Call_method m.base m.few m.line PySem.F.plainAttrs_dict PySem.F.slot_dict_get PySem.F.type_dict_get
    (thn (ho.run pins s σ H _ I h) fun u s1 hh => ?_)
  obtain ⟨x, H1, I1, rx, ex, q1⟩ := hh
  subst ex
  obtain rfl : u = Value.ref d := rx
  have hk := D.at_
  refine ⟨kd_type D I1, fun b eb => ?_, ?_⟩
  · cases eb
    exact ⟨_, I1.kIn _ _ hk, rfl⟩
  rw [m.trees]
  refine Calls.callWith_builtin rfl (Calls.evalArgs_plain (Calls.spliced_cons
    (thn (he.run pins s1 σ H1 _ I1 q1) fun iv s2 hh => Calls.spliced_nil ?_)))
  obtain ⟨y, H2, I2, ry, z, ey, q2⟩ := hh
  subst ey
  obtain ⟨t, rfl⟩ := ry
  obtain ⟨r, e1, e2⟩ := hf z
  have hmap := PySem.W.mapOf_K (prog := X.prog) I2.kIn hk D.lit
  refine call_meetsIn PySem.F.slot_dict_get hmap.typeIs PySem.F.entry_dict_get (PySem.F.args_dict_get_2 _ _)
    (meets_dict_get (PySem.strKind X.prog X.w) d (PySem.strKind_is X.prog X.w z t) D.low) ⟨_, hmap, ?_⟩
  refine ⟨_, H2, I2.tok _, ?_, q2⟩
  rw [PySem.W.find_K hk e1]
  cases r with
  | none =>
    cases e3 : f z with
    | none => rfl
    | some v => rw [e3] at e2; exact e2.elim
  | some u =>
    cases e3 : f z with
    | none => rw [e3] at e2; exact e2.elim
    | some v => rw [e3] at e2; exact e2
end Sco
namespace PySem
namespace FltX
open PySem.W PySem.Calls PyProof.Rows PySem.HandSPX
open Builtin Builtin.ObjectAttr
/-! ### fields of an exception whose class stands under Exception -/
def exTail : List Value := [.type "Exception", .type "BaseException", .type "object"]
theorem ex_pass (self : Value) (C : Addr) : refuseLoop self "__setattr__" (.ref C :: exTail) = pure () := by
  rw [refuseLoop_ref]
  exact F.store_Exception.passes self
theorem ex_obj (C : Addr) : (Value.ref C :: exTail).contains (.type "object") = true := by
  rw [List.contains_cons]
  rfl
section
variable {pg : Program} {wd : World} {Ar : Around} {Er : Value → Shared → Prop} {Rs : Result → Shared → Prop} {hh : Heap} {gs : Array GenState} {dr : Drawn} {tt : Nat} {oss : OsState}
variable {Kf : W.Frag} {nm : Str} {tk : Tok} {vv : Value} {x C : Addr} {fv : Array Value} {cdt : ClassData}
/-- the first field -/
theorem ex_store1 (XK : Kf.In hh) (gx : hh.get? x = some { cls := .ref C, data := .fields fv }) (hcd : W.clsIn Kf C = some cdt) (hm : cdt.mro = .ref C :: exTail) (hdi : cdt.hasDict = true)
    (hno : W.findIn Kf (.ref C) nm = some none)
    (hq : ∀ h2 tk2 dx, (∀ b o, b ≠ x → hh.get? b = some o → h2.get? b = some o) → hh.objs.size ≤ dx → dx ≠ x →
      h2.get? x = some { cls := .ref C, dict := some dx, data := .fields fv } → h2.Ns1 dx (fun y => if y = nm then some vv else none) → Rs (.ok (.ret .none)) ⟨h2, gs, dr, tk2, oss⟩) :
    codeAny (model pg wd) Ar (.call (.builtin "object.__setattr__") ⟨[.ref x, .str nm tk, vv], []⟩) Rs ⟨hh, gs, dr, tt, oss⟩ := by
  have In : W.InstAt hh x { cls := .ref C, data := .fields fv } C none := ⟨gx, rfl, rfl, trivial⟩
  have ST := F.store_object
  have hxs : x ≠ hh.objs.size := Nat.ne_of_lt (Heap.lt_size gx)
  have isub : W.Looks (model pg wd) hh (isInstance (.ref x) (.type "object")) true :=
    In.type.andThen (W.looks_mroIn XK (by unfold W.mroIn; rw [hcd, Option.bind_some, hm, if_neg (by simp), ex_obj]))
  refine codeAny_call_builtin ST.slot.plain ST.entry (@W.check_slot (model pg wd) _ _ ⟨hh, gs, dr, tt, oss⟩ "object.__setattr__" "object" "__setattr__" (.ref x) [.str nm tk, vv] [] _
    ST.kind ST.split isub (ST.args (.ref x) (.str nm tk) vv) ?_)
  have lm : W.Looks (model pg wd) hh (mroOf (.ref C)) cdt.mro := (W.looks_clsIn XK hcd).andThen .now
  have ln : W.Looks (model pg wd) hh (storeTaker? none) none := .now
  have lc : W.Looks (model pg wd) hh (classData C) cdt := W.looks_clsIn XK hcd
  rw [W.osa_eq, refuse_eq]
  refine wpAny_bind (wpAny_bind (In.type.at (wpAny_bind (lm.at ?_))))
  rw [hm, ex_pass]
  refine wpAny_pure (wpAny_bind (In.type.at (wpAny_bind ((W.looks_findIn XK hno).at (wpAny_bind (ln.at ?_))))))
  show wpAny _ _ (storeInOwnDict (.ref x) (.ref C) (.str nm tk) nm vv false) _ _ _
  obtain ⟨n1, bs, mro, ns, qn, hd, sn, sb, ab, col, del⟩ := cdt
  dsimp only at hdi
  subst hdi
  unfold storeInOwnDict ownDictForStores
  repeat (first
    | with_reducible refine store_in_new ?_ ?_
    | with_reducible refine wpAny_loadPart_at gx ?_
    | with_reducible refine lc.at ?_
    | wp_step)
  · exact ⟨_, #[], _, (Heap.get?_update_ne _ _ _ _ hxs.symm).trans (Heap.get?_push_at rfl rfl), rfl, fun e he => absurd he (by simp),
      fun _ => rfl⟩
  · intro h2 tk2 hn2 hs2
    have gx1 : (hh.push { cls := .type "dict", data := .dict #[] }).get? x = some { cls := .ref C, data := .fields fv } := Heap.get?_push_of_some _ gx
    refine hq h2 tk2 hh.objs.size (fun b o hb ho => ?_) (Nat.le_refl _) hxs.symm ?_ hn2
    · have z := hs2.2 b (Nat.ne_of_lt (Heap.lt_size ho))
      exact z.trans ((Heap.get?_update_ne _ _ _ _ hb).trans (Heap.get?_push_of_some _ ho))
    · have z := hs2.2 x hxs
      exact z.trans (Heap.get?_update_self _ gx1 rfl)
/-- a further field -/
theorem ex_store2 {dx : Addr} {m0 : Str → Option Value} {nl : List Str} (XK : Kf.In hh) (gx : hh.get? x = some { cls := .ref C, dict := some dx, data := .fields fv }) (hns : hh.Ns1 dx m0) (hw : Within m0 nl) (hz : nl.length ≤ 1000)
    (hcd : W.clsIn Kf C = some cdt) (hm : cdt.mro = .ref C :: exTail) (hdi : cdt.hasDict = true) (hno : W.findIn Kf (.ref C) nm = some none)
    (hq : ∀ h2 tk2, (∀ b o, b ≠ dx → hh.get? b = some o → h2.get? b = some o) → h2.Ns1 dx (fun y => if y = nm then some vv else m0 y) → Rs (.ok (.ret .none)) ⟨h2, gs, dr, tk2, oss⟩) :
    codeAny (model pg wd) Ar (.call (.builtin "object.__setattr__") ⟨[.ref x, .str nm tk, vv], []⟩) Rs ⟨hh, gs, dr, tt, oss⟩ := by
  obtain ⟨od, esd, epd, god, hdd, _⟩ := hns.count hw
  have In : W.InstAt hh x { cls := .ref C, dict := some dx, data := .fields fv } C (some od) := ⟨gx, rfl, rfl, god⟩
  have ST := F.store_object
  have isub : W.Looks (model pg wd) hh (isInstance (.ref x) (.type "object")) true :=
    In.type.andThen (W.looks_mroIn XK (by unfold W.mroIn; rw [hcd, Option.bind_some, hm, if_neg (by simp), ex_obj]))
  refine codeAny_call_builtin ST.slot.plain ST.entry (@W.check_slot (model pg wd) _ _ ⟨hh, gs, dr, tt, oss⟩ "object.__setattr__" "object" "__setattr__" (.ref x) [.str nm tk, vv] [] _
    ST.kind ST.split isub (ST.args (.ref x) (.str nm tk) vv) ?_)
  have lm : W.Looks (model pg wd) hh (mroOf (.ref C)) cdt.mro := (W.looks_clsIn XK hcd).andThen .now
  have ln : W.Looks (model pg wd) hh (storeTaker? none) none := .now
  have lc : W.Looks (model pg wd) hh (classData C) cdt := W.looks_clsIn XK hcd
  rw [W.osa_eq, refuse_eq]
  refine wpAny_bind (wpAny_bind (In.type.at (wpAny_bind (lm.at ?_))))
  rw [hm, ex_pass]
  refine wpAny_pure (wpAny_bind (In.type.at (wpAny_bind ((W.looks_findIn XK hno).at (wpAny_bind (ln.at ?_))))))
  show wpAny _ _ (storeInOwnDict (.ref x) (.ref C) (.str nm tk) nm vv false) _ _ _
  obtain ⟨n1, bs, mro, ns, qn, hd, sn, sb, ab, col, del⟩ := cdt
  dsimp only at hdi
  subst hdi
  unfold storeInOwnDict ownDictForStores
  repeat (first
    | with_reducible refine PySem.OEX.store_in_old hns hw hz ?_
    | with_reducible refine wpAny_loadPart_at gx ?_
    | with_reducible refine lc.at ?_
    | wp_step)
  intro h2 tk2 hn2 hs2
  exact hq h2 tk2 (fun b o hb ho => (hs2.2 b hb).trans ho) hn2
end
/-! ### the text of __init__ -/
def iA (p1 p2 p3 : Pos) : Arguments := { posonlyargs := [], args := [{ arg := "self", annotation := none, pos := p1 }, { arg := "kind", annotation := none, pos := p2 }, { arg := "place", annotation := none, pos := p3 }], vararg := none, kwonlyargs := [], kw_defaults := [], kwarg := none, defaults := [] }
def iB (q1 q2 q3 q4 r1 r2 r3 r4 : Pos) : List Stmt := [.Assign [.Attribute (.Name "self" q1) "kind" q2] (.Name "kind" q3) q4, .Assign [.Attribute (.Name "self" r1) "place" r2] (.Name "place" r3) r4]
def iS : Scope := { kind := .function, names := [(PySem.Str.ofString "self", .local), (PySem.Str.ofString "kind", .local), (PySem.Str.ofString "place", .local)], isGenerator := false, isCoroutine := false, more := [] }
/-- what the written part says of Fault, at C, and of its __init__, at fI -/
structure FaultTxt (K : Frag) (mg : Str → Option Value) (C fI : Addr) : Prop where
  gC : mg "Fault" = some (.ref C)
  cls : ∃ nm q N bs sn sub ab col dd k0 k1 k2 k3 k5, K.lookup C = some (excClassObj nm q C N bs exTail true sn sub ab col dd k0 k1 k2 k3 k5 "Exception.__new__")
  sa : findIn K (.ref C) "__setattr__" = some (some (.builtin "object.__setattr__"))
  ga : findIn K (.ref C) "__getattribute__" = some (some (.builtin "BaseException.__getattribute__"))
  gg : findIn K (.ref C) "__getattr__" = some none
  noK : findIn K (.ref C) "kind" = some none
  noP : findIn K (.ref C) "place" = some none
  iC : findIn K (.ref C) "__init__" = some (some (.ref fI))
  tC : typeIn K (.ref fI) = some (.type "function")
  kC : keepIn K (.ref C) = true
  exC : subIn K (.ref C) (.type "BaseException") = some true
  tyC : typeIn K (.ref C) = some (.type "type")
  hdC : hasDictIn K C = true
  te : exmOne K (.ref C) (.ref C) = some true
  fn : ∃ (oc : Value) (od : Option Addr) (doc pm : Value) (an : Option Addr) (cdv ct : Value) (osl : Array (Option Value)) (p1 p2 p3 q1 q2 q3 q4 r1 r2 r3 r4 : Pos),
    K.lookup fI = some ⟨oc, od, .func (fnOf "__init__" "Fault.__init__" (iA p1 p2 p3) (iB q1 q2 q3 q4 r1 r2 r3 r4) iS .none .none doc pm an cdv ct), osl⟩ ∧ codeIn K cdv "Fault.__init__" = true
theorem two_size (v u : Value) : [v, u].length ≤ sizeLine := by
  rw [sizeLine_eq]
  exact (by decide : 2 ≤ 16777216)
theorem ldF {M : Model} {s : Shared} {name : Str} {scope : Scope} {L a : Addr} {cd : Value} {m : Str → Option Value} {x : Str} {pos : Pos} {v : Value} {Q : Value → Shared → Prop} {A : Around} {E : Value → Shared → Prop} (hn : s.heap.Ns L m) (hv : m x = some v) (h : Q v s)
    (hk : scope.kind = .function := by rfl) (hl : (envOfC name scope L a cd).kindOf x = some .local := by rfl) (hd : (x == ("__debug__" : Str)) = false := by decide) :
    wpAny M A (eval (.Name x pos) (envOfC name scope L a cd)) Q E s := wpAny_Name (wpAny_loadName_local hk hl hn hv h) hd
def fmap (v u : Value) : Str → Option Value := fun y => if y = "place" then some u else if y = "kind" then some v else none
/-- what __init__ leaves of a fresh exception at x -/
structure InitEnd (h h' : Heap) (x C dx t1 : Addr) (v u : Value) : Prop where
  keep : ∀ b o, b ≠ x → h.get? b = some o → h'.get? b = some o
  obj : h'.get? x = some { cls := .ref C, dict := some dx, data := .fields #[.ref t1, .none, .none, .none, .bool false, .none] }
  dbig : h.objs.size ≤ dx
  dne : dx ≠ x
  ns : h'.Ns1 dx (fmap v u)
/-- a made Fault -/
structure OwnMade (h h' : Heap) (e C d : Addr) (v u : Value) : Prop where
  keep : ∀ b o, h.get? b = some o → h'.get? b = some o
  new : h.objs.size ≤ e
  obj : ∃ oe vs, h'.get? e = some oe ∧ oe.cls = .ref C ∧ oe.dict = some d ∧ oe.data = .fields vs ∧ vs[1]? = some .none
  dbig : h.objs.size ≤ d
  dne : d ≠ e
  ns : h'.Ns1 d (fmap v u)
section
variable {prog : Program} {w : World} {A : Around} {E : Value → Shared → Prop} {R : Result → Shared → Prop} {s : Shared} {K : Frag} {mg : Str → Option Value} {C fI : Addr}
theorem kind_within (v : Value) : Within (fun y : Str => if y = "kind" then some v else none) ["kind"] := fun y hy => by
  by_cases e : y = "kind"
  · rw [e]; exact List.mem_cons_self
  · exact absurd (if_neg e) hy
theorem fault_init (T : FaultTxt K mg C fI) {x t0 : Addr} {v u : Value} (X : K.In s.heap) (hlim : s.heap.NoLimit) (hx : s.heap.get? x = some (excO C t0)) (hnx : K.lookup x = none) (hroom : A.depth < recursionLimit)
    (hq : ∀ h' tk dx, InitEnd s.heap h' x C dx t0 v u → R (.ok (.ret .none)) { s with heap := h', toks := tk }) :
    codeAny (model prog w) A (.call (.ref fI) ⟨[.ref x, v, u], []⟩) R s := by
  obtain ⟨oc, od, doc, pm, an, cdv, ct, osl, p1, p2, p3, q1, q2, q3, q4, r1, r2, r3, r4, ho, hcd⟩ := T.fn
  obtain ⟨nm, q, N, bs, sn, sub, ab, col, dd, k0, k1, k2, k3, k5, hC⟩ := T.cls
  have hcl : clsIn K C = some { name := nm, bases := bs, mro := .ref C :: exTail, ns := N, qualname := q, hasDict := true, slotNames := sn, subclasses := sub, abstract := ab, collection := col, hasDel := false } := by unfold clsIn; rw [hC] <;> rfl
  refine Att.call_fn (binds := [("self", .ref x), ("kind", v), ("place", u)]) X hlim ho hcd hroom (BindsTo.of_eq (by first | rfl | with_unfolding_all rfl)) (by first | rfl | decide | with_unfolding_all rfl) (fun s₁ IC => ?_) rfl rfl rfl
  obtain ⟨h₁, tk₁, rfl⟩ := IC.toInCall.same
  have k : ∀ b o, s.heap.get? b = some o → h₁.get? b = some o := IC.toInCall.keep
  have hn := IC.toInCall.ns
  have hxL : s.heap.objs.size ≠ x := Nat.ne_of_gt (Heap.lt_size hx)
  have X₁ : K.In h₁ := X.keeps k
  have hx₁ := k _ _ hx
  have z : s.heap.objs.size < h₁.objs.size := hn.lt
  -- self.kind = kind
  show wpAny _ _ (execs _ _) _ _ _
  refine wpAny_execs_cons (plainObj_wpAny_Assign_Attribute ?_)
  refine ldF (v := v) hn (by first | rfl | with_unfolding_all rfl | kernel_rfl) (ldF (v := .ref x) hn (by first | rfl | with_unfolding_all rfl | kernel_rfl) ?_)
  refine set_plain X₁ (ox := excO C t0) (od := none) ⟨hx₁, rfl, rfl, trivial⟩ T.sa ?_
  refine ex_store1 X₁ hx₁ hcl rfl rfl T.noK (fun h₃ tk₃ dx k₃ dn dne hx₃ hn₃ => ?_)
  -- self.place = place
  have X₃ : K.In h₃ := fun a o e => k₃ a o (fun y => by rw [y, hnx] at e; cases e) (X₁ a o e)
  have hn3 : h₃.Ns s.heap.objs.size (bindL (envOfC "Fault.__init__" iS s.heap.objs.size fI cdv).kindOf [("self", .ref x), ("kind", v), ("place", u)] fun _ => none) := by
    obtain ⟨o, es, ep, g, r⟩ := hn
    exact ⟨o, es, ep, k₃ _ _ hxL g, r⟩
  obtain ⟨oD, eD, pD, gD, _, _⟩ := hn₃.count (kind_within v)
  show wpAny _ _ (execs _ _) _ _ _
  refine wpAny_execs_cons (plainObj_wpAny_Assign_Attribute ?_)
  refine ldF (v := u) hn3 (by first | rfl | with_unfolding_all rfl | kernel_rfl) (ldF (v := .ref x) hn3 (by first | rfl | with_unfolding_all rfl | kernel_rfl) ?_)
  refine set_plain X₃ (ox := { cls := .ref C, dict := some dx, data := .fields #[.ref t0, .none, .none, .none, .bool false, .none] }) (od := some oD) ⟨hx₃, rfl, rfl, gD⟩ T.sa ?_
  refine ex_store2 X₃ hx₃ hn₃ (kind_within v) (by decide) hcl rfl rfl T.noP (fun h₄ tk₄ k₄ hn₄ => ?_)
  show wpAny _ _ (execs _ _) _ _ _
  refine wpAny_execs_nil (hq h₄ tk₄ dx ⟨fun b o hb e => ?_, k₄ _ _ (Ne.symm dne) hx₃, Nat.le_of_lt (Nat.lt_of_lt_of_le z dn), dne, hn₄⟩)
  have e1 := k b o e
  exact k₄ b o (Nat.ne_of_lt (Nat.lt_of_lt_of_le (Heap.lt_size e1) dn)) (k₃ b o hb e1)
theorem fault_made (T : FaultTxt K mg C fI) {v u : Value} (X : K.In s.heap) (hlim : s.heap.NoLimit) (hroom : A.depth + 1 < recursionLimit)
    (hq : ∀ h' tk e d, OwnMade s.heap h' e C d v u → R (.ok (.ret (.ref e))) { s with heap := h', toks := tk }) :
    codeAny (model prog w) A (.call (.ref C) ⟨[v, u], []⟩) R s := by
  obtain ⟨nm, q, N, bs, sn, sub, ab, col, dd, k0, k1, k2, k3, k5, hC⟩ := T.cls
  obtain ⟨hp, g, dr, tk, os⟩ := s
  have k : ∀ b o, hp.get? b = some o → ((hp.push (kdv_tup [v, u])).push (excO C hp.objs.size)).get? b = some o := fun b o e => Heap.get?_push_of_some _ (Heap.get?_push_of_some _ e)
  have hget : ((hp.push (kdv_tup [v, u])).push (excO C hp.objs.size)).get? (hp.objs.size + 1) = some (excO C hp.objs.size) := by heap_get
  have hnx : K.lookup (hp.objs.size + 1) = none := by
    cases e : K.lookup (hp.objs.size + 1) with
    | none => rfl
    | some o =>
      have z : hp.get? (hp.objs.size + 1) = some o := X _ _ e
      exact absurd (Nat.lt_of_succ_lt (Heap.lt_size z)) (Nat.lt_irrefl _)
  refine call_own F.excBase_Exception (fun Y => rfl) (X _ _ hC) (looks_findIn X T.iC) (fun self => bind_fn X self T.tC) (two_size v u) ?_
  refine fault_init (s := ⟨(hp.push (kdv_tup [v, u])).push (excO C hp.objs.size), g, dr, tk, os⟩) T (X.keeps k) (hlim.keeps k) hget hnx ?_ fun h' tk' dx ⟨k', hx, dn, dne, hns⟩ => ?_
  · show A.depth + 1 < recursionLimit
    exact hroom
  · have old : ∀ b o, hp.get? b = some o → h'.get? b = some o := fun b o e => k' b o (Nat.ne_of_lt (Nat.lt_succ_of_lt (Heap.lt_size e))) (k b o e)
    have z : hp.objs.size + 1 + 1 ≤ dx := by
      first
        | (simpa only [Heap.size_push] using dn)
        | exact dn
        | (have q := dn; rw [Heap.size_push, Heap.size_push] at q; exact q)
    exact ⟨rfl, hq h' tk' (hp.objs.size + 1) dx ⟨old, Nat.le_succ _, ⟨_, _, hx, rfl, rfl, rfl, rfl⟩, Nat.le_trans (Nat.le_trans (Nat.le_succ _) (Nat.le_succ _)) z, dne, hns⟩⟩
end
end FltX
end PySem

namespace L2
open PySem PySem.Spec PyProof.Rows
def fFlds (v u : V) : List (Str × V) := [("place", u), ("kind", v)]
theorem relO_fault {v u : V} {v' u' : Value} (rv : RelV v v') (ru : RelV u u') (f : Str) : RelO (List.lookup f (fFlds v u)) (PySem.FltX.fmap v' u' f) := by
  unfold fFlds PySem.FltX.fmap
  by_cases h1 : f = "place"
  · subst h1
    rw [if_pos rfl, show List.lookup ("place" : Str) [(("place" : Str), u), (("kind" : Str), v)] = some u by simp [List.lookup]]
    exact ru
  · have q1 : (f == ("place" : Str)) = false := by simpa using h1
    rw [if_neg h1]
    by_cases h2 : f = "kind"
    · subst h2
      rw [if_pos rfl, show List.lookup ("kind" : Str) [(("place" : Str), u), (("kind" : Str), v)] = some v by simp [List.lookup, q1]]
      exact rv
    · have q2 : (f == ("kind" : Str)) = false := by simpa using h2
      rw [if_neg h2, show List.lookup f [(("place" : Str), u), (("kind" : Str), v)] = none by simp [List.lookup, q1, q2]]
      trivial
section
variable {X : Cx} {C fI : Addr}
/-- Fault(e, e') -/
def tMkF (C : Addr) (ta : TA) : St → Hp → XK → Prop := fun σ H Q => ta σ H fun vs H1 => ∃ v u, vs = [v, u] ∧ ∀ d, H1 d = none → Q (.ref C) (some d) (upd H1 d (.xd (fFlds v u)))
theorem pmk_fault {a b : Expr} {ta : TA} {p pos : Pos} {k : Nat} (T : PySem.FltX.FaultTxt X.K X.mg C fI) (hr : Room k X.A) (ha : PA X [a, b] ta) (hg : Gl X "Fault" := by rfl)
    (he : starEach (a :: [b]) X.env = (false, eval a X.env) :: starEach [b] X.env := by rfl) (hpl : (backTo pos (starEach [b] X.env)).any (·.1) = false := by rfl) :
    PMk X (.Call (.Name "Fault" p) [a, b] [] pos) (tMkF C ta) := by
  intro pins s σ H Q I h
  refine wpAny_Call_Name_kw (ld_glob I hg T.gC ?_)
  refine PySem.W.callWith_K (h₀ := X.base) I.ok.mod.kin T.kC (thn (ha.run pos pins s σ H _ I h) fun us s1 hh => ?_) he hpl
  obtain ⟨vs, H1, I1, r1, v, u, ev, q1⟩ := hh
  subst ev
  refine ⟨I1.kIn, ?_⟩
  cases r1 with
  | cons rv rn =>
    rename_i v' us'
    cases rn with
    | cons ru rn =>
      rename_i u' us'
      cases rn
      show wpAny _ _ (call (.ref C) [v', u']) _ _ _
      have hlim := I1.nolimit
      obtain ⟨hp, g, dr, tk, os⟩ := s1
      refine wpAny_call (PySem.FltX.fault_made T I1.kIn hlim (by have := hr.dp; omega) fun h' tk' e d M => ?_)
      show MkP X pins σ Q (.ref e) ⟨h', g, dr, tk', os⟩
      obtain ⟨oe, fv, hoe, hc, hd, hdat, h1⟩ := M.obj
      have hns := M.ns
      obtain ⟨G', g1, g2⟩ := restrict h' fun b => decide (b ≠ e)
      have gk : ∀ b, b ≠ e → G'.get? b = h'.get? b := fun b hb => g1 b (decide_eq_true hb)
      have ge : G'.get? e = none := g2 e (by simp)
      have old : ∀ b o, hp.get? b = some o → G'.get? b = some o := fun b o q => (gk b (Nat.ne_of_lt (Nat.lt_of_lt_of_le (Heap.lt_size q) M.new))).trans (M.keep b o q)
      have ob : ObjOk X.prog X.w (upd H1 d (.xd (fFlds v u))) G' d (.xd (fFlds v u)) :=
        ⟨_, hns.at (fun o q => (gk d M.dne).trans q), fun f => relO_fault rv ru f⟩
      have J : Inv X pins σ (upd H1 d (.xd (fFlds v u))) ⟨G', g, dr, tk', os⟩ := I1.laid (t' := tk') old M.dbig ob
      refine ⟨e, oe, fv, ⟨G', g, dr, tk', os⟩, _, .ref C, some d, rfl, J, fun b o q => ?_, ge, hoe, ⟨hc, hd⟩, hdat, h1, ?_, rfl, I1.bare, raises_own T.exC T.tyC, q1 d (I1.hok.fresh M.dbig)⟩
      · by_cases hb : b = e
        · have q' : G'.get? b = some o := q
          rw [hb, ge] at q'; cases q'
        · exact (gk b hb).symm.trans q
      · rw [upd_ne (Ne.symm M.dne)]
        exact I1.hok.fresh M.new
/-- raise Fault(e, e') -/
def tRaiseF (C : Addr) (W : WX) (ta : TA) : TS := fun _ σ H => tMkF C ta σ H fun cls d H' => W cls d σ H'
theorem ps_raiseF {a b : Expr} {ta : TA} {W : WX} {p pos pos2 : Pos} {k : Nat} (hc : X.calm = true) (T : PySem.FltX.FaultTxt X.K X.mg C fI) (hr : Room k X.A) (tk : Takes X W) (ha : PA X [a, b] ta) (hg : Gl X "Fault" := by rfl)
    (he : starEach (a :: [b]) X.env = (false, eval a X.env) :: starEach [b] X.env := by rfl) (hpl : (backTo pos (starEach [b] X.env)).any (·.1) = false := by rfl) :
    PS X (.Raise (some (.Call (.Name "Fault" p) [a, b] [] pos)) none pos2) (tRaiseF C W ta) := ps_raise hc tk (pmk_fault T hr ha hg he hpl)
theorem xf_of (T : PySem.FltX.FaultTxt X.K X.mg C fI) : XfC X.K C := ⟨T.ga, T.gg, T.exC, T.hdC⟩
end
end L2
namespace Sco
open PySem PySem.Spec PyProof.Rows L2
/-- what the program's top has written -/
structure Tx (w : World) (K : PySem.W.Frag) (mg : Str → Option Value) where
  b_zip : mg "zip" = none
  b_enumerate : mg "enumerate" = none
  b_int : mg "int" = none
  b_sorted : mg "sorted" = none
  b_reversed : mg "reversed" = none
  b_len : mg "len" = none
  b_all : mg "all" = none
  b_ord : mg "ord" = none
  k_BAD_BYTE : ∃ t, mg "BAD_BYTE" = some (.int 1 t)
  k_BAD_WORD : ∃ t, mg "BAD_WORD" = some (.int 2 t)
  k_TOO_DEEP : ∃ t, mg "TOO_DEEP" = some (.int 3 t)
  k_BAD_NAME : ∃ t, mg "BAD_NAME" = some (.int 4 t)
  k_BAD_LENGTH : ∃ t, mg "BAD_LENGTH" = some (.int 5 t)
  k_BAD_TIE : ∃ t, mg "BAD_TIE" = some (.int 6 t)
  k_UNLIKE_BAR : ∃ t, mg "UNLIKE_BAR" = some (.int 7 t)
  k_WHOLE_NOTE : ∃ t, mg "WHOLE_NOTE" = some (.int 4096770048000 t)
  a_QUARTERS : Addr
  k_QUARTERS : mg "QUARTERS" = some (.ref a_QUARTERS)
  t_QUARTERS : ∀ H, SqT K H a_QUARTERS [.int 4, .int 6, .int 7]
  k_ALPHABET : ∃ t, mg "ALPHABET" = some (.str "abcdefghijklmnopqrstuvwxyz" t)
  k_LETTERS : ∃ t, mg "LETTERS" = some (.str "cdefgab" t)
  a_ALTERATIONS : Addr
  k_ALTERATIONS : mg "ALTERATIONS" = some (.ref a_ALTERATIONS)
  d_ALTERATIONS : ∃ es n, KDict K w a_ALTERATIONS es n
  v_ALTERATIONS : GivesAt K a_ALTERATIONS (List.lookup · [(("bb" : Str), V.int 0), (("b" : Str), V.int 1), (("" : Str), V.int 2), (("#" : Str), V.int 3), (("##" : Str), V.int 4)])
  a_KINDS : Addr
  k_KINDS : mg "KINDS" = some (.ref a_KINDS)
  d_KINDS : ∃ es n, KDict K w a_KINDS es n
  v_KINDS : GivesAt K a_KINDS (List.lookup · [(("1" : Str), V.int 1), (("2" : Str), V.int 2), (("4" : Str), V.int 4), (("8" : Str), V.int 8), (("16" : Str), V.int 16), (("32" : Str), V.int 32), (("64" : Str), V.int 64)])
  a_METRE_PARTS : Addr
  k_METRE_PARTS : mg "METRE_PARTS" = some (.ref a_METRE_PARTS)
  d_METRE_PARTS : ∃ es n, KDict K w a_METRE_PARTS es n
  v_METRE_PARTS : GivesAt K a_METRE_PARTS (List.lookup · [(("1" : Str), V.int 1), (("2" : Str), V.int 2), (("4" : Str), V.int 4), (("8" : Str), V.int 8), (("16" : Str), V.int 16), (("32" : Str), V.int 32)])
  k_MOST_PARTS : ∃ t, mg "MOST_PARTS" = some (.int 32 t)
  k_MOST_KEY : ∃ t, mg "MOST_KEY" = some (.int 7 t)
  k_MOST_NAME : ∃ t, mg "MOST_NAME" = some (.int 8 t)
  k_MOST_DIGITS : ∃ t, mg "MOST_DIGITS" = some (.int 3 t)
  k_MOST_DOTS : ∃ t, mg "MOST_DOTS" = some (.int 2 t)
  k_MOST_VOICES : ∃ t, mg "MOST_VOICES" = some (.int 4 t)
  k_LEAST_PITCHES : ∃ t, mg "LEAST_PITCHES" = some (.int 2 t)
  k_MOST_PITCHES : ∃ t, mg "MOST_PITCHES" = some (.int 6 t)
  k_MOST_DEPTH : ∃ t, mg "MOST_DEPTH" = some (.int 3 t)
  k_LINE_END : ∃ t, mg "LINE_END" = some (.int 10 t)
  k_BLANK : ∃ t, mg "BLANK" = some (.int 32 t)
  k_LAST_BYTE : ∃ t, mg "LAST_BYTE" = some (.int 126 t)
  k_SIGNS : ∃ t, mg "SIGNS" = some (.str "abcdefghijklmnopqrstuvwxyz0123456789/.~#[]{}:|-" t)
  k_OTHER : ∃ t, mg "OTHER" = some (.str "?" t)
  k_READ : ∃ t, mg "READ" = some (.int 0 t)
  k_FORM : ∃ t, mg "FORM" = some (.int 1 t)
  k_COUNTS : ∃ t, mg "COUNTS" = some (.int 2 t)
  k_SOUNDS : ∃ t, mg "SOUNDS" = some (.int 3 t)
  k_BARS : ∃ t, mg "BARS" = some (.int 4 t)
  k_SAME : ∃ t, mg "SAME" = some (.int 5 t)
  k_PLACE : ∃ t, mg "PLACE" = some (.int 6 t)
  k_NO_SCORE : ∃ t, mg "NO_SCORE" = some (.int (-1) t)
  k_NO_VOICE : ∃ t, mg "NO_VOICE" = some (.int (-2) t)
  k_NO_TIME : ∃ t, mg "NO_TIME" = some (.int (-2) t)
  k_BEHIND_END : ∃ t, mg "BEHIND_END" = some (.int (-4) t)
  k_FAULTY_TEXT : ∃ t, mg "FAULTY_TEXT" = some (.int (-6) t)
  k_TOO_LONG : ∃ t, mg "TOO_LONG" = some (.int (-8) t)
  k_MOST_BYTES : ∃ t, mg "MOST_BYTES" = some (.int 1500 t)
  k_MOST_OF_A_TIME : ∃ t, mg "MOST_OF_A_TIME" = some (.int 1000000 t)
  f_check_score : DefAt K mg "check_score" (top 10)
  f_check_lengths : DefAt K mg "check_lengths" (top 11)
  f_check_ties : DefAt K mg "check_ties" (top 12)
  f_check_fit : DefAt K mg "check_fit" (top 13)
  f_dotted_length : DefAt K mg "dotted_length" (top 22)
  f_parts_length : DefAt K mg "parts_length" (top 23)
  f_length_in_tuplets : DefAt K mg "length_in_tuplets" (top 24)
  f_fraction : DefAt K mg "fraction" (top 25)
  f_lowest_terms : DefAt K mg "lowest_terms" (top 26)
  f_common_divisor : DefAt K mg "common_divisor" (top 27)
  f_number_within : DefAt K mg "number_within" (top 39)
  f_metre_length : DefAt K mg "metre_length" (top 40)
  f_is_key : DefAt K mg "is_key" (top 41)
  f_is_name : DefAt K mg "is_name" (top 42)
  f_tuplet_of : DefAt K mg "tuplet_of" (top 43)
  f_pitch_of : DefAt K mg "pitch_of" (top 44)
  f_length_of : DefAt K mg "length_of" (top 45)
  f_chord_end_of : DefAt K mg "chord_end_of" (top 46)
  f_note_or_rest_of : DefAt K mg "note_or_rest_of" (top 47)
  f_read_words : DefAt K mg "read_words" (top 54)
  f_read_key : DefAt K mg "read_key" (top 55)
  f_read_voice : DefAt K mg "read_voice" (top 56)
  f_read_name : DefAt K mg "read_name" (top 57)
  f_read_bar : DefAt K mg "read_bar" (top 58)
  f_begin_tuplet : DefAt K mg "begin_tuplet" (top 59)
  f_read_event : DefAt K mg "read_event" (top 60)
  f_read_chord : DefAt K mg "read_chord" (top 61)
  f_read_pitches : DefAt K mg "read_pitches" (top 62)
  f_one_form : DefAt K mg "one_form" (top 64)
  f_voice_counts : DefAt K mg "voice_counts" (top 65)
  f_voice_sounds : DefAt K mg "voice_sounds" (top 66)
  f_lasting_lengths : DefAt K mg "lasting_lengths" (top 67)
  f_score_bars : DefAt K mg "score_bars" (top 68)
  f_bar_times : DefAt K mg "bar_times" (top 69)
  f_bar_of_time : DefAt K mg "bar_of_time" (top 70)
  f_check_bytes : DefAt K mg "check_bytes" (top 77)
  f_words_of : DefAt K mg "words_of" (top 78)
  f_sign_table : DefAt K mg "sign_table" (top 79)
  f_answers : DefAt K mg "answers" (top 96)
  f_call_end : DefAt K mg "call_end" (top 97)
  f_score_of : DefAt K mg "score_of" (top 99)
  f_with_rows : DefAt K mg "with_rows" (top 100)
  c_Fault : Addr
  ci_Fault : Addr
  x_Fault : PySem.FltX.FaultTxt K mg c_Fault ci_Fault
  c_Score : Addr
  g_Score : mg "Score" = some (.ref c_Score)
  cl_Score : Cls K c_Score
  n_Score_metre : NoAttr K c_Score "metre"
  n_Score_full : NoAttr K c_Score "full"
  n_Score_key : NoAttr K c_Score "key"
  n_Score_voices : NoAttr K c_Score "voices"
  i_Score : InitAt K c_Score "Score.__init__" (inClass (top 15) 0)
  c_Voice : Addr
  g_Voice : mg "Voice" = some (.ref c_Voice)
  cl_Voice : Cls K c_Voice
  n_Voice_name : NoAttr K c_Voice "name"
  n_Voice_bars : NoAttr K c_Voice "bars"
  n_Voice_events : NoAttr K c_Voice "events"
  n_Voice_end : NoAttr K c_Voice "end"
  i_Voice : InitAt K c_Voice "Voice.__init__" (inClass (top 16) 0)
  c_Bar : Addr
  g_Bar : mg "Bar" = some (.ref c_Bar)
  cl_Bar : Cls K c_Bar
  n_Bar_short : NoAttr K c_Bar "short"
  n_Bar_words : NoAttr K c_Bar "words"
  n_Bar_length : NoAttr K c_Bar "length"
  n_Bar_place : NoAttr K c_Bar "place"
  i_Bar : InitAt K c_Bar "Bar.__init__" (inClass (top 17) 0)
  c_Event : Addr
  g_Event : mg "Event" = some (.ref c_Event)
  cl_Event : Cls K c_Event
  n_Event_place : NoAttr K c_Event "place"
  n_Event_pitches : NoAttr K c_Event "pitches"
  n_Event_length : NoAttr K c_Event "length"
  n_Event_tied : NoAttr K c_Event "tied"
  i_Event : InitAt K c_Event "Event.__init__" (inClass (top 18) 0)
  c_Reader : Addr
  g_Reader : mg "Reader" = some (.ref c_Reader)
  cl_Reader : Cls K c_Reader
  n_Reader_words : NoAttr K c_Reader "words"
  n_Reader_at : NoAttr K c_Reader "at"
  i_Reader : InitAt K c_Reader "Reader.__init__" (inClass (top 53) 0)
  m_Reader_look : MethAt K c_Reader "look" "Reader.look" (inClass (top 53) 1)
  m_Reader_where : MethAt K c_Reader "where" "Reader.where" (inClass (top 53) 2)
  m_Reader_take : MethAt K c_Reader "take" "Reader.take" (inClass (top 53) 3)
  c_Desk : Addr
  g_Desk : mg "Desk" = some (.ref c_Desk)
  cl_Desk : Cls K c_Desk
  n_Desk_score : NoAttr K c_Desk "score"
  i_Desk : InitAt K c_Desk "Desk.__init__" (inClass (top 98) 0)
  m_Desk_answer : MethAt K c_Desk "answer" "Desk.answer" (inClass (top 98) 1)
  m_Desk_answer_read : MethAt K c_Desk "answer_read" "Desk.answer_read" (inClass (top 98) 2)
  m_Desk_answer_form : MethAt K c_Desk "answer_form" "Desk.answer_form" (inClass (top 98) 3)
  m_Desk_answer_counts : MethAt K c_Desk "answer_counts" "Desk.answer_counts" (inClass (top 98) 4)
  m_Desk_answer_sounds : MethAt K c_Desk "answer_sounds" "Desk.answer_sounds" (inClass (top 98) 5)
  m_Desk_answer_bars : MethAt K c_Desk "answer_bars" "Desk.answer_bars" (inClass (top 98) 6)
  m_Desk_answer_same : MethAt K c_Desk "answer_same" "Desk.answer_same" (inClass (top 98) 7)
  m_Desk_answer_place : MethAt K c_Desk "answer_place" "Desk.answer_place" (inClass (top 98) 8)
end Sco
namespace Sco
open PySem PySem.Spec PyProof.Rows L2
section
variable {w : World} {K : PySem.W.Frag} {h : Heap} {mg : Str → Option Value}
theorem mk_def {f : Addr} {x : Str} {st : Stmt} {oc : Value} {od an : Option Addr} {sl : Array (Option Value)} {kV dc pm cd ct : Value} (X : K.In h) (G : h.Ns mainGlobals mg)
    (a : PySem.W.nsIn K mainGlobals x = some (some (.ref f))) (l : K.lookup f = some ⟨oc, od, .func (PySem.W.fnOf x x (defArgs st) (defBody st) (defScope st) .none kV dc pm an cd ct), sl⟩) (c : PySem.W.codeIn K cd x = true) (k : PySem.W.keepIn K (.ref f) = true) :
    Nonempty (DefAt K mg x st) := ⟨⟨f, _, PySem.W.mg_of X G a, fun_mk l c k⟩⟩
theorem mk_none {x : Str} (X : K.In h) (G : h.Ns mainGlobals mg) (a : PySem.W.nsIn K mainGlobals x = some none) : mg x = none := PySem.W.mg_none_of X G a
theorem mk_int {x : Str} {v : Int} {t : Tok} (X : K.In h) (G : h.Ns mainGlobals mg) (a : PySem.W.nsIn K mainGlobals x = some (some (.int v t))) : ∃ t, mg x = some (.int v t) := ⟨t, PySem.W.mg_of X G a⟩
theorem mk_str {x v : Str} {t : Tok} (X : K.In h) (G : h.Ns mainGlobals mg) (a : PySem.W.nsIn K mainGlobals x = some (some (.str v t))) : ∃ t, mg x = some (.str v t) := ⟨t, PySem.W.mg_of X G a⟩
def intsOk : List Int → List Value → Prop
  | [], [] => True
  | i :: l, v :: r => (∃ t, v = .int i t) ∧ intsOk l r
  | _, _ => False
theorem intsOk.vals : ∀ {l : List Int} {r : List Value}, intsOk l r → Vals (l.map V.int) r
  | [], [], _ => .nil
  | _ :: _, _ :: _, ⟨⟨t, e⟩, h⟩ => .cons ⟨t, e⟩ h.vals
theorem mk_tup {x : Str} {q : Addr} {od : Option Addr} {its : Array Value} {n : Nat} {sl : Array (Option Value)} (l : List Int) (X : K.In h) (G : h.Ns mainGlobals mg) (a : PySem.W.nsIn K mainGlobals x = some (some (.ref q)))
    (lk : K.lookup q = some ⟨.type "tuple", od, .seq its n, sl⟩) (ok : intsOk l its.toList) (sz : its.size ≤ 1000) : ∃ q, mg x = some (.ref q) ∧ ∀ H, SqT K H q (l.map V.int) :=
  ⟨q, PySem.W.mg_of X G a, fun H => .inr ⟨_, its, n, lk, rfl, rfl, Nat.le_trans sz (by decide), ok.vals⟩⟩
theorem mk_ref {x : Str} {q : Addr} (X : K.In h) (G : h.Ns mainGlobals mg) (a : PySem.W.nsIn K mainGlobals x = some (some (.ref q))) : mg x = some (.ref q) := PySem.W.mg_of X G a
theorem mk_no {C : Addr} {f : Str} (n : PySem.W.findIn K (.ref C) f = some none) : NoAttr K C f := n
theorem mk_init {C f : Addr} {q : Str} {st : Stmt} {oc : Value} {od an : Option Addr} {sl : Array (Option Value)} {kV dc pm cd ct : Value} (i : PySem.W.findIn K (.ref C) "__init__" = some (some (.ref f))) (m : PySem.W.makesIn K C = true) (fn : PySem.W.isFn K (.ref f) = true) (kp : PySem.W.keepIn K (.ref C) = true)
    (l : K.lookup f = some ⟨oc, od, .func (PySem.W.fnOf "__init__" q (defArgs st) (defBody st) (defScope st) .none kV dc pm an cd ct), sl⟩) (c : PySem.W.codeIn K cd q = true) (k : PySem.W.keepIn K (.ref f) = true) : Nonempty (InitAt K C q st) := ⟨⟨f, _, fun_mk l c k, m, i, fn, kp⟩⟩
theorem mk_meth {C f : Addr} {x q : Str} {st : Stmt} {oc : Value} {od an : Option Addr} {sl : Array (Option Value)} {kV dc pm cd ct : Value} (i : PySem.W.findIn K (.ref C) x = some (some (.ref f))) (fn : PySem.W.isFn K (.ref f) = true)
    (l : K.lookup f = some ⟨oc, od, .func (PySem.W.fnOf x q (defArgs st) (defBody st) (defScope st) .none kV dc pm an cd ct), sl⟩) (c : PySem.W.codeIn K cd q = true) (k : PySem.W.keepIn K (.ref f) = true) : Nonempty (MethAt K C x q st) := ⟨⟨f, _, fun_mk l c k, i, fn, k⟩⟩
open PySem.W PySem.FltX in
theorem mk_fault {C fI : Addr} {nm q : Str} {N : Addr} {bs : List Value} {sn : List Str} {sub : List Value} {ab : Bool} {col : Option Bool} {dd : Option Addr} {k0 k1 k2 k3 k5 : Option Value} {oc doc pm cdv ct : Value} {od an : Option Addr} {osl : Array (Option Value)} (p1 p2 p3 q1 q2 q3 q4 r1 r2 r3 r4 : Pos) (X : K.In h) (G : h.Ns mainGlobals mg)
    (a : nsIn K mainGlobals "Fault" = some (some (.ref C)))
    (cl : K.lookup C = some (excClassObj nm q C N bs [.type "Exception", .type "BaseException", .type "object"] true sn sub ab col dd k0 k1 k2 k3 k5 "Exception.__new__"))
    (sa : findIn K (.ref C) "__setattr__" = some (some (.builtin "object.__setattr__"))) (ga : findIn K (.ref C) "__getattribute__" = some (some (.builtin "BaseException.__getattribute__"))) (gg : findIn K (.ref C) "__getattr__" = some none)
    (nk : findIn K (.ref C) "kind" = some none) (np : findIn K (.ref C) "place" = some none) (ic : findIn K (.ref C) "__init__" = some (some (.ref fI))) (tc : typeIn K (.ref fI) = some (.type "function")) (kc : keepIn K (.ref C) = true)
    (ec : subIn K (.ref C) (.type "BaseException") = some true) (ty : typeIn K (.ref C) = some (.type "type")) (hd : hasDictIn K C = true) (te : exmOne K (.ref C) (.ref C) = some true)
    (fl : K.lookup fI = some ⟨oc, od, .func (fnOf "__init__" "Fault.__init__" (iA p1 p2 p3) (iB q1 q2 q3 q4 r1 r2 r3 r4) iS .none .none doc pm an cdv ct), osl⟩) (fc : codeIn K cdv "Fault.__init__" = true) :
    ∃ C f, FaultTxt K mg C f :=
  ⟨C, fI, mg_of X G a, ⟨_, _, _, _, _, _, _, _, _, _, _, _, _, _, cl⟩, sa, ga, gg, nk, np, ic, tc, kc, ec, ty, hd, te, ⟨_, _, _, _, _, _, _, _, _, _, _, _, _, _, _, _, _, _, _, fl, fc⟩⟩
/-! a written dict -/
def entsOk (P : Params) : List (Str × Int) → List DictEntry → Prop
  | [], [] => True
  | p :: l, e :: r => (e.hash = PyData.keyHash P p.1 ∧ (∃ t, e.key = .str p.1 t) ∧ ∃ t, e.val = .int p.2 t) ∧ entsOk P l r
  | _, _ => False
theorem entsOk.lit {P : Params} : ∀ {l : List (Str × Int)} {r : List DictEntry}, entsOk P l r → PySem.W.KeysLit P r
  | [], [], _ => trivial
  | _ :: _, _ :: _, ⟨⟨h1, ⟨t, h2⟩, _⟩, h⟩ => ⟨⟨_, t, h2, h1⟩, h.lit⟩
theorem entsOk.ref {P : Params} : ∀ {l : List (Str × Int)} {r : List DictEntry}, entsOk P l r → r.any (·.refKey) = false
  | [], [], _ => rfl
  | _ :: _, e :: _, ⟨⟨_, ⟨t, h2⟩, _⟩, h⟩ => by
    rw [List.any_cons, h.ref]
    unfold DictEntry.refKey
    rw [h2]; rfl
theorem entsOk.find {P : Params} (z : Str) : ∀ {l : List (Str × Int)} {r : List DictEntry}, entsOk P l r → RelO (List.lookup z (l.map fun p => (p.1, V.int p.2))) ((r.find? (·.key.isStr z)).map (·.val))
  | [], [], _ => trivial
  | p :: l, e :: r, ⟨⟨_, ⟨t, h2⟩, u, h3⟩, h⟩ => by
    have ih := entsOk.find z h
    rw [List.map_cons, List.find?_cons, List.lookup_cons]
    have e1 : e.key.isStr z = (p.1 == z) := by rw [h2]; rfl
    rw [e1]
    by_cases hz : p.1 = z
    · subst hz
      rw [show (p.1 == p.1) = true from beq_self_eq_true _]
      show RelV (V.int p.2) e.val
      exact ⟨u, h3⟩
    · rw [show (p.1 == z) = false from beq_eq_false_iff_ne.mpr hz, show (z == p.1) = false from beq_eq_false_iff_ne.mpr fun y => hz y.symm]
      exact ih
theorem mk_dict {x : Str} {d : Addr} {es : Array DictEntry} {n : Nat} (l : List (Str × Int)) (X : K.In h) (G : h.Ns mainGlobals mg) (a : PySem.W.nsIn K mainGlobals x = some (some (.ref d)))
    (lk : K.lookup d = some ⟨.type "dict", none, .dict es n, #[]⟩) (ok : entsOk w.params l es.toList) (lo : (d == sysModules) = false) :
    ∃ d, mg x = some (.ref d) ∧ (∃ es n, KDict K w d es n) ∧ GivesAt K d (List.lookup · (l.map fun p => (p.1, V.int p.2))) := by
  refine ⟨d, PySem.W.mg_of X G a, ⟨es, n, lk, ok.lit, lo⟩, fun z => ?_⟩
  have hf := ok.find z
  unfold PySem.W.nsIn
  rw [lk]
  dsimp only
  cases e : es.toList.find? (·.key.isStr z) with
  | some y =>
    rw [e] at hf
    exact ⟨_, rfl, hf⟩
  | none =>
    rw [e] at hf
    rw [ok.ref]
    exact ⟨_, rfl, hf⟩
end
end Sco
namespace Sco
open PySem PySem.Spec PyProof.Rows L2
section
variable {P : Program} {w : World} {K : PySem.W.Frag} {mg : Str → Option Value} {base : Heap}
/-! ### common_divisor -/
def spGcd : Sp := fun vs H Q _ => ∃ a b : Nat, vs = [.int a, .int b] ∧ Q (.int (Nat.gcd a b : Nat)) H
theorem sc_gcd : FnScope ["one", "other", "left"] ["one", "other"] (defScope (top 27)) := ⟨rfl, rfl, rfl, by decide +kernel, rfl, by decide +kernel, by decide +kernel⟩
theorem bi_gcd (D : DefAt K mg "common_divisor" (top 27)) : Binds K D.fd ["one", "other"] [] := D.F.binds fun _ _ _ _ _ _ us hl => match us, hl with | [_, _], _ => rfl
theorem ok_gcd (D : DefAt K mg "common_divisor" (top 27)) : FnOk P w K mg base CX0 1 D.f D.fd ["one", "other"] spGcd := by
  refine D.F.ok sc_gcd (fun vs H Q E h => ?_) (fun cdv A outer s H vs Q E hr h => ?_)
  · obtain ⟨a, b, rfl, _⟩ := h
    rfl
  · obtain ⟨a, b, rfl, q⟩ := h
    refine ⟨_, pss_cons (ps_while PassesOwn.never (pt_cmpR op_ne (pv 1) pe_int (nomark _))
        (pss_cons (ps_set (i := 2) sc_gcd.nd rfl (Or.inl rfl) (pe_op op_modN (pv 0) (pv 1)))
        (pss_cons (ps_set (i := 0) sc_gcd.nd rfl (Or.inl rfl) (pv 1))
        (pss_one (ps_set (i := 1) sc_gcd.nd rfl (Or.inl rfl) (pv 2))))))
      (pss_one (ps_ret (pv 0))), ?_⟩
    refine ⟨fun m σ H' => ∃ (x y : Nat) (z : Option V), σ = [some (.int x), some (.int y), z] ∧ H' = H ∧ Nat.gcd x y = Nat.gcd a b ∧ m = y, ⟨_, a, b, none, rfl, rfl, rfl, rfl⟩, ?_⟩
    rintro m σ H' ⟨x, y, z, rfl, rfl, e, rfl⟩
    refine ⟨_, rfl, rfl, _, rfl, ?_⟩
    by_cases c : m = 0
    · subst c
      refine if_f (by simp) ⟨_, rfl, ?_⟩
      rw [Nat.gcd_zero_right] at e
      rw [e]; exact q
    · have ci : (m : Int) ≠ 0 := by omega
      have ef : (x : Int).fmod m = ((x % m : Nat) : Int) := by
        rw [Int.fmod_eq_emod_of_nonneg _ (by omega)]; rfl
      refine if_t (by simp [c]) ⟨_, fun _ _ h => h, ?_⟩
      refine ⟨_, rfl, _, rfl, _, _, rfl, rfl, ci, _, rfl, _, rfl, x % m, Nat.mod_lt _ (by omega), m, x % m, some (.int ((x % m : Nat) : Int)), ?_, rfl, ?_, rfl⟩
      · simp only [ef]; rfl
      · rw [← e, Nat.gcd_comm, ← Nat.gcd_rec, Nat.gcd_comm]
/-! ### lowest_terms -/
theorem low_parts (a b : Nat) : Sx62.lowest a b = ⟨a / Nat.gcd b a, b / Nat.gcd b a⟩ := by
  show (⟨a / Nat.gcd a b, b / Nat.gcd a b⟩ : Sx62.Frac) = _
  rw [Nat.gcd_comm]
/-- a new list of the two numbers -/
def spLow : Sp := fun vs H Q _ => ∃ a b : Nat, vs = [.int a, .int b] ∧ 0 < b ∧ b < 2 ^ 80 ∧ ∀ p, H p = none → Q (.ref p) (upd H p (.lst [.int ((Sx62.lowest a b).num : Nat), .int ((Sx62.lowest a b).den : Nat)]))
theorem sc_low : FnScope ["upper", "lower", "divisor"] ["upper", "lower"] (defScope (top 26)) := ⟨rfl, rfl, rfl, by decide +kernel, rfl, by decide +kernel, by decide +kernel⟩
theorem bi_low (D : DefAt K mg "lowest_terms" (top 26)) : Binds K D.fd ["upper", "lower"] [] := D.F.binds fun _ _ _ _ _ _ us hl => match us, hl with | [_, _], _ => rfl
theorem ok_low (T : Tx w K mg) : FnOk P w K mg base CX0 2 T.f_lowest_terms.f T.f_lowest_terms.fd ["upper", "lower"] spLow := by
  have G : FnOk P w K mg base CX0 1 _ _ _ spGcd := ok_gcd T.f_common_divisor
  refine T.f_lowest_terms.F.ok sc_low (fun vs H Q E h => ?_) (fun cdv A outer s H vs Q E hr h => ?_)
  · obtain ⟨a, b, rfl, _⟩ := h
    rfl
  · obtain ⟨a, b, rfl, hb, hu, q⟩ := h
    refine ⟨_, pss_cons (ps_set (i := 2) sc_low.nd rfl (Or.inl rfl) (pe_call G hr rfl T.f_common_divisor.g T.f_common_divisor.F.kp (bi_gcd _) .nil pass0 (pa_cons (pv 1) (pa_cons (pv 0) pa_nil))))
      (pss_one (ps_ret (pe_lst (pa_cons (pe_op op_fdivW (pv 0) (pv 2)) (pa_cons (pe_op op_fdivW (pv 1) (pv 2)) pa_nil))))), ?_⟩
    have hg : 0 < Nat.gcd b a := Nat.gcd_pos_of_pos_left _ hb
    have hle : Nat.gcd b a ≤ b := Nat.gcd_le_left _ hb
    have hc : ∀ i : Int, CDivW i ((Nat.gcd b a : Nat) : Int) := fun i => wide_div (b := 80) (by omega) (by omega) (by decide) (by decide)
    refine ⟨_, rfl, _, rfl, b, a, rfl, ?_⟩
    refine ⟨_, rfl, _, rfl, _, _, rfl, rfl, hc _, _, rfl, _, rfl, _, _, rfl, rfl, hc _, by show 2 ≤ sizeLine; decide, fun p np => ?_⟩
    have := q p np
    rw [low_parts] at this
    exact this
/-! ### fraction -/
/-- a new list of the two numbers -/
def spFrac : Sp := fun vs H Q _ => ∃ u : Nat, vs = [.int u] ∧ u < 2 ^ 64 ∧ ∀ p, H p = none → Q (.ref p) (upd H p (.lst [.int ((fr u).num : Nat), .int ((fr u).den : Nat)]))
theorem sc_frac : FnScope ["units"] ["units"] (defScope (top 25)) := ⟨rfl, rfl, rfl, by decide +kernel, rfl, by decide +kernel, by decide +kernel⟩
theorem bi_frac (D : DefAt K mg "fraction" (top 25)) : Binds K D.fd ["units"] [] := D.F.binds fun _ _ _ _ _ _ us hl => match us, hl with | [_], _ => rfl
theorem ok_frac (T : Tx w K mg) : FnOk P w K mg base CX0 3 T.f_fraction.f T.f_fraction.fd ["units"] spFrac := by
  have G : FnOk P w K mg base CX0 2 _ _ _ spLow := ok_low T
  refine T.f_fraction.F.ok sc_frac (fun vs H Q E h => ?_) (fun cdv A outer s H vs Q E hr h => ?_)
  · obtain ⟨u, rfl, _⟩ := h
    rfl
  · obtain ⟨u, rfl, hu, q⟩ := h
    refine ⟨_, pss_one (ps_ret (pe_call G hr rfl T.f_lowest_terms.g T.f_lowest_terms.F.kp (bi_low _) .nil pass0 (pa_cons (pv 0) (pa_cons (pe_ki T.k_WHOLE_NOTE) pa_nil)))), ?_⟩
    exact ⟨_, rfl, u, WH, rfl, WH_pos, by decide, q⟩
/-! ### lengths -/
def spDot : Sp := fun vs H Q _ => ∃ k d : Nat, vs = [.int k, .int d] ∧ k ∈ Sx62.KINDS ∧ d < 3 ∧ Q (.int (dotU k d : Nat)) H
theorem sc_dot : FnScope ["kind", "dots"] ["kind", "dots"] (defScope (top 22)) := ⟨rfl, rfl, rfl, by decide +kernel, rfl, by decide +kernel, by decide +kernel⟩
theorem bi_dot (D : DefAt K mg "dotted_length" (top 22)) : Binds K D.fd ["kind", "dots"] [] := D.F.binds fun _ _ _ _ _ _ us hl => match us, hl with | [_, _], _ => rfl
theorem ok_dot (T : Tx w K mg) : FnOk P w K mg base CX0 1 T.f_dotted_length.f T.f_dotted_length.fd ["kind", "dots"] spDot := by
  refine T.f_dotted_length.F.ok sc_dot (fun vs H Q E h => ?_) (fun cdv A outer s H vs Q E hr h => ?_)
  · obtain ⟨k, d, rfl, _⟩ := h
    rfl
  · obtain ⟨k, d, rfl, hk, hd, q⟩ := h
    refine ⟨_, pss_one (ps_ret (pe_op op_mul (pe_op op_fdivN (pe_ki T.k_WHOLE_NOTE) (pe_op op_mul pe_int (pv 0))) (pe_ix ix_tup (pe_kr T.k_QUARTERS) (pv 1) (fun _ _ => rfl)))), ?_⟩
    have hk2 : 0 < k ∧ k ≤ 64 := by
      have : ∀ x ∈ Sx62.KINDS, 0 < x ∧ x ≤ 64 := by decide
      exact this k hk
    have hq : atI [V.int 4, .int 6, .int 7] (d : Int) = some (.int (if d = 0 then 4 else if d = 1 then 6 else 7)) := by
      match d, hd with
      | 0, _ => rfl
      | 1, _ => rfl
      | 2, _ => rfl
    have ed : (4096770048000 : Int).fdiv (4 * k) = ((WH / (4 * k) : Nat) : Int) := by
      rw [Int.fdiv_eq_ediv_of_nonneg _ (by omega)]
      show ((WH : Nat) : Int) / (4 * k) = _
      rw [Int.natCast_ediv]; rfl
    have hw : WH / (4 * k) ≤ WH := Nat.div_le_self _ _
    have hw2 : WH < 2 ^ 64 := by decide
    refine ⟨_, rfl, _, _, rfl, rfl, .inl ⟨by decide, by decide⟩, _, _, rfl, rfl, ⟨by omega, by omega⟩, _, rfl, _, _, _, V.int (if d = 0 then 4 else if d = 1 then 6 else 7), rfl, rfl, T.t_QUARTERS _, hq, _, _, rfl, rfl, ?_, ?_⟩
    · rw [ed]
      exact .inl ⟨Int.lt_of_lt_of_le (by decide) (Int.natCast_nonneg _), Int.ofNat_lt.mpr (Nat.lt_of_le_of_lt hw hw2)⟩
    · dsimp only
      rw [ed]
      have e : ((WH / (4 * k) : Nat) : Int) * (if d = 0 then 4 else if d = 1 then 6 else 7) = ((dotU k d : Nat) : Int) := by
        unfold dotU
        rw [Int.natCast_mul]
        congr 1
        split
        · rfl
        · split <;> rfl
      rw [e]
      exact q
def spParts : Sp := fun vs H Q _ => ∃ n u : Nat, vs = [.int n, .int u] ∧ u ∈ Sx62.UNITS ∧ Q (.int (WH / u * n : Nat)) H
theorem sc_parts : FnScope ["upper", "lower"] ["upper", "lower"] (defScope (top 23)) := ⟨rfl, rfl, rfl, by decide +kernel, rfl, by decide +kernel, by decide +kernel⟩
theorem bi_parts (D : DefAt K mg "parts_length" (top 23)) : Binds K D.fd ["upper", "lower"] [] := D.F.binds fun _ _ _ _ _ _ us hl => match us, hl with | [_, _], _ => rfl
theorem ok_parts (T : Tx w K mg) : FnOk P w K mg base CX0 1 T.f_parts_length.f T.f_parts_length.fd ["upper", "lower"] spParts := by
  refine T.f_parts_length.F.ok sc_parts (fun vs H Q E h => ?_) (fun cdv A outer s H vs Q E hr h => ?_)
  · obtain ⟨k, d, rfl, _⟩ := h
    rfl
  · obtain ⟨n, u, rfl, hu, q⟩ := h
    refine ⟨_, pss_one (ps_ret (pe_op op_mul (pe_op op_fdivN (pe_ki T.k_WHOLE_NOTE) (pv 1)) (pv 0))), ?_⟩
    have hk2 : 0 < u ∧ u ≤ 32 := by
      have : ∀ x ∈ Sx62.UNITS, 0 < x ∧ x ≤ 32 := by decide
      exact this u hu
    have ed : (4096770048000 : Int).fdiv u = ((WH / u : Nat) : Int) := by
      rw [Int.fdiv_eq_ediv_of_nonneg _ (by omega)]
      show ((WH : Nat) : Int) / u = _
      rw [Int.natCast_ediv]
    have hw : WH / u ≤ WH := Nat.div_le_self _ _
    have hw2 : WH < 2 ^ 64 := by decide
    refine ⟨_, rfl, _, _, rfl, rfl, ⟨by omega, by omega⟩, _, rfl, _, _, rfl, rfl, ?_, ?_⟩
    · rw [ed]
      exact .inl ⟨Int.lt_of_lt_of_le (by decide) (Int.natCast_nonneg _), Int.ofNat_lt.mpr (Nat.lt_of_le_of_lt hw hw2)⟩
    · dsimp only
      rw [ed]
      exact q
/-! ### in tuplets -/
/-- at a: a pair of numbers -/
def PairAt (H : Hp) (a : Addr) (t : Nat × Nat) : Prop := H a = some (.tup [.int t.1, .int t.2])
inductive AllAt {α : Type} (R : Addr → α → Prop) : List Addr → List α → Prop
  | nil : AllAt R [] []
  | cons {a : Addr} {x : α} {as : List Addr} {xs : List α} : R a x → AllAt R as xs → AllAt R (a :: as) (x :: xs)
theorem AllAt.length {α : Type} {R : Addr → α → Prop} : ∀ {as : List Addr} {xs : List α}, AllAt R as xs → as.length = xs.length
  | _, _, .nil => rfl
  | _, _, .cons _ h => by rw [List.length_cons, List.length_cons, h.length]
theorem AllAt.get {α : Type} {R : Addr → α → Prop} : ∀ {as : List Addr} {xs : List α} {i : Nat} {x : α}, AllAt R as xs → xs[i]? = some x → ∃ a, as[i]? = some a ∧ R a x
  | _, _, _, _, .nil, e => by simp at e
  | _, _, 0, _, .cons r _, e => by simp at e; subst e; exact ⟨_, rfl, r⟩
  | _, _, i + 1, x, .cons _ t, e => by
    obtain ⟨u, h1, h2⟩ := AllAt.get (i := i) (x := x) t (by simpa using e)
    exact ⟨u, by simpa using h1, h2⟩
theorem AllAt.got {α : Type} {R : Addr → α → Prop} : ∀ {as : List Addr} {xs : List α} {i : Nat} {a : Addr}, AllAt R as xs → as[i]? = some a → ∃ x, xs[i]? = some x ∧ R a x
  | _, _, _, _, .nil, e => by simp at e
  | _, _, 0, _, .cons r _, e => by simp at e; subst e; exact ⟨_, rfl, r⟩
  | _, _, i + 1, x, .cons _ t, e => by
    obtain ⟨u, h1, h2⟩ := AllAt.got (i := i) (a := x) t (by simpa using e)
    exact ⟨u, by simpa using h1, h2⟩
theorem AllAt.imp {α : Type} {R S : Addr → α → Prop} (h : ∀ a x, R a x → S a x) : ∀ {as : List Addr} {xs : List α}, AllAt R as xs → AllAt S as xs
  | _, _, .nil => .nil
  | _, _, .cons r t => .cons (h _ _ r) (t.imp h)
theorem AllAt.append {α : Type} {R : Addr → α → Prop} : ∀ {as bs : List Addr} {xs ys : List α}, AllAt R as xs → AllAt R bs ys → AllAt R (as ++ bs) (xs ++ ys)
  | _, _, _, _, .nil, s => s
  | _, _, _, _, .cons r t, s => .cons r (t.append s)
theorem AllAt.snoc {α : Type} {R : Addr → α → Prop} {as : List Addr} {xs : List α} {a : Addr} {x : α} (h : AllAt R as xs) (r : R a x) : AllAt R (as ++ [a]) (xs ++ [x]) := h.append (.cons r .nil)
theorem AllAt.dropLast {α : Type} {R : Addr → α → Prop} : ∀ {as : List Addr} {xs : List α}, AllAt R as xs → AllAt R as.dropLast xs.dropLast
  | _, _, .nil => .nil
  | _, _, .cons _ .nil => .nil
  | _, _, .cons r (.cons r' t) => .cons r (AllAt.dropLast (.cons r' t))
/-- at a: a list of things -/
def ListAt {α : Type} (R : Hp → Addr → α → Prop) (H : Hp) (a : Addr) (xs : List α) : Prop := ∃ as, H a = some (.lst (as.map V.ref)) ∧ AllAt (R H) as xs
def refs (as : List Addr) : List V := as.map V.ref
theorem refs_get {as : List Addr} {i : Nat} {y : V} (h : (refs as)[i]? = some y) : ∃ a, as[i]? = some a ∧ y = .ref a := by
  unfold refs at h
  rw [List.getElem?_map] at h
  cases e : as[i]? with
  | none => rw [e] at h; cases h
  | some a => rw [e] at h; exact ⟨a, rfl, (Option.some.inj h).symm⟩
def spTup : Sp := fun vs H Q _ => ∃ (l : Nat) (a : Addr) (ts : List (Nat × Nat)), vs = [.int l, .ref a] ∧ ListAt PairAt H a ts ∧ (∀ t ∈ ts, Rat t) ∧ Q (.int (tupU l ts : Nat)) H
theorem sc_tup : FnScope ["length", "tuplets", "tuplet"] ["length", "tuplets"] (defScope (top 24)) := ⟨rfl, rfl, rfl, by decide +kernel, rfl, by decide +kernel, by decide +kernel⟩
theorem bi_tup (D : DefAt K mg "length_in_tuplets" (top 24)) : Binds K D.fd ["length", "tuplets"] [] := D.F.binds fun _ _ _ _ _ _ us hl => match us, hl with | [_, _], _ => rfl
theorem tupU_take {l : Nat} {ts : List (Nat × Nat)} {i : Nat} {t : Nat × Nat} (h : ts[i]? = some t) : tupU l (ts.take (i + 1)) = tupU l (ts.take i) * t.2 / t.1 := by
  unfold tupU
  rw [List.take_succ, h]
  show ((ts.take i) ++ [t]).foldl _ l = _
  rw [List.foldl_append]; rfl
theorem ok_tup (T : Tx w K mg) : FnOk P w K mg base CX0 1 T.f_length_in_tuplets.f T.f_length_in_tuplets.fd ["length", "tuplets"] spTup := by
  refine T.f_length_in_tuplets.F.ok sc_tup (fun vs H Q E h => ?_) (fun cdv A outer s H vs Q E hr h => ?_)
  · obtain ⟨k, d, ts, rfl, _⟩ := h
    rfl
  · obtain ⟨l, a, ts, rfl, ⟨as, ha, hp⟩, ht, q⟩ := h
    refine ⟨_, pss_cons (ps_for PassesOwn.never rfl (pi_list (pv 1)) (pg_name (i := 2) sc_tup.nd rfl (Or.inl rfl))
        (pss_one (ps_set (i := 0) sc_tup.nd rfl (Or.inl rfl) (pe_op op_fdivN (pe_op op_mul (pv 0) (pe_ix ix_tup (pv 2) pe_int (fun _ _ => rfl))) (pe_ix ix_tup (pv 2) pe_int (fun _ _ => rfl))))))
      (pss_one (ps_ret (pv 0))), ?_⟩
    refine ⟨_, rfl, a, rfl, ⟨_, SqL.of ha⟩, for_list (K := K) (a := a) (xs := as.map V.ref) (fun i σ H' => ∃ v, σ = [some (.int (tupU l (ts.take i) : Nat)), some (.ref a), v] ∧ H' = H) ⟨none, rfl, rfl⟩ ?_ ?_ ?_⟩
    · rintro i σ H' hi ⟨v, rfl, rfl⟩
      exact SqL.of ha
    · rintro i y σ H' hi ⟨v, rfl, rfl⟩
      obtain ⟨b, hb, rfl⟩ := refs_get hi
      obtain ⟨t, e1, e2⟩ := hp.got hb
      have hr := ht t (List.mem_of_getElem? e1)
      refine ⟨_, rfl, _, rfl, _, _, 1, _, rfl, rfl, SqT.of e2, rfl, _, _, rfl, rfl, .inr ⟨?_, ?_⟩, _, rfl, _, _, 0, _, rfl, rfl, SqT.of e2, rfl, _, _, rfl, rfl, ⟨?_, ?_⟩, some (.ref b), ?_, rfl⟩
      · have := hr.2.2.1; omega
      · have := hr.2.2.2; omega
      · have := hr.1; omega
      · have := hr.2.1; omega
      · rw [tupU_take e1]
        have ef : ((tupU l (ts.take i) : Nat) * (t.2 : Int) : Int).fdiv (t.1 : Int) = ((tupU l (ts.take i) * t.2 / t.1 : Nat) : Int) := by
          rw [Int.fdiv_eq_ediv_of_nonneg _ (by omega), Int.natCast_ediv, Int.natCast_mul]
        simp only [ef]; rfl
    · rintro σ H' ⟨v, rfl, rfl⟩
      refine ⟨_, rfl, ?_⟩
      have : ts.take (as.map V.ref).length = ts := by
        rw [List.length_map, hp.length, List.take_length]
      rw [this]
      exact q
end
end Sco
namespace Sco
open PySem PySem.Spec PyProof.Rows L2 Sx62
/-! ### texts as lists of signs -/
def S (l : Bytes) : Str := ⟨l.toArray⟩
theorem tl_S (l : Bytes) : TL.tl (S l) = l := rfl
theorem cps_S (l : Bytes) : (S l).cps.toList = l := rfl
theorem len_S (l : Bytes) : (S l).length = l.length := rfl
theorem S_inj {a b : Bytes} (h : S a = S b) : a = b := congrArg TL.tl h
theorem S_eq {a b : Bytes} : S a = S b ↔ a = b := ⟨S_inj, fun h => by rw [h]⟩
theorem S_app (a b : Bytes) : S a ++ S b = S (a ++ b) := TL.ext_tl (by rw [TL.tl_append]; rfl)
theorem dec_str {a b : Bytes} : decide (V.str (S a) = V.str (S b)) = decide (a = b) := by
  by_cases h : a = b
  · subst h; simp
  · rw [decide_eq_false h]
    exact decide_eq_false fun z => h (S_inj (V.str.inj z))
def Ascii (t : Bytes) : Prop := ∀ c ∈ t, c < 128
theorem Ascii.drop {t : Bytes} (h : Ascii t) (n : Nat) : Ascii (t.drop n) := fun c hc => h c (List.mem_of_mem_drop hc)
theorem isdigit_S {t : Bytes} (h : Ascii t) : Txt.isdigit (S t) = (!t.isEmpty && t.all digit) := by
  unfold Txt.isdigit
  have e1 : decide ((S t).length > 0) = !t.isEmpty := by
    rw [len_S]
    cases t <;> simp
  have e2 : (S t).cps.all Unicode.isDigit = t.all digit := by
    show t.toArray.all Unicode.isDigit = _
    rw [List.all_toArray]
    have key : ∀ c, c < 128 → Unicode.isDigit c = digit c := by decide +kernel
    rw [Bool.eq_iff_iff, List.all_eq_true, List.all_eq_true]
    constructor
    · intro q c hc; rw [← key c (h c hc)]; exact q c hc
    · intro q c hc; rw [key c (h c hc)]; exact q c hc
  rw [e1, e2]
theorem int_S {t : Bytes} (h : t.all digit = true) (hn : t ≠ []) (hl : t.length ≤ 640) : PySem.intText? (S t) = some ((t.foldl (fun n c => 10 * n + (c - 48)) 0 : Nat) : Int) := by
  rw [intText_digits (x := S t) (fun c hc => digit_iff.mp (List.all_eq_true.mp h c hc)) hn (by rw [len_S]; omega)]
  have : (fun acc c : Nat => acc * 10 + (c - 48)) = fun n c => 10 * n + (c - 48) := by
    funext a b; rw [Nat.mul_comm]
  show some ((NumText.digitsVal t : Nat) : Int) = _
  unfold NumText.digitsVal
  rw [this]
theorem starts_S (t : Bytes) (c : Nat) : Txt.startswith (S t) (S [c]) = decide (t.head? = some c) := by
  unfold Txt.startswith
  rw [StrLaws.subAt_eq, cps_S, cps_S, len_S, len_S]
  cases t with
  | nil => simp
  | cons a l =>
    rw [Bool.eq_iff_iff]; simp
theorem ends_S (t : Bytes) (c : Nat) : Txt.endswith (S t) (S [c]) = decide (t.getLast? = some c) := by
  unfold Txt.endswith
  rw [StrLaws.subAt_eq, cps_S, cps_S, len_S, len_S]
  rcases List.eq_nil_or_concat t with rfl | ⟨l, a, rfl⟩
  · simp
  · rw [Bool.eq_iff_iff]; simp
theorem part_S (t : Bytes) (c : Nat) : Txt.partition (S t) (S [c]) = (S (part c t).1, S (part c t).2.1, S (part c t).2.2) := by
  unfold part
  cases e : cutAt c t with
  | none =>
    exact TL.partition_none (y := S [c]) (s := c) (S := []) rfl (a := S t) (cutAt_none.mp e)
  | some x =>
    obtain ⟨a, b⟩ := x
    obtain ⟨e1, e2⟩ := cutAt_iff.mp e
    have := TL.partition_app (y := S [c]) (s := c) (S := []) rfl (a := S a) (b := S b) e2
    rw [S_app, S_app] at this
    rw [e1, show a ++ c :: b = a ++ [c] ++ b by simp]
    exact this
theorem rstrip_S (t : Bytes) : Txt.rstripChars (S t) (S [46]) = S (rst t) := by
  unfold Txt.rstripChars
  rw [stripBy_eq]
  refine TL.ext_tl ?_
  rw [TL.tl_strSub, tl_S, tl_S]
  show (t.drop 0).take (t.length - ((t.drop 0).reverse.takeWhile _).length - 0) = rst t
  rw [List.drop_zero, Nat.sub_zero]
  have hf : (fun x => (S [46]).cps.contains x) = fun x : Nat => x == 46 := by
    funext x
    show (#[46] : Array Nat).contains x = _
    simp [Array.contains_eq_any_beq] <;> rw [Bool.eq_iff_iff] <;> simp <;> exact eq_comm
  show t.take (t.length - (t.reverse.takeWhile fun x => (S [46]).cps.contains x).length) = rst t
  rw [hf]
  unfold rst
  have h1 : t.reverse = t.reverse.takeWhile (· == 46) ++ t.reverse.dropWhile (· == 46) := (List.takeWhile_append_dropWhile).symm
  have h2 := congrArg List.reverse h1
  rw [List.reverse_reverse, List.reverse_append] at h2
  have hl := congrArg List.length h2
  rw [List.length_append, List.length_reverse, List.length_reverse] at hl
  rw [hl, Nat.add_sub_cancel]
  generalize t.reverse.dropWhile (fun x => x == 46) = dw at h2 ⊢
  generalize t.reverse.takeWhile (fun x => x == 46) = tw at h2 ⊢
  rw [h2]
  exact List.take_left' (by simp)
theorem find_S : ∀ c, c < 128 → Txt.find (Str.ofString "cdefgab") (S [c]) = (match LETTERS.findIdx? (fun x => x == c) with | some k => (k : Int) | none => -1) := by decide +kernel
theorem cut1 (t : Bytes) : cutS (S t) (some 1) none = S (t.drop 1) := by
  unfold cutS
  rw [cps_S, len_S]
  show S _ = S _
  congr 1
  show (t.drop (min (1 : Int).toNat t.length)).take (t.length - min (1 : Int).toNat t.length) = t.drop 1
  cases t with
  | nil => rfl
  | cons a l => simp
theorem cut1m (t : Bytes) : cutS (S t) (some 1) (some (-1)) = S ((t.drop 1).dropLast) := by
  unfold cutS
  rw [cps_S, len_S]
  show S _ = S _
  congr 1
  show (t.drop (min (1 : Int).toNat t.length)).take (((-1 : Int) + (t.length : Int)).toNat - min (1 : Int).toNat t.length) = (t.drop 1).dropLast
  cases t with
  | nil => rfl
  | cons a l =>
    rw [List.dropLast_eq_take]
    simp
    congr 1
    omega
end Sco
namespace Sco
open PySem PySem.Spec PyProof.Rows L2 Sx62
theorem size_le {n : Nat} (h : n ≤ 2000) : n ≤ sizeLine := by
  rw [sizeLine_eq]; omega
/-- a word of the program: plain signs, not too many -/
def Wd (t : Bytes) : Prop := Ascii t ∧ t.length ≤ 2000
theorem Wd.drop {t : Bytes} (h : Wd t) (n : Nat) : Wd (t.drop n) := ⟨h.1.drop n, by rw [List.length_drop]; have := h.2; omega⟩
def optI : Option Nat → V
  | none => .non
  | some n => .int n
section
variable {P : Program} {w : World} {K : PySem.W.Frag} {mg : Str → Option Value} {base : Heap}
/-! ### number_within -/
def spNum : Sp := fun vs H Q _ => ∃ (t : Bytes) (lo hi : Nat), vs = [.str (S t), .int lo, .int hi] ∧ Wd t ∧ Q (optI (numberOf lo hi t)) H
theorem sc_num : FnScope ["text", "least", "most", "value"] ["text", "least", "most"] (defScope (top 39)) := ⟨rfl, rfl, rfl, by decide +kernel, rfl, by decide +kernel, by decide +kernel⟩
theorem bi_num (D : DefAt K mg "number_within" (top 39)) : Binds K D.fd ["text", "least", "most"] [] := D.F.binds fun _ _ _ _ _ _ us hl => match us, hl with | [_, _, _], _ => rfl
theorem numberOf_long {lo hi : Nat} {t : Bytes} (h : 3 < t.length) : numberOf lo hi t = none := by
  unfold numberOf
  dsimp only
  rw [if_neg]
  rintro ⟨_, _, z, _⟩
  omega
theorem numberOf_sign {lo hi : Nat} {t : Bytes} (h : (!t.isEmpty && t.all digit) = false) : numberOf lo hi t = none := by
  unfold numberOf
  dsimp only
  rw [if_neg]
  rintro ⟨z, z2, _⟩
  rw [z] at h
  cases t with
  | nil => simp at z2
  | cons a l => simp at h
theorem numberOf_zero {lo hi : Nat} {t : Bytes} (h : 1 < t.length) (h2 : t.head? = some 48) : numberOf lo hi t = none := by
  unfold numberOf
  dsimp only
  rw [if_neg]
  rintro ⟨_, _, _, z | z, _⟩
  · omega
  · exact z h2
theorem numberOf_good {lo hi : Nat} {t : Bytes} (h1 : t.all digit = true) (h2 : t ≠ []) (h3 : ¬ 3 < t.length) (h4 : ¬ (1 < t.length ∧ t.head? = some 48)) :
    numberOf lo hi t = if lo ≤ t.foldl (fun n c => 10 * n + (c - 48)) 0 ∧ t.foldl (fun n c => 10 * n + (c - 48)) 0 ≤ hi then some (t.foldl (fun n c => 10 * n + (c - 48)) 0) else none := by
  unfold numberOf
  dsimp only
  have hl : 1 ≤ t.length := List.length_pos_iff.mpr h2
  have h5 : t.length = 1 ∨ t.head? ≠ some 48 := by
    by_cases z : t.length = 1
    · exact .inl z
    · exact .inr fun y => h4 ⟨by omega, y⟩
  by_cases c : lo ≤ t.foldl (fun n c => 10 * n + (c - 48)) 0 ∧ t.foldl (fun n c => 10 * n + (c - 48)) 0 ≤ hi
  · rw [if_pos c, if_pos ⟨h1, hl, by omega, h5, c⟩]
  · rw [if_neg c, if_neg fun z => c z.2.2.2.2]
theorem ok_num (T : Tx w K mg) : FnOk P w K mg base CX0 1 T.f_number_within.f T.f_number_within.fd ["text", "least", "most"] spNum := by
  refine T.f_number_within.F.ok sc_num (fun vs H Q E h => ?_) (fun cdv A outer s H vs Q E hr h => ?_)
  · obtain ⟨t, lo, hi, rfl, _⟩ := h
    rfl
  · obtain ⟨t, lo, hi, rfl, ⟨ha, hl⟩, q⟩ := h
    refine ⟨_, pss_cons (ps_if (PW.pt (pw_or (pt_not (pt_val (pe_m0 PySem.F.slot_str_isdigit PySem.F.type_str_isdigit mt_isdigit (pv 0))))
          (pw_or1 (pt_cmpR op_gt (pe_callB call_len_str (by rfl) T.b_len PySem.boot_len (pa_cons (pv 0) pa_nil)) (pe_ki T.k_MOST_DIGITS) (nomark _)))))
        (pss_one (ps_ret pe_non)) pss_nil)
      (pss_mid (ps_if (PW.pt (pw_and (pt_cmpR op_gt (pe_callB call_len_str (by rfl) T.b_len PySem.boot_len (pa_cons (pv 0) pa_nil)) pe_int (nomark _))
          (pw_and1 (pt_cmpR op_eq (pe_ix ix_str (pv 0) pe_int (fun _ _ => rfl)) pe_str (nomark _)))))
        (pss_one (ps_ret pe_non)) pss_nil)
      (pss_cons (ps_set (i := 3) sc_num.nd rfl (Or.inl rfl) (pe_callTy call_int_str (by rfl) T.b_int (by decide +kernel) (pa_cons (pv 0) pa_nil)))
      (pss_one (ps_ret (pe_ifExp (pt_chain op_le op_le (pv 1) (pv 3) (pv 2)) (pv 3) pe_non))))), ?_⟩
    have hz : (S t).length ≤ sizeLine := size_le hl
    refine ⟨_, rfl, ⟨_, rfl⟩, _, rfl, rfl, trivial, _, rfl, ?_⟩
    rw [isdigit_S ha]
    cases hd : (!t.isEmpty && t.all digit) with
    | false =>
      refine if_t rfl (if_t rfl ?_)
      rw [numberOf_sign hd] at q
      exact q
    | true =>
      refine if_f rfl ⟨_, rfl, _, rfl, hz, _, _, rfl, rfl, _, rfl, ?_⟩
      by_cases h3 : 3 < t.length
      · refine if_t (decide_eq_true (by rw [len_S]; omega)) ?_
        rw [numberOf_long h3] at q
        exact q
      · refine if_f (decide_eq_false (by rw [len_S]; omega)) ?_
        rw [Bool.and_eq_true] at hd
        have hne : t ≠ [] := by intro z; rw [z] at hd; simp at hd
        obtain ⟨c, r, rfl⟩ : ∃ c r, t = c :: r := List.exists_cons_of_ne_nil hne
        refine ⟨fun σ' H' => σ' = [some (.str (S (c :: r))), some (.int lo), some (.int hi), none] ∧ H' = H ∧ ¬ (1 < (c :: r).length ∧ (c :: r).head? = some 48), ?_, ?_⟩
        · refine ⟨_, rfl, _, rfl, hz, _, _, rfl, rfl, _, rfl, ?_⟩
          by_cases h1 : 1 < (c :: r).length
          · refine if_t (decide_eq_true (by rw [len_S]; omega)) ⟨_, rfl, _, _, c, rfl, rfl, hz, atI_nat (xs := c :: r) (j := 0) rfl, rfl, _, rfl, ?_⟩
            by_cases h0 : c = 48
            · subst h0
              refine if_t (decide_eq_true rfl) ?_
              rw [numberOf_zero h1 rfl] at q
              exact q
            · refine if_f ?_ ⟨rfl, rfl, fun z => h0 (Option.some.inj z.2)⟩
              rw [show (⟨#[c]⟩ : Str) = S [c] from rfl, show Str.ofString "0" = S [48] by decide +kernel, dec_str]
              exact decide_eq_false fun z => h0 (List.cons.inj z).1
          · exact if_f (decide_eq_false (by rw [len_S]; omega)) (if_f rfl ⟨rfl, rfl, fun z => h1 z.1⟩)
        · rintro σ' H' ⟨rfl, rfl, h0⟩
          refine ⟨_, rfl, _, _, rfl, int_S hd.2 hne (by rw [List.length_cons] at *; omega), by rw [len_S]; omega, ?_⟩
          refine ⟨_, rfl, _, rfl, _, _, rfl, rfl, _, rfl, ?_⟩
          rw [numberOf_good hd.2 hne h3 h0] at q
          generalize (c :: r).foldl (fun n c => 10 * n + (c - 48)) 0 = n at q ⊢
          by_cases a1 : lo ≤ n
          · refine if_t (decide_eq_true (by omega)) ⟨_, rfl, _, _, rfl, rfl, _, rfl, ?_⟩
            by_cases a2 : n ≤ hi
            · rw [if_pos ⟨a1, a2⟩] at q
              exact if_t (decide_eq_true (by omega)) ⟨_, rfl, q⟩
            · rw [if_neg fun z => a2 z.2] at q
              exact if_f (decide_eq_false (by omega)) q
          · rw [if_neg fun z => a1 z.1] at q
            exact if_f (decide_eq_false (by omega)) ⟨_, rfl, if_f rfl q⟩
end
end Sco
namespace Sco
open PySem PySem.Spec PyProof.Rows L2 Sx62
theorem st_slash : Str.ofString "/" = S [47] := by decide +kernel
theorem st_colon : Str.ofString ":" = S [58] := by decide +kernel
theorem same_new {H : Hp} {p : Addr} {o : HO} (h : H p = none) : Same H (upd H p o) := fun b x hb => by
  rw [upd_ne (ne_of_none hb h)]; exact hb
theorem new_at {H : Hp} {p : Addr} {o : HO} (h : H p = none) : Same H (upd H p o) ∧ upd H p o p = some o := ⟨same_new h, upd_same⟩
theorem part_wd {t : Bytes} (h : Wd t) (c : Nat) : Wd (part c t).1 ∧ Wd (part c t).2.2 := by
  unfold part
  cases e : cutAt c t with
  | none => exact ⟨h, fun c hc => (by cases hc), Nat.zero_le _⟩
  | some x =>
    obtain ⟨a, b⟩ := x
    obtain ⟨e1, _⟩ := cutAt_iff.mp e
    have hl := h.2
    rw [e1, List.length_append, List.length_cons] at hl
    exact ⟨⟨fun c hc => h.1 c (by rw [e1]; exact List.mem_append_left _ hc), by show a.length ≤ 2000; omega⟩, fun c hc => h.1 c (by rw [e1]; exact List.mem_append_right _ (List.mem_cons_of_mem _ hc)), by show b.length ≤ 2000; omega⟩
theorem optI_non {o : Option Nat} : decide (optI o = V.non) = o.isNone := by
  cases o with
  | none => rfl
  | some n => exact decide_eq_false (by intro z; cases z)
/-- the table of a written dict -/
def tabV (ns : List Nat) (z : Str) : Option V := (ns.map fun n => (S (dec n), V.int (n : Int))).lookup z
theorem tabV_S (ns : List Nat) (t : Bytes) : (tabV ns (S t)).getD .non = optI (tab ns t) := by
  unfold tabV tab
  induction ns with
  | nil => rfl
  | cons n ns ih =>
    rw [List.map_cons, List.map_cons, List.lookup_cons, List.lookup_cons]
    by_cases e : t = dec n
    · subst e; simp [optI]
    · rw [show (S t == S (dec n)) = false from beq_eq_false_iff_ne.mpr fun z => e (S_inj z), show (t == dec n) = false from beq_eq_false_iff_ne.mpr e]
      exact ih
section
variable {P : Program} {w : World} {K : PySem.W.Frag} {mg : Str → Option Value} {base : Heap}
/-! ### metre_length -/
def metreU (t : Bytes) : Option Nat := (metreOf t).map fun x => WH / x.2 * x.1
def spMetre : Sp := fun vs H Q _ => ∃ t : Bytes, vs = [.str (S t)] ∧ Wd t ∧ ∀ H', Same H H' → Q (optI (metreU t)) H'
theorem sc_metre : FnScope ["word", "parts", "upper", "lower"] ["word"] (defScope (top 40)) := ⟨rfl, rfl, rfl, by decide +kernel, rfl, by decide +kernel, by decide +kernel⟩
theorem bi_metre (D : DefAt K mg "metre_length" (top 40)) : Binds K D.fd ["word"] [] := D.F.binds fun _ _ _ _ _ _ us hl => match us, hl with | [_], _ => rfl
theorem units_table : (List.lookup · [(("1" : Str), V.int 1), (("2" : Str), V.int 2), (("4" : Str), V.int 4), (("8" : Str), V.int 8), (("16" : Str), V.int 16), (("32" : Str), V.int 32)]) = tabV UNITS := by
  have : [(("1" : Str), V.int 1), (("2" : Str), V.int 2), (("4" : Str), V.int 4), (("8" : Str), V.int 8), (("16" : Str), V.int 16), (("32" : Str), V.int 32)] = UNITS.map fun n => (S (dec n), V.int (n : Int)) := by decide +kernel
  rw [this]; rfl
theorem ok_metre (T : Tx w K mg) : FnOk P w K mg base CX0 2 T.f_metre_length.f T.f_metre_length.fd ["word"] spMetre := by
  have GN : FnOk P w K mg base CX0 1 _ _ _ spNum := ok_num T
  have GP : FnOk P w K mg base CX0 1 _ _ _ spParts := ok_parts T
  refine T.f_metre_length.F.ok sc_metre (fun vs H Q E h => ?_) (fun cdv A outer s H vs Q E hr h => ?_)
  · obtain ⟨t, rfl, _⟩ := h
    rfl
  · obtain ⟨t, rfl, hw, q⟩ := h
    obtain ⟨es, nd, hD⟩ := T.d_METRE_PARTS
    have hV := T.v_METRE_PARTS
    rw [units_table] at hV
    refine ⟨_, pss_cons (ps_set (i := 1) sc_metre.nd rfl (Or.inl rfl) (pe_partition (pv 0) pe_str))
      (pss_cons (ps_set (i := 2) sc_metre.nd rfl (Or.inl rfl) (pe_call GN hr rfl T.f_number_within.g T.f_number_within.F.kp (bi_num _) .nil pass0 (pa_cons (pe_ix ix_tup (pv 1) pe_int (fun _ _ => rfl)) (pa_cons pe_int (pa_cons (pe_ki T.k_MOST_PARTS) pa_nil)))))
      (pss_cons (ps_set (i := 3) sc_metre.nd rfl (Or.inl rfl) (pe_kget hD hV (pe_kr T.k_METRE_PARTS) (pe_ix ix_tup (pv 1) pe_int (fun _ _ => rfl)) ⟨rfl, rfl, rfl, rfl⟩))
      (pss_cons (ps_if (PW.pt (pw_or (pt_cmpR op_isN (pv 2) pe_non (nomark _)) (pw_or1 (pt_cmpR op_isN (pv 3) pe_non (nomark _))))) (pss_one (ps_ret pe_non)) pss_nil)
      (pss_one (ps_ret (pe_call GP hr rfl T.f_parts_length.g T.f_parts_length.F.kp (bi_parts _) .nil pass0 (pa_cons (pv 2) (pa_cons (pv 3) pa_nil)))))))), ?_⟩
    refine ⟨_, rfl, ⟨_, rfl⟩, _, _, rfl, rfl, by decide +kernel, size_le hw.2, fun p np => ?_⟩
    rw [st_slash, part_S]
    obtain ⟨hs, hp⟩ := new_at (o := .tup [.str (S (part 47 t).1), .str (S (part 47 t).2.1), .str (S (part 47 t).2.2)]) np
    generalize upd H p _ = H1 at hs hp ⊢
    obtain ⟨w1, w2⟩ := part_wd hw 47
    refine ⟨_, rfl, _, _, 0, _, rfl, rfl, SqT.of hp, rfl, _, 1, 32, rfl, w1, rfl, _, rfl, _, _, 2, _, rfl, rfl, SqT.of hp, rfl, _, rfl, ?_⟩
    rw [tabV_S]
    have hq := q _ hs
    unfold metreU at hq
    rw [← cMetre_eq] at hq
    unfold cMetre at hq
    refine ⟨_, rfl, rfl, _, rfl, ?_⟩
    rw [optI_non]
    cases e1 : numberOf 1 32 (part 47 t).1 with
    | none =>
      rw [e1] at hq
      exact if_t rfl (if_t rfl hq)
    | some n =>
      refine if_f rfl ⟨_, rfl, rfl, _, rfl, ?_⟩
      rw [optI_non]
      cases e2 : tab UNITS (part 47 t).2.2 with
      | none =>
        rw [e1, e2] at hq
        exact if_t rfl hq
      | some d =>
        rw [e1, e2] at hq
        exact if_f rfl ⟨_, rfl, _, rfl, n, d, rfl, (tabU_iff.mp e2).2, hq⟩
/-! ### is_key -/
def spKey : Sp := fun vs H Q _ => ∃ t : Bytes, vs = [.str (S t)] ∧ Wd t ∧ Q (.bl (keyOf t).isSome) H
theorem sc_key : FnScope ["word", "sharps"] ["word"] (defScope (top 41)) := ⟨rfl, rfl, rfl, by decide +kernel, rfl, by decide +kernel, by decide +kernel⟩
theorem bi_key (D : DefAt K mg "is_key" (top 41)) : Binds K D.fd ["word"] [] := D.F.binds fun _ _ _ _ _ _ us hl => match us, hl with | [_], _ => rfl
theorem st_minus : Str.ofString "-" = S [45] := by decide +kernel
theorem ok_key (T : Tx w K mg) : FnOk P w K mg base CX0 2 T.f_is_key.f T.f_is_key.fd ["word"] spKey := by
  have GN : FnOk P w K mg base CX0 1 _ _ _ spNum := ok_num T
  refine T.f_is_key.F.ok sc_key (fun vs H Q E h => ?_) (fun cdv A outer s H vs Q E hr h => ?_)
  · obtain ⟨t, rfl, _⟩ := h
    rfl
  · obtain ⟨t, rfl, hw, q⟩ := h
    refine ⟨_, pss_mid (ps_set (i := 1) sc_key.nd rfl (Or.inl rfl) (pe_ifExp (pt_val (pe_m1 PySem.F.slot_str_startswith PySem.F.type_str_startswith mt_startswith (pv 0) pe_str)) (pe_slice sl_str (pv 0) (po_some pe_int) po_none) (pv 0)))
      (pss_one (ps_ret (pe_cmpR op_notN (pe_call GN hr rfl T.f_number_within.g T.f_number_within.F.kp (bi_num _) .nil pass0 (pa_cons (pv 1) (pa_cons pe_int (pa_cons (pe_ki T.k_MOST_KEY) pa_nil)))) pe_non (nomark _)))), ?_⟩
    refine ⟨fun σ' H' => σ' = [some (.str (S t)), some (.str (S (if t.head? = some 45 then t.drop 1 else t)))] ∧ H' = H, ?_, ?_⟩
    · refine ⟨_, rfl, ⟨_, rfl⟩, _, _, rfl, rfl, _, rfl, ?_⟩
      rw [st_minus, starts_S]
      by_cases h0 : t.head? = some 45
      · refine if_t (decide_eq_true h0) ⟨_, rfl, _, rfl, _, rfl, size_le hw.2, ?_, rfl⟩
        rw [cut1, if_pos h0]; rfl
      · refine if_f (decide_eq_false h0) ⟨_, rfl, ?_, rfl⟩
        rw [if_neg h0]; rfl
    · rintro σ' H' ⟨rfl, rfl⟩
      refine ⟨_, rfl, _, 1, 7, rfl, ?_, rfl, ?_⟩
      · split
        · exact hw.drop 1
        · exact hw
      · rw [← cKey_eq] at q
        unfold cKey at q
        rw [optI_non]
        cases e : numberOf 1 7 (if t.head? = some 45 then t.drop 1 else t) <;> rw [e] at q <;> exact q
/-! ### is_name -/
def spName : Sp := fun vs H Q _ => ∃ t : Bytes, vs = [.str (S t)] ∧ Wd t ∧ ∀ H', Same H H' → Q (.bl (isName t)) H'
theorem sc_name : FnScope ["word", "sign"] ["word"] (defScope (top 42)) := ⟨rfl, rfl, rfl, by decide +kernel, rfl, by decide +kernel, by decide +kernel⟩
theorem bi_name (D : DefAt K mg "is_name" (top 42)) : Binds K D.fd ["word"] [] := D.F.binds fun _ _ _ _ _ _ us hl => match us, hl with | [_], _ => rfl
theorem alpha_small : ∀ c, c < 128 → decide (c ∈ (Str.ofString "abcdefghijklmnopqrstuvwxyz").cps.toList) = small c := by decide +kernel
theorem ok_name (T : Tx w K mg) : FnOk P w K mg base CX0 2 T.f_is_name.f T.f_is_name.fd ["word"] spName := by
  refine T.f_is_name.F.ok sc_name (fun vs H Q E h => ?_) (fun cdv A outer s H vs Q E hr h => ?_)
  · obtain ⟨t, rfl, _⟩ := h
    rfl
  · obtain ⟨t, rfl, hw, q⟩ := h
    refine ⟨_, pss_one (ps_ret (pe_and (pe_chain op_le op_le pe_int (pe_callB call_len_str (by rfl) T.b_len PySem.boot_len (pa_cons (pv 0) pa_nil)) (pe_ki T.k_MOST_NAME))
      (pe_one (pe_callB (cr_all rfl) (by rfl) T.b_all (by decide +kernel) (pa_cons
        (pe_lc (own := [("sign", 1)]) (g := gName 1) (tt := tYes) rfl sc_name.nd (pi_str (pv 0)) (blkOk_by (own := [("sign", 1)]) (N := ["word", "sign"]) (sc := defScope (top 42)) (by decide +kernel))
          (fun _ _ _ _ _ => pg_name (i := 1) sc_name.nd rfl (Or.inl rfl)) (fun _ _ _ _ _ => pts_nil) (fun _ _ _ _ _ => pe_cmpR op_in_sign (pv 1) (pe_ks T.k_ALPHABET) rfl)) pa_nil))))), ?_⟩
    have hz : (S t).length ≤ sizeLine := size_le hw.2
    refine ⟨_, rfl, _, rfl, hz, _, _, rfl, rfl, _, rfl, ?_⟩
    have qf : isName t = false → ∀ H', Same H H' → Q (.bl false) H' := fun e H' h => by have := q H' h; rw [e] at this; exact this
    by_cases h1 : 1 ≤ t.length
    · refine if_t (decide_eq_true (by rw [len_S]; omega)) ⟨_, _, rfl, rfl, _, rfl, ?_⟩
      by_cases h8 : t.length ≤ 8
      · refine if_t (decide_eq_true (by rw [len_S]; omega)) ⟨_, rfl, _, rfl, fun D nD => ?_⟩
        refine lc_it (walk_str (z := S t)) (fun i H' => Same H H' ∧ H' D = some (.lst (((t.take i).map small).map V.bl))) ⟨same_new nD, upd_same⟩ (fun _ _ _ _ => trivial) ?_ ?_
        · rintro i x H1 H2 hi ⟨s1, d1⟩ ⟨rfl, c, hc, rfl⟩
          have hc2 : t[i]? = some c := by
            have : t.toArray[i]? = some c := hc
            simpa using this
          refine ⟨rfl, ?_⟩
          dsimp only [tYes]
          rw [if_pos rfl]
          refine ⟨_, rfl, c, _, rfl, rfl, _, d1, ?_, ?_, ?_⟩
          · rw [List.length_map, List.length_map, List.length_take]
            exact Nat.lt_of_le_of_lt (Nat.min_le_right _ _) (by rw [sizeLine_eq]; omega)
          · exact fun b o hb => by rw [upd_ne (ne_of_none hb nD)]; exact s1 b o hb
          · rw [upd_same, alpha_small c (hw.1 c (List.mem_of_getElem? hc2)), List.take_succ, hc2]
            simp
        · rintro H1 ⟨s1, d1⟩
          have hsz : (S t).cps.size = t.length := rfl
          rw [hsz, List.take_length] at d1
          refine ⟨_, _, rfl, SqL.of d1, ?_⟩
          have : isName t = (t.map small).all id := by
            unfold isName
            rw [decide_eq_true h1, decide_eq_true h8, List.all_map]; rfl
          rw [← this]
          exact q H1 s1
      · refine if_f (decide_eq_false (by rw [len_S]; omega)) (qf ?_ H (Same.refl H))
        unfold isName
        rw [decide_eq_false h8]; simp
    · refine if_f (decide_eq_false (by rw [len_S]; omega)) ⟨_, rfl, if_f rfl (qf ?_ H (Same.refl H))⟩
      unfold isName
      rw [decide_eq_false h1]; simp
end
end Sco
namespace Sco
open PySem PySem.Spec PyProof.Rows L2 Sx62
theorem st_brace : Str.ofString "{" = S [123] := by decide +kernel
theorem st_tilde : Str.ofString "~" = S [126] := by decide +kernel
theorem st_dot : Str.ofString "." = S [46] := by decide +kernel
theorem st_close : Str.ofString "]" = S [93] := by decide +kernel
theorem st_r : Str.ofString "r" = S [114] := by decide +kernel
def PitchAt (H : Hp) (a : Addr) (p : Pitch) : Prop := H a = some (.tup [.int p.octave, .int p.letter, .int p.sign])
def LenAt (H : Hp) (a : Addr) (x : Nat × Nat × Bool) : Prop := H a = some (.tup [.int (dotU x.1 x.2.1 : Nat), .bl x.2.2])
def NoteAt (H0 H : Hp) (a : Addr) (x : List Pitch × Nat × Nat × Bool) : Prop := ∃ l, H0 l = none ∧ H a = some (.tup [.ref l, .int (dotU x.2.1 x.2.2.1 : Nat), .bl x.2.2.2]) ∧ ListAt PitchAt H l x.1
/-- a promise: None, or a new thing -/
def Gives {α : Type} (o : Option α) (R : Hp → Addr → α → Prop) (H : Hp) (Q : VK) : Prop :=
  (o = none → ∀ H', Same H H' → Q .non H') ∧ ∀ x, o = some x → ∀ H' p, Same H H' → R H' p x → Q (.ref p) H'
theorem tabL_S (L : List (Bytes × Nat)) (t : Bytes) : ((L.map fun x => (S x.1, V.int (x.2 : Int))).lookup (S t)).getD .non = optI (L.lookup t) := by
  induction L with
  | nil => rfl
  | cons n ns ih =>
    obtain ⟨a, b⟩ := n
    rw [List.map_cons, List.lookup_cons, List.lookup_cons]
    by_cases e : t = a
    · subst e; simp [optI]
    · rw [show (S t == S a) = false from beq_eq_false_iff_ne.mpr fun z => e (S_inj z), show (t == a) = false from beq_eq_false_iff_ne.mpr e]
      exact ih
section
variable {P : Program} {w : World} {K : PySem.W.Frag} {mg : Str → Option Value} {base : Heap}
/-! ### tuplet_of -/
def spTupOf : Sp := fun vs H Q _ => ∃ t : Bytes, vs = [.str (S t)] ∧ Wd t ∧ Gives (cTup t) PairAt H Q
theorem sc_tupOf : FnScope ["word", "parts", "many", "time"] ["word"] (defScope (top 43)) := ⟨rfl, rfl, rfl, by decide +kernel, rfl, by decide +kernel, by decide +kernel⟩
theorem bi_tupOf (D : DefAt K mg "tuplet_of" (top 43)) : Binds K D.fd ["word"] [] := D.F.binds fun _ _ _ _ _ _ us hl => match us, hl with | [_], _ => rfl
theorem ok_tupOf (T : Tx w K mg) : FnOk P w K mg base CX0 2 T.f_tuplet_of.f T.f_tuplet_of.fd ["word"] spTupOf := by
  have GN : FnOk P w K mg base CX0 1 _ _ _ spNum := ok_num T
  refine T.f_tuplet_of.F.ok sc_tupOf (fun vs H Q E h => ?_) (fun cdv A outer s H vs Q E hr h => ?_)
  · obtain ⟨t, rfl, _⟩ := h
    rfl
  · obtain ⟨t, rfl, hw, qn, qs⟩ := h
    refine ⟨_, pss_cons (ps_if (pt_not (pt_val (pe_m1 PySem.F.slot_str_startswith PySem.F.type_str_startswith mt_startswith (pv 0) pe_str))) (pss_one (ps_ret pe_non)) pss_nil)
      (pss_cons (ps_set (i := 1) sc_tupOf.nd rfl (Or.inl rfl) (pe_partition (pe_slice sl_str (pv 0) (po_some pe_int) po_none) pe_str))
      (pss_cons (ps_set (i := 2) sc_tupOf.nd rfl (Or.inl rfl) (pe_call GN hr rfl T.f_number_within.g T.f_number_within.F.kp (bi_num _) .nil pass0 (pa_cons (pe_ix ix_tup (pv 1) pe_int (fun _ _ => rfl)) (pa_cons pe_int (pa_cons pe_int pa_nil)))))
      (pss_cons (ps_set (i := 3) sc_tupOf.nd rfl (Or.inl rfl) (pe_call GN hr rfl T.f_number_within.g T.f_number_within.F.kp (bi_num _) .nil pass0 (pa_cons (pe_ix ix_tup (pv 1) pe_int (fun _ _ => rfl)) (pa_cons pe_int (pa_cons pe_int pa_nil)))))
      (pss_cons (ps_if (PW.pt (pw_or (pt_cmpR op_isN (pv 2) pe_non (nomark _)) (pw_or (pt_cmpR op_isN (pv 3) pe_non (nomark _)) (pw_or1 (pt_cmpR op_eq (pv 2) (pv 3) (nomark _)))))) (pss_one (ps_ret pe_non)) pss_nil)
      (pss_one (ps_ret (pe_tup (pa_cons (pv 2) (pa_cons (pv 3) pa_nil))))))))), ?_⟩
    refine ⟨_, rfl, ⟨_, rfl⟩, _, _, rfl, rfl, _, rfl, ?_⟩
    rw [st_brace, starts_S]
    by_cases h0 : t.head? = some 123
    · refine if_f (by rw [decide_eq_true h0]; rfl) ⟨_, rfl, _, rfl, _, rfl, size_le hw.2, ⟨_, rfl⟩, _, _, rfl, rfl, by decide +kernel, ?_, fun p np => ?_⟩
      · rw [cut1]; exact size_le (hw.drop 1).2
      rw [cut1, st_colon, part_S]
      obtain ⟨hs, hp⟩ := new_at (o := .tup [.str (S (part 58 (t.drop 1)).1), .str (S (part 58 (t.drop 1)).2.1), .str (S (part 58 (t.drop 1)).2.2)]) np
      generalize upd H p _ = H1 at hs hp ⊢
      obtain ⟨w1, w2⟩ := part_wd (hw.drop 1) 58
      refine ⟨_, rfl, _, _, 0, _, rfl, rfl, SqT.of hp, rfl, _, 2, 9, rfl, w1, _, rfl, _, _, 2, _, rfl, rfl, SqT.of hp, rfl, _, 2, 9, rfl, w2, ?_⟩
      unfold cTup at qn qs
      rw [if_pos h0] at qn qs
      refine ⟨_, rfl, rfl, _, rfl, ?_⟩
      rw [optI_non]
      cases e1 : numberOf 2 9 (part 58 (t.drop 1)).1 with
      | none =>
        rw [e1] at qn
        exact if_t rfl (if_t rfl (qn rfl _ hs))
      | some n =>
        refine if_f rfl ⟨_, rfl, rfl, _, rfl, ?_⟩
        rw [optI_non]
        cases e2 : numberOf 2 9 (part 58 (t.drop 1)).2.2 with
        | none =>
          rw [e1, e2] at qn
          exact if_t rfl (if_t rfl (qn rfl _ hs))
        | some m =>
          rw [e1, e2] at qn qs
          dsimp only at qn qs
          refine if_f rfl ⟨_, rfl, _, rfl, rfl, _, rfl, ?_⟩
          by_cases e3 : n = m
          · rw [if_pos e3] at qn
            subst e3
            exact if_t (decide_eq_true rfl) (qn rfl _ hs)
          · rw [if_neg e3] at qs
            refine if_f (decide_eq_false ?_) ⟨_, rfl, _, rfl, by show 2 ≤ sizeLine; decide, fun p2 np2 => qs _ rfl _ _ (hs.trans (same_new np2)) upd_same⟩
            intro z
            exact e3 (Int.ofNat.inj (V.int.inj z))
    · refine if_t (by rw [decide_eq_false h0]; rfl) (qn (cTup_none h0) _ (Same.refl H))
/-! ### pitch_of -/
def spPitch : Sp := fun vs H Q _ => ∃ t : Bytes, vs = [.str (S t)] ∧ Wd t ∧ Gives (cPitch t) PitchAt H Q
theorem sc_pitch : FnScope ["word", "letter", "alteration"] ["word"] (defScope (top 44)) := ⟨rfl, rfl, rfl, by decide +kernel, rfl, by decide +kernel, by decide +kernel⟩
theorem bi_pitch (D : DefAt K mg "pitch_of" (top 44)) : Binds K D.fd ["word"] [] := D.F.binds fun _ _ _ _ _ _ us hl => match us, hl with | [_], _ => rfl
theorem alts_table : (List.lookup · [(("bb" : Str), V.int 0), (("b" : Str), V.int 1), (("" : Str), V.int 2), (("#" : Str), V.int 3), (("##" : Str), V.int 4)]) = fun z => (ALTS.map fun x => (S x.1, V.int (x.2 : Int))).lookup z := by
  have : [(("bb" : Str), V.int 0), (("b" : Str), V.int 1), (("" : Str), V.int 2), (("#" : Str), V.int 3), (("##" : Str), V.int 4)] = ALTS.map fun x => (S x.1, V.int (x.2 : Int)) := by decide +kernel
  rw [this]
theorem ok_pitch (T : Tx w K mg) : FnOk P w K mg base CX0 1 T.f_pitch_of.f T.f_pitch_of.fd ["word"] spPitch := by
  refine T.f_pitch_of.F.ok sc_pitch (fun vs H Q E h => ?_) (fun cdv A outer s H vs Q E hr h => ?_)
  · obtain ⟨t, rfl, _⟩ := h
    rfl
  · obtain ⟨t, rfl, hw, qn, qs⟩ := h
    obtain ⟨es, nd, hD⟩ := T.d_ALTERATIONS
    have hV := T.v_ALTERATIONS
    rw [alts_table] at hV
    refine ⟨_, pss_cons (ps_if (PW.pt (pw_or (pt_cmpR op_lt (pe_callB call_len_str (by rfl) T.b_len PySem.boot_len (pa_cons (pv 0) pa_nil)) pe_int (nomark _))
          (pw_or1 (pt_not (pt_val (pe_m0 PySem.F.slot_str_isdigit PySem.F.type_str_isdigit mt_isdigit (pe_ix ix_str (pv 0) (pe_un un_neg pe_int) (fun _ _ => rfl)))))))) (pss_one (ps_ret pe_non)) pss_nil)
      (pss_cons (ps_set (i := 1) sc_pitch.nd rfl (Or.inl rfl) (pe_m1 PySem.F.slot_str_find PySem.F.type_str_find mt_find (pe_ks T.k_LETTERS) (pe_ix ix_str (pv 0) pe_int (fun _ _ => rfl))))
      (pss_cons (ps_set (i := 2) sc_pitch.nd rfl (Or.inl rfl) (pe_kget hD hV (pe_kr T.k_ALTERATIONS) (pe_slice sl_str (pv 0) (po_some pe_int) (po_some (pe_un un_neg pe_int))) ⟨rfl, rfl, rfl, rfl⟩))
      (pss_cons (ps_if (PW.pt (pw_or (pt_cmpR op_lt (pv 1) pe_int (nomark _)) (pw_or1 (pt_cmpR op_isN (pv 2) pe_non (nomark _))))) (pss_one (ps_ret pe_non)) pss_nil)
      (pss_one (ps_ret (pe_tup (pa_cons (pe_callTy call_int_str (by rfl) T.b_int (by decide +kernel) (pa_cons (pe_ix ix_str (pv 0) (pe_un un_neg pe_int) (fun _ _ => rfl)) pa_nil)) (pa_cons (pv 1) (pa_cons (pv 2) pa_nil))))))))), ?_⟩
    have hz : (S t).length ≤ sizeLine := size_le hw.2
    refine ⟨_, rfl, _, rfl, hz, _, _, rfl, rfl, _, rfl, ?_⟩
    by_cases h2 : t.length < 2
    · refine if_t (decide_eq_true (by rw [len_S]; omega)) (if_t rfl (qn ?_ _ (Same.refl H)))
      unfold cPitch; rw [if_pos h2]
    · obtain ⟨c, m, o, rfl⟩ := split_word h2
      have la : atI (S (c :: (m ++ [o]))).cps.toList (-1) = some o := atI_last (c :: m) o
      have ao : o < 128 := hw.1 o (by simp)
      have ac : c < 128 := hw.1 c (by simp)
      have so : Ascii [o] := fun x hx => by rw [List.mem_singleton.mp hx]; exact ao
      have gl : (c :: (m ++ [o])).getLastD 0 = o := by rw [← List.cons_append, List.getLastD_eq_getLast?, List.getLast?_concat]; rfl
      unfold cPitch at qn qs
      rw [if_neg h2, gl] at qn qs
      refine if_f (decide_eq_false (by rw [len_S]; omega)) ⟨_, rfl, _, rfl, _, _, o, rfl, rfl, hz, la, ⟨_, rfl⟩, _, rfl, rfl, trivial, _, rfl, ?_⟩
      rw [show (⟨#[o]⟩ : Str) = S [o] from rfl, isdigit_S so]
      have eo : (!([o] : Bytes).isEmpty && ([o] : Bytes).all digit) = digit o := by simp
      rw [eo]
      cases hd : digit o with
      | false =>
        rw [hd, if_pos rfl] at qn
        exact if_t rfl (qn rfl _ (Same.refl H))
      | true =>
        rw [hd, if_neg (by decide)] at qn qs
        refine if_f rfl ⟨⟨_, rfl⟩, _, rfl, _, _, c, rfl, rfl, hz, atI_nat (xs := c :: (m ++ [o])) (j := 0) rfl, _, _, rfl, rfl, rfl, _, rfl, _, rfl, _, rfl, _, rfl, _, rfl, hz, _, rfl, ?_⟩
        rw [show (⟨#[c]⟩ : Str) = S [c] from rfl, find_S c ac, cut1m, tabL_S]
        have e2 : ((c :: (m ++ [o])).drop 1).dropLast = m := by simp
        rw [e2] at qn qs ⊢
        have e3 : ALTS.lookup m = altOf m := rfl
        rw [e3]
        have e4 : (c :: (m ++ [o])).headD 0 = c := rfl
        rw [e4] at qn qs
        refine ⟨_, rfl, _, _, rfl, rfl, _, rfl, ?_⟩
        cases a1 : LETTERS.findIdx? (fun x => x == c) with
        | none =>
          rw [a1] at qn
          exact if_t rfl (if_t rfl (qn rfl _ (Same.refl H)))
        | some k =>
          refine if_f (decide_eq_false (Int.not_lt.mpr (Int.natCast_nonneg k))) ⟨_, rfl, rfl, _, rfl, ?_⟩
          rw [optI_non]
          cases a2 : altOf m with
          | none =>
            rw [a1, a2] at qn
            exact if_t rfl (qn rfl _ (Same.refl H))
          | some sg =>
            rw [a1, a2] at qs
            have hi : PySem.intText? (S [o]) = some (((o - 48 : Nat) : Nat) : Int) := by
              rw [int_S (t := [o]) (by simp [hd]) (by simp) (by simp)]
              simp
            exact if_f rfl ⟨_, rfl, _, rfl, _, _, o, rfl, rfl, hz, la, _, _, rfl, hi, by show 1 ≤ 640; decide, _, rfl, _, rfl, by show 3 ≤ sizeLine; decide, fun p np => qs _ rfl _ _ (same_new np) upd_same⟩
/-! ### length_of -/
def spLong : Sp := fun vs H Q _ => ∃ t : Bytes, vs = [.str (S t)] ∧ Wd t ∧ Gives (longOf t) LenAt H Q
theorem sc_long : FnScope ["text", "tied", "dotted", "plain", "dots", "kind"] ["text"] (defScope (top 45)) := ⟨rfl, rfl, rfl, by decide +kernel, rfl, by decide +kernel, by decide +kernel⟩
theorem bi_long (D : DefAt K mg "length_of" (top 45)) : Binds K D.fd ["text"] [] := D.F.binds fun _ _ _ _ _ _ us hl => match us, hl with | [_], _ => rfl
theorem kinds_table : (List.lookup · [(("1" : Str), V.int 1), (("2" : Str), V.int 2), (("4" : Str), V.int 4), (("8" : Str), V.int 8), (("16" : Str), V.int 16), (("32" : Str), V.int 32), (("64" : Str), V.int 64)]) = tabV KINDS := by
  have : [(("1" : Str), V.int 1), (("2" : Str), V.int 2), (("4" : Str), V.int 4), (("8" : Str), V.int 8), (("16" : Str), V.int 16), (("32" : Str), V.int 32), (("64" : Str), V.int 64)] = KINDS.map fun n => (S (dec n), V.int (n : Int)) := by decide +kernel
  rw [this]; rfl
theorem rst_len (l : Bytes) : (rst l).length ≤ l.length := by
  have := congrArg List.length (rst_spec l)
  rw [List.length_append] at this
  omega
theorem ok_long (T : Tx w K mg) : FnOk P w K mg base CX0 2 T.f_length_of.f T.f_length_of.fd ["text"] spLong := by
  have GD : FnOk P w K mg base CX0 1 _ _ _ spDot := ok_dot T
  refine T.f_length_of.F.ok sc_long (fun vs H Q E h => ?_) (fun cdv A outer s H vs Q E hr h => ?_)
  · obtain ⟨t, rfl, _⟩ := h
    rfl
  · obtain ⟨t, rfl, hw, qn, qs⟩ := h
    obtain ⟨es, nd, hD⟩ := T.d_KINDS
    have hV := T.v_KINDS
    rw [kinds_table] at hV
    refine ⟨_, pss_cons (ps_if (pt_not (pt_val (pe_m1 PySem.F.slot_str_startswith PySem.F.type_str_startswith mt_startswith (pv 0) pe_str))) (pss_one (ps_ret pe_non)) pss_nil)
      (pss_cons (ps_set (i := 1) sc_long.nd rfl (Or.inl rfl) (pe_m1 PySem.F.slot_str_endswith PySem.F.type_str_endswith mt_endswith (pv 0) pe_str))
      (pss_mid (ps_set (i := 2) sc_long.nd rfl (Or.inl rfl) (pe_ifExp (pt_val (pv 1)) (pe_slice sl_str (pv 0) (po_some pe_int) (po_some (pe_un un_neg pe_int))) (pe_slice sl_str (pv 0) (po_some pe_int) po_none)))
      (pss_cons (ps_set (i := 3) sc_long.nd rfl (Or.inl rfl) (pe_m1 PySem.F.slot_str_rstrip PySem.F.type_str_rstrip mt_rstripChars (pv 2) pe_str))
      (pss_cons (ps_set (i := 4) sc_long.nd rfl (Or.inl rfl) (pe_op op_sub (pe_callB call_len_str (by rfl) T.b_len PySem.boot_len (pa_cons (pv 2) pa_nil)) (pe_callB call_len_str (by rfl) T.b_len PySem.boot_len (pa_cons (pv 3) pa_nil))))
      (pss_cons (ps_set (i := 5) sc_long.nd rfl (Or.inl rfl) (pe_kget hD hV (pe_kr T.k_KINDS) (pv 3) ⟨rfl, rfl, rfl, rfl⟩))
      (pss_cons (ps_if (PW.pt (pw_or (pt_cmpR op_isN (pv 5) pe_non (nomark _)) (pw_or1 (pt_cmpR op_gt (pv 4) (pe_ki T.k_MOST_DOTS) (nomark _))))) (pss_one (ps_ret pe_non)) pss_nil)
      (pss_one (ps_ret (pe_tup (pa_cons (pe_call GD hr rfl T.f_dotted_length.g T.f_dotted_length.F.kp (bi_dot _) .nil pass0 (pa_cons (pv 5) (pa_cons (pv 4) pa_nil))) (pa_cons (pv 1) pa_nil))))))))))), ?_⟩
    have hz : (S t).length ≤ sizeLine := size_le hw.2
    refine ⟨_, rfl, ⟨_, rfl⟩, _, _, rfl, rfl, _, rfl, ?_⟩
    rw [st_slash, starts_S]
    rw [← cLong_eq] at qn qs
    unfold cLong at qn qs
    by_cases h0 : t.head? = some 47
    · rw [if_pos h0] at qn qs
      refine if_f (by rw [decide_eq_true h0]; rfl) ⟨_, rfl, ⟨_, rfl⟩, _, _, rfl, rfl, ?_⟩
      rw [st_tilde, ends_S]
      generalize decide (t.getLast? = some 126) = b at qn qs ⊢
      dsimp only at qn qs
      generalize hD2 : (if b = true then (t.drop 1).dropLast else t.drop 1) = D at qn qs
      have hDl : D.length ≤ 2000 := by
        have := (hw.drop 1).2
        rw [← hD2]
        split
        · rw [List.length_dropLast]; omega
        · exact this
      refine ⟨fun σ' H' => σ' = [some (.str (S t)), some (.bl b), some (.str (S D)), none, none, none] ∧ H' = H, ?_, ?_⟩
      · refine ⟨_, rfl, _, rfl, ?_⟩
        cases b with
        | true =>
          refine if_t rfl ⟨_, rfl, _, rfl, _, rfl, _, rfl, _, rfl, hz, ?_, rfl⟩
          rw [cut1m, ← hD2]; rfl
        | false =>
          refine if_f rfl ⟨_, rfl, _, rfl, _, rfl, hz, ?_, rfl⟩
          rw [cut1, ← hD2]; rfl
      · rintro σ' H' ⟨rfl, rfl⟩
        refine ⟨_, rfl, ⟨_, rfl⟩, _, _, rfl, rfl, size_le hDl, ?_⟩
        rw [st_dot, rstrip_S]
        have hr2 := rst_len D
        refine ⟨_, rfl, _, rfl, size_le hDl, _, rfl, _, rfl, size_le (by show (rst D).length ≤ 2000; omega), _, _, rfl, rfl, rfl, _, rfl, _, rfl, ?_⟩
        rw [tabV_S]
        have ei : ((S D).length : Int) - ((S (rst D)).length : Int) = ((D.length - (rst D).length : Nat) : Int) := by
          rw [len_S, len_S]; omega
        refine ⟨_, rfl, rfl, _, rfl, ?_⟩
        rw [optI_non]
        cases e1 : tab KINDS (rst D) with
        | none =>
          rw [e1] at qn
          exact if_t rfl (if_t rfl (qn rfl _ (Same.refl _)))
        | some k =>
          rw [e1] at qn qs
          dsimp only at qn qs
          refine if_f rfl ⟨_, rfl, _, _, rfl, rfl, _, rfl, ?_⟩
          by_cases h2 : 2 < D.length - (rst D).length
          · rw [if_pos h2] at qn
            exact if_t (decide_eq_true (by rw [ei]; omega)) (qn rfl _ (Same.refl _))
          · rw [if_neg h2] at qs
            refine if_f (decide_eq_false (by rw [ei]; omega)) ⟨_, rfl, _, rfl, k, D.length - (rst D).length, ?_, (tabK_iff.mp e1).2, by omega, _, rfl, by show 2 ≤ sizeLine; decide, fun p np => qs _ rfl _ _ (same_new np) upd_same⟩
            dsimp only
            rw [ei]; rfl
    · rw [if_neg h0] at qn
      exact if_t (by rw [decide_eq_false h0]; rfl) (qn rfl _ (Same.refl H))
/-! ### chord_end_of -/
def spEnd : Sp := fun vs H Q _ => ∃ t : Bytes, vs = [.str (S t)] ∧ Wd t ∧ Gives (endOf t) LenAt H Q
theorem sc_end : FnScope ["word"] ["word"] (defScope (top 46)) := ⟨rfl, rfl, rfl, by decide +kernel, rfl, by decide +kernel, by decide +kernel⟩
theorem bi_end (D : DefAt K mg "chord_end_of" (top 46)) : Binds K D.fd ["word"] [] := D.F.binds fun _ _ _ _ _ _ us hl => match us, hl with | [_], _ => rfl
theorem ok_end (T : Tx w K mg) : FnOk P w K mg base CX0 3 T.f_chord_end_of.f T.f_chord_end_of.fd ["word"] spEnd := by
  have GL : FnOk P w K mg base CX0 2 _ _ _ spLong := ok_long T
  refine T.f_chord_end_of.F.ok sc_end (fun vs H Q E h => ?_) (fun cdv A outer s H vs Q E hr h => ?_)
  · obtain ⟨t, rfl, _⟩ := h
    rfl
  · obtain ⟨t, rfl, hw, qn, qs⟩ := h
    refine ⟨_, pss_one (ps_ret (pe_ifExp (pt_val (pe_m1 PySem.F.slot_str_startswith PySem.F.type_str_startswith mt_startswith (pv 0) pe_str))
      (pe_call GL hr rfl T.f_length_of.g T.f_length_of.F.kp (bi_long _) .nil pass0 (pa_cons (pe_slice sl_str (pv 0) (po_some pe_int) po_none) pa_nil)) pe_non)), ?_⟩
    refine ⟨_, rfl, ⟨_, rfl⟩, _, _, rfl, rfl, _, rfl, ?_⟩
    rw [st_close, starts_S]
    unfold endOf at qn qs
    by_cases h0 : t.head? = some 93
    · rw [if_pos h0] at qn qs
      refine if_t (decide_eq_true h0) ⟨_, rfl, _, rfl, _, rfl, size_le hw.2, t.drop 1, ?_, hw.drop 1, qn, qs⟩
      rw [cut1]; rfl
    · rw [if_neg h0] at qn
      exact if_f (decide_eq_false h0) (qn rfl _ (Same.refl H))
end
end Sco
namespace Sco
open PySem PySem.Spec PyProof.Rows L2 Sx62
section
variable {P : Program} {w : World} {K : PySem.W.Frag} {mg : Str → Option Value} {base : Heap}
/-! ### note_or_rest_of -/
def spNote : Sp := fun vs H Q _ => ∃ t : Bytes, vs = [.str (S t)] ∧ Wd t ∧ Gives (cNote t) (NoteAt H) H Q
theorem sc_note : FnScope ["word", "parts", "length", "pitch"] ["word"] (defScope (top 47)) := ⟨rfl, rfl, rfl, by decide +kernel, rfl, by decide +kernel, by decide +kernel⟩
theorem bi_note (D : DefAt K mg "note_or_rest_of" (top 47)) : Binds K D.fd ["word"] [] := D.F.binds fun _ _ _ _ _ _ us hl => match us, hl with | [_], _ => rfl
theorem part_mid {t : Bytes} (h : Wd t) (c : Nat) (hc : c < 128) : Wd ((part c t).2.1 ++ (part c t).2.2) := by
  unfold part
  cases e : cutAt c t with
  | none => exact ⟨fun c hc => (by cases hc), Nat.zero_le _⟩
  | some x =>
    obtain ⟨a, b⟩ := x
    obtain ⟨e1, _⟩ := cutAt_iff.mp e
    have hl := h.2
    rw [e1, List.length_append, List.length_cons] at hl
    refine ⟨fun d hd => ?_, by show (c :: b).length ≤ 2000; rw [List.length_cons]; omega⟩
    rcases List.mem_cons.mp hd with rfl | hd
    · exact hc
    · exact h.1 d (by rw [e1]; exact List.mem_append_right _ (List.mem_cons_of_mem _ hd))
theorem ok_note (T : Tx w K mg) : FnOk P w K mg base CX0 3 T.f_note_or_rest_of.f T.f_note_or_rest_of.fd ["word"] spNote := by
  have GL : FnOk P w K mg base CX0 2 _ _ _ spLong := ok_long T
  have GP : FnOk P w K mg base CX0 1 _ _ _ spPitch := ok_pitch T
  refine T.f_note_or_rest_of.F.ok sc_note (fun vs H Q E h => ?_) (fun cdv A outer s H vs Q E hr h => ?_)
  · obtain ⟨t, rfl, _⟩ := h
    rfl
  · obtain ⟨t, rfl, hw, qn, qs⟩ := h
    have hr1 : Room 1 _ := hr.mono (by decide)
    refine ⟨_, pss_cons (ps_set (i := 1) sc_note.nd rfl (Or.inl rfl) (pe_partition (pv 0) pe_str))
      (pss_cons (ps_set (i := 2) sc_note.nd rfl (Or.inl rfl) (pe_call GL hr rfl T.f_length_of.g T.f_length_of.F.kp (bi_long _) .nil pass0 (pa_cons (pe_op op_add_str (pe_ix ix_tup (pv 1) pe_int (fun _ _ => rfl)) (pe_ix ix_tup (pv 1) pe_int (fun _ _ => rfl))) pa_nil)))
      (pss_cons (ps_if (pt_cmpR op_isN (pv 2) pe_non (nomark _)) (pss_one (ps_ret pe_non)) pss_nil)
      (pss_cons (ps_if (pt_cmpR op_eq (pe_ix ix_tup (pv 1) pe_int (fun _ _ => rfl)) pe_str (nomark _))
        (pss_one (ps_ret (pe_ifExp (pt_val (pe_ix ix_tup (pv 2) pe_int (fun _ _ => rfl))) pe_non (pe_tup (pa_cons (pe_lst pa_nil) (pa_cons (pe_ix ix_tup (pv 2) pe_int (fun _ _ => rfl)) (pa_cons pe_bl pa_nil))))))) pss_nil)
      (pss_cons (ps_set (i := 3) sc_note.nd rfl (Or.inl rfl) (pe_call GP hr1 rfl T.f_pitch_of.g T.f_pitch_of.F.kp (bi_pitch _) .nil pass0 (pa_cons (pe_ix ix_tup (pv 1) pe_int (fun _ _ => rfl)) pa_nil)))
      (pss_one (ps_ret (pe_ifExp (pt_cmpR op_isN (pv 3) pe_non (nomark _)) pe_non (pe_tup (pa_cons (pe_lst (pa_cons (pv 3) pa_nil)) (pa_cons (pe_ix ix_tup (pv 2) pe_int (fun _ _ => rfl)) (pa_cons (pe_ix ix_tup (pv 2) pe_int (fun _ _ => rfl)) pa_nil)))))))))))
      , ?_⟩
    refine ⟨_, rfl, ⟨_, rfl⟩, _, _, rfl, rfl, by decide +kernel, size_le hw.2, fun p np => ?_⟩
    rw [st_slash, part_S]
    obtain ⟨hs, hp⟩ := new_at (o := .tup [.str (S (part 47 t).1), .str (S (part 47 t).2.1), .str (S (part 47 t).2.2)]) np
    generalize upd H p _ = H1 at hs hp ⊢
    obtain ⟨w1, w2⟩ := part_wd hw 47
    have wm := part_mid hw 47 (by decide)
    have lm : (part 47 t).2.1.length + (part 47 t).2.2.length ≤ 2000 := by have := wm.2; rw [List.length_append] at this; exact this
    refine ⟨_, rfl, _, _, 1, _, rfl, rfl, SqT.of hp, rfl, _, rfl, _, _, 2, _, rfl, rfl, SqT.of hp, rfl, _, _, rfl, rfl, size_le lm, (part 47 t).2.1 ++ (part 47 t).2.2, ?_, wm, ?_, ?_⟩
    · rw [S_app]; rfl
    · intro el H2 s2
      refine ⟨_, rfl, rfl, _, rfl, if_t rfl (qn ?_ _ (hs.trans s2))⟩
      unfold cNote; rw [el]
    · rintro ⟨k, d, tie⟩ el H2 a s2 ha
      unfold cNote at qn qs
      rw [el] at qn qs
      dsimp only at qn qs
      have hs2 := hs.trans s2
      have hp2 := s2 _ _ hp
      refine ⟨_, rfl, rfl, _, rfl, if_f rfl ⟨_, rfl, _, _, 0, _, rfl, rfl, SqT.of hp2, rfl, rfl, _, rfl, ?_⟩⟩
      rw [st_r, dec_str]
      by_cases hrr : (part 47 t).1 = [114]
      · rw [if_pos hrr] at qn qs
        refine if_t (decide_eq_true hrr) ⟨_, rfl, _, _, 1, _, rfl, rfl, SqT.of ha, rfl, _, rfl, ?_⟩
        cases tie with
        | true => exact if_t rfl (qn rfl _ hs2)
        | false =>
          refine if_f rfl ⟨Nat.zero_le _, fun l nl => ⟨_, rfl, _, _, 0, _, rfl, rfl, SqT.of (same_new nl _ _ ha), rfl, by show 3 ≤ sizeLine; decide, fun z nz => ?_⟩⟩
          refine qs _ rfl _ _ ((hs2.trans (same_new nl)).trans (same_new nz)) ⟨l, hs2.free nl, upd_same, [], same_new nz _ _ upd_same, .nil⟩
      · rw [if_neg hrr] at qn qs
        refine if_f (decide_eq_false hrr) ⟨_, rfl, _, _, 0, _, rfl, rfl, SqT.of hp2, rfl, _, rfl, w1, ?_, ?_⟩
        · intro ep H3 s3
          rw [ep] at qn
          exact ⟨_, rfl, rfl, _, rfl, if_t rfl (qn rfl _ (hs2.trans s3))⟩
        · intro pp ep H3 b s3 hb
          rw [ep] at qs
          have ha3 := s3 _ _ ha
          refine ⟨_, rfl, rfl, _, rfl, if_f rfl ⟨_, rfl, by show 1 ≤ sizeLine; decide, fun l nl => ?_⟩⟩
          have ha4 := same_new (o := .lst [.ref b]) nl _ _ ha3
          refine ⟨_, rfl, _, _, 0, _, rfl, rfl, SqT.of ha4, rfl, _, rfl, _, _, 1, _, rfl, rfl, SqT.of ha4, rfl, by show 3 ≤ sizeLine; decide, fun z nz => ?_⟩
          refine qs _ rfl _ _ (((hs2.trans s3).trans (same_new nl)).trans (same_new nz)) ⟨l, (hs2.trans s3).free nl, upd_same, [b], same_new nz _ _ upd_same, .cons (same_new nz _ _ (same_new nl _ _ hb)) .nil⟩
end
end Sco
namespace Sco
open PySem PySem.Spec PyProof.Rows L2 Sx62
/-! ### how things lie in the heap -/
theorem lk_here {k : Str} {v : V} {r : List (Str × V)} : List.lookup k ((k, v) :: r) = some v := by
  have e : (k == k) = true := beq_self_eq_true k
  simp only [List.lookup, e]
theorem lk_past {k g : Str} {v : V} {r : List (Str × V)} (h : (k == g) = false) : List.lookup k ((g, v) :: r) = List.lookup k r := by
  simp only [List.lookup, h]
theorem put_here {f : Str} {v x : V} {r : List (Str × V)} : putF f v ((f, x) :: r) = (f, v) :: r := if_pos rfl
theorem put_past {f g : Str} {v x : V} {r : List (Str × V)} (h : ¬ g = f) : putF f v ((g, x) :: r) = (g, x) :: putF f v r := if_neg h
def eF (a b c d : V) : List (Str × V) := [("place", a), ("pitches", b), ("length", c), ("tied", d)]
theorem eF_place {a b c d : V} : (eF a b c d).lookup ("place" : Str) = some a := lk_here
theorem eF_pitches {a b c d : V} : (eF a b c d).lookup ("pitches" : Str) = some b := (lk_past (by decide +kernel)).trans lk_here
theorem eF_length {a b c d : V} : (eF a b c d).lookup ("length" : Str) = some c := (lk_past (by decide +kernel)).trans ((lk_past (by decide +kernel)).trans lk_here)
theorem eF_tied {a b c d : V} : (eF a b c d).lookup ("tied" : Str) = some d := (lk_past (by decide +kernel)).trans ((lk_past (by decide +kernel)).trans ((lk_past (by decide +kernel)).trans lk_here))
theorem eF_new {a b c d : V} : putF "tied" d (putF "length" c (putF "pitches" b (putF "place" a []))) = eF a b c d := by
  show putF "tied" d (putF "length" c (putF "pitches" b [("place", a)])) = _
  rw [put_past (by decide +kernel)]
  show putF "tied" d (putF "length" c [("place", a), ("pitches", b)]) = _
  rw [put_past (by decide +kernel), put_past (by decide +kernel)]
  show putF "tied" d [("place", a), ("pitches", b), ("length", c)] = _
  rw [put_past (by decide +kernel), put_past (by decide +kernel), put_past (by decide +kernel)]; rfl
def bF (a b c d : V) : List (Str × V) := [("short", a), ("words", b), ("length", c), ("place", d)]
theorem bF_short {a b c d : V} : (bF a b c d).lookup ("short" : Str) = some a := lk_here
theorem bF_words {a b c d : V} : (bF a b c d).lookup ("words" : Str) = some b := (lk_past (by decide +kernel)).trans lk_here
theorem bF_length {a b c d : V} : (bF a b c d).lookup ("length" : Str) = some c := (lk_past (by decide +kernel)).trans ((lk_past (by decide +kernel)).trans lk_here)
theorem bF_place {a b c d : V} : (bF a b c d).lookup ("place" : Str) = some d := (lk_past (by decide +kernel)).trans ((lk_past (by decide +kernel)).trans ((lk_past (by decide +kernel)).trans lk_here))
theorem bF_new {a b c d : V} : putF "place" d (putF "length" c (putF "words" b (putF "short" a []))) = bF a b c d := by
  show putF "place" d (putF "length" c (putF "words" b [("short", a)])) = _
  rw [put_past (by decide +kernel)]
  show putF "place" d (putF "length" c [("short", a), ("words", b)]) = _
  rw [put_past (by decide +kernel), put_past (by decide +kernel)]
  show putF "place" d [("short", a), ("words", b), ("length", c)] = _
  rw [put_past (by decide +kernel), put_past (by decide +kernel), put_past (by decide +kernel)]; rfl
theorem bF_putL {a b c d x : V} : putF "length" x (bF a b c d) = bF a b x d := by
  unfold bF
  rw [put_past (by decide +kernel), put_past (by decide +kernel), put_here]
theorem bF_putP {a b c d x : V} : putF "place" x (bF a b c d) = bF a b c x := by
  unfold bF
  rw [put_past (by decide +kernel), put_past (by decide +kernel), put_past (by decide +kernel), put_here]
def vF (a b c d : V) : List (Str × V) := [("name", a), ("bars", b), ("events", c), ("end", d)]
theorem vF_name {a b c d : V} : (vF a b c d).lookup ("name" : Str) = some a := lk_here
theorem vF_bars {a b c d : V} : (vF a b c d).lookup ("bars" : Str) = some b := (lk_past (by decide +kernel)).trans lk_here
theorem vF_events {a b c d : V} : (vF a b c d).lookup ("events" : Str) = some c := (lk_past (by decide +kernel)).trans ((lk_past (by decide +kernel)).trans lk_here)
theorem vF_end {a b c d : V} : (vF a b c d).lookup ("end" : Str) = some d := (lk_past (by decide +kernel)).trans ((lk_past (by decide +kernel)).trans ((lk_past (by decide +kernel)).trans lk_here))
theorem vF_new {a b c d : V} : putF "end" d (putF "events" c (putF "bars" b (putF "name" a []))) = vF a b c d := by
  show putF "end" d (putF "events" c (putF "bars" b [("name", a)])) = _
  rw [put_past (by decide +kernel)]
  show putF "end" d (putF "events" c [("name", a), ("bars", b)]) = _
  rw [put_past (by decide +kernel), put_past (by decide +kernel)]
  show putF "end" d [("name", a), ("bars", b), ("events", c)] = _
  rw [put_past (by decide +kernel), put_past (by decide +kernel), put_past (by decide +kernel)]; rfl
def sF (a b c d : V) : List (Str × V) := [("metre", a), ("full", b), ("key", c), ("voices", d)]
theorem sF_metre {a b c d : V} : (sF a b c d).lookup ("metre" : Str) = some a := lk_here
theorem sF_full {a b c d : V} : (sF a b c d).lookup ("full" : Str) = some b := (lk_past (by decide +kernel)).trans lk_here
theorem sF_key {a b c d : V} : (sF a b c d).lookup ("key" : Str) = some c := (lk_past (by decide +kernel)).trans ((lk_past (by decide +kernel)).trans lk_here)
theorem sF_voices {a b c d : V} : (sF a b c d).lookup ("voices" : Str) = some d := (lk_past (by decide +kernel)).trans ((lk_past (by decide +kernel)).trans ((lk_past (by decide +kernel)).trans lk_here))
theorem sF_new {a b c d : V} : putF "voices" d (putF "key" c (putF "full" b (putF "metre" a []))) = sF a b c d := by
  show putF "voices" d (putF "key" c (putF "full" b [("metre", a)])) = _
  rw [put_past (by decide +kernel)]
  show putF "voices" d (putF "key" c [("metre", a), ("full", b)]) = _
  rw [put_past (by decide +kernel), put_past (by decide +kernel)]
  show putF "voices" d [("metre", a), ("full", b), ("key", c)] = _
  rw [put_past (by decide +kernel), put_past (by decide +kernel), put_past (by decide +kernel)]; rfl
def rF (a b : V) : List (Str × V) := [("words", a), ("at", b)]
theorem rF_words {a b : V} : (rF a b).lookup ("words" : Str) = some a := lk_here
theorem rF_at {a b : V} : (rF a b).lookup ("at" : Str) = some b := (lk_past (by decide +kernel)).trans lk_here
theorem rF_none {a b : V} {m : Str} (h1 : (m == ("words" : Str)) = false) (h2 : (m == ("at" : Str)) = false) : (rF a b).lookup m = none := (lk_past h1).trans ((lk_past h2).trans rfl)
theorem rF_new {a b : V} : putF "at" b (putF "words" a []) = rF a b := by
  show putF "at" b [("words", a)] = _
  rw [put_past (by decide +kernel)]; rfl
theorem rF_put {a b x : V} : putF "at" x (rF a b) = rF a x := by
  unfold rF
  rw [put_past (by decide +kernel), put_here]
/-- an event, a bar, a voice, a score -/
def EvAt (C : Addr) (H : Hp) (a : Addr) (e : Ev) : Prop := ∃ dx q, H a = some (.ins C dx (eF (.int e.place) (.ref q) (.int e.len) (.bl e.tie))) ∧ ListAt PitchAt H q e.ps
def txs (ws : List Bytes) : List V := ws.map fun w => V.str (S w)
def BarAt (C : Addr) (H : Hp) (a : Addr) (b : Bar) : Prop := ∃ dx l, H a = some (.ins C dx (bF (.bl b.short) (.ref l) (.int (barLen b)) (.int b.place))) ∧ H l = some (.lst (txs (barWords b)))
def VoiceAt (cV cB cE : Addr) (H : Hp) (a : Addr) (v : Voice) : Prop := ∃ dx bs es, H a = some (.ins cV dx (vF (.str (S v.name)) (.ref bs) (.ref es) (.int v.place))) ∧ ListAt (BarAt cB) H bs v.bars ∧ ListAt (EvAt cE) H es (voiceEvs v)
def metreText (s : Score) : Bytes := dec s.beats ++ 47 :: dec s.unit
def keyText (s : Score) : Bytes := if s.key = 0 then [] else (if s.key < 0 then [45] else []) ++ dec s.key.natAbs
def ScoreAt (cS cV cB cE : Addr) (H : Hp) (a : Addr) (s : Score) : Prop := ∃ dx vs, H a = some (.ins cS dx (sF (.str (S (metreText s))) (.int (full s)) (.str (S (keyText s))) (.ref vs))) ∧ ListAt (VoiceAt cV cB cE) H vs s.voices
theorem ListAt.mono {α : Type} {R : Hp → Addr → α → Prop} {H H' : Hp} (hR : ∀ a x, R H a x → R H' a x) (s : Same H H') {a : Addr} {xs : List α} (h : ListAt R H a xs) : ListAt R H' a xs := by
  obtain ⟨as, h1, h2⟩ := h
  exact ⟨as, s _ _ h1, h2.imp hR⟩
theorem PitchAt.same {H H' : Hp} (s : Same H H') (a : Addr) (p : Pitch) (h : PitchAt H a p) : PitchAt H' a p := s _ _ h
theorem PairAt.same {H H' : Hp} (s : Same H H') (a : Addr) (p : Nat × Nat) (h : PairAt H a p) : PairAt H' a p := s _ _ h
theorem EvAt.same {C : Addr} {H H' : Hp} (s : Same H H') (a : Addr) (e : Ev) (h : EvAt C H a e) : EvAt C H' a e := by
  obtain ⟨dx, q, h1, h2⟩ := h
  exact ⟨dx, q, s _ _ h1, h2.mono (PitchAt.same s) s⟩
theorem BarAt.same {C : Addr} {H H' : Hp} (s : Same H H') (a : Addr) (b : Bar) (h : BarAt C H a b) : BarAt C H' a b := by
  obtain ⟨dx, l, h1, h2⟩ := h
  exact ⟨dx, l, s _ _ h1, s _ _ h2⟩
theorem VoiceAt.same {cV cB cE : Addr} {H H' : Hp} (s : Same H H') (a : Addr) (v : Voice) (h : VoiceAt cV cB cE H a v) : VoiceAt cV cB cE H' a v := by
  obtain ⟨dx, bs, es, h1, h2, h3⟩ := h
  exact ⟨dx, bs, es, s _ _ h1, h2.mono (BarAt.same s) s, h3.mono (EvAt.same s) s⟩
theorem ScoreAt.same {cS cV cB cE : Addr} {H H' : Hp} (s : Same H H') (a : Addr) (x : Score) (h : ScoreAt cS cV cB cE H a x) : ScoreAt cS cV cB cE H' a x := by
  obtain ⟨dx, vs, h1, h2⟩ := h
  exact ⟨dx, vs, s _ _ h1, h2.mono (VoiceAt.same s) s⟩
/-- the promise of an __init__ that keeps four values -/
def spIn4 (C : Addr) (F : V → V → V → V → List (Str × V)) : Sp := fun vs H Q _ => ∃ (p dx : Addr) (a b c d : V), vs = [.ref p, a, b, c, d] ∧ H p = some (.ins C dx []) ∧
  ∀ H' : Hp, H' p = some (.ins C dx (F a b c d)) → (∀ x o, H x = some o → x ≠ p → H' x = some o) → Q .non H'
section
variable {P : Program} {w : World} {K : PySem.W.Frag} {mg : Str → Option Value} {base : Heap}
theorem sc_event : FnScope ["self", "place", "pitches", "length", "tied"] ["self", "place", "pitches", "length", "tied"] (defScope (inClass (top 18) 0)) := ⟨rfl, rfl, rfl, by decide +kernel, rfl, by decide +kernel, by decide +kernel⟩
theorem bi_event (D : InitAt K C "Event.__init__" (inClass (top 18) 0)) : Binds K D.fd ["self", "place", "pitches", "length", "tied"] [] := D.F.binds fun _ _ _ _ _ _ us hl => match us, hl with | [_, _, _, _, _], _ => rfl
theorem ok_event (T : Tx w K mg) : FnOk P w K mg base CX0 1 T.i_Event.f T.i_Event.fd ["self", "place", "pitches", "length", "tied"] (spIn4 T.c_Event eF) := by
  refine T.i_Event.F.ok sc_event (fun vs H Q E h => ?_) (fun cdv A outer s H vs Q E hr h => ?_)
  · obtain ⟨p, dx, a, b, c, d, rfl, _⟩ := h
    rfl
  · obtain ⟨p, dx, a, b, c, d, rfl, hp, k⟩ := h
    refine ⟨_, pss_cons (ps_fld (pv 0) (pv 1) rfl) (pss_cons (ps_fld (pv 0) (pv 2) rfl) (pss_cons (ps_fld (pv 0) (pv 3) rfl) (pss_one (ps_fld (pv 0) (pv 4) rfl)))), ?_⟩
    refine ⟨_, rfl, _, rfl, p, _, dx, [], rfl, hp, T.cl_Event, T.n_Event_place, (by show 0 < 1000; decide), ?_⟩
    refine ⟨_, rfl, _, rfl, p, _, dx, _, rfl, upd_same, T.cl_Event, T.n_Event_pitches, (by show 1 < 1000; decide), ?_⟩
    refine ⟨_, rfl, _, rfl, p, _, dx, _, rfl, upd_same, T.cl_Event, T.n_Event_length, (by show 2 < 1000; decide), ?_⟩
    refine ⟨_, rfl, _, rfl, p, _, dx, _, rfl, upd_same, T.cl_Event, T.n_Event_tied, (by show 3 < 1000; decide), ?_⟩
    refine k _ (Eq.trans upd_same (congrArg (fun q => some (HO.ins T.c_Event dx q)) eF_new)) fun b o e hb => ?_
    rw [upd_ne hb, upd_ne hb, upd_ne hb, upd_ne hb]
    exact e
theorem sc_voice : FnScope ["self", "name", "bars", "events", "end"] ["self", "name", "bars", "events", "end"] (defScope (inClass (top 16) 0)) := ⟨rfl, rfl, rfl, by decide +kernel, rfl, by decide +kernel, by decide +kernel⟩
theorem bi_voice (D : InitAt K C "Voice.__init__" (inClass (top 16) 0)) : Binds K D.fd ["self", "name", "bars", "events", "end"] [] := D.F.binds fun _ _ _ _ _ _ us hl => match us, hl with | [_, _, _, _, _], _ => rfl
theorem ok_voice (T : Tx w K mg) : FnOk P w K mg base CX0 1 T.i_Voice.f T.i_Voice.fd ["self", "name", "bars", "events", "end"] (spIn4 T.c_Voice vF) := by
  refine T.i_Voice.F.ok sc_voice (fun vs H Q E h => ?_) (fun cdv A outer s H vs Q E hr h => ?_)
  · obtain ⟨p, dx, a, b, c, d, rfl, _⟩ := h
    rfl
  · obtain ⟨p, dx, a, b, c, d, rfl, hp, k⟩ := h
    refine ⟨_, pss_cons (ps_fld (pv 0) (pv 1) rfl) (pss_cons (ps_fld (pv 0) (pv 2) rfl) (pss_cons (ps_fld (pv 0) (pv 3) rfl) (pss_one (ps_fld (pv 0) (pv 4) rfl)))), ?_⟩
    refine ⟨_, rfl, _, rfl, p, _, dx, [], rfl, hp, T.cl_Voice, T.n_Voice_name, (by show 0 < 1000; decide), ?_⟩
    refine ⟨_, rfl, _, rfl, p, _, dx, _, rfl, upd_same, T.cl_Voice, T.n_Voice_bars, (by show 1 < 1000; decide), ?_⟩
    refine ⟨_, rfl, _, rfl, p, _, dx, _, rfl, upd_same, T.cl_Voice, T.n_Voice_events, (by show 2 < 1000; decide), ?_⟩
    refine ⟨_, rfl, _, rfl, p, _, dx, _, rfl, upd_same, T.cl_Voice, T.n_Voice_end, (by show 3 < 1000; decide), ?_⟩
    refine k _ (Eq.trans upd_same (congrArg (fun q => some (HO.ins T.c_Voice dx q)) vF_new)) fun b o e hb => ?_
    rw [upd_ne hb, upd_ne hb, upd_ne hb, upd_ne hb]
    exact e
theorem sc_score : FnScope ["self", "metre", "full", "key", "voices"] ["self", "metre", "full", "key", "voices"] (defScope (inClass (top 15) 0)) := ⟨rfl, rfl, rfl, by decide +kernel, rfl, by decide +kernel, by decide +kernel⟩
theorem bi_score (D : InitAt K C "Score.__init__" (inClass (top 15) 0)) : Binds K D.fd ["self", "metre", "full", "key", "voices"] [] := D.F.binds fun _ _ _ _ _ _ us hl => match us, hl with | [_, _, _, _, _], _ => rfl
theorem ok_score (T : Tx w K mg) : FnOk P w K mg base CX0 1 T.i_Score.f T.i_Score.fd ["self", "metre", "full", "key", "voices"] (spIn4 T.c_Score sF) := by
  refine T.i_Score.F.ok sc_score (fun vs H Q E h => ?_) (fun cdv A outer s H vs Q E hr h => ?_)
  · obtain ⟨p, dx, a, b, c, d, rfl, _⟩ := h
    rfl
  · obtain ⟨p, dx, a, b, c, d, rfl, hp, k⟩ := h
    refine ⟨_, pss_cons (ps_fld (pv 0) (pv 1) rfl) (pss_cons (ps_fld (pv 0) (pv 2) rfl) (pss_cons (ps_fld (pv 0) (pv 3) rfl) (pss_one (ps_fld (pv 0) (pv 4) rfl)))), ?_⟩
    refine ⟨_, rfl, _, rfl, p, _, dx, [], rfl, hp, T.cl_Score, T.n_Score_metre, (by show 0 < 1000; decide), ?_⟩
    refine ⟨_, rfl, _, rfl, p, _, dx, _, rfl, upd_same, T.cl_Score, T.n_Score_full, (by show 1 < 1000; decide), ?_⟩
    refine ⟨_, rfl, _, rfl, p, _, dx, _, rfl, upd_same, T.cl_Score, T.n_Score_key, (by show 2 < 1000; decide), ?_⟩
    refine ⟨_, rfl, _, rfl, p, _, dx, _, rfl, upd_same, T.cl_Score, T.n_Score_voices, (by show 3 < 1000; decide), ?_⟩
    refine k _ (Eq.trans upd_same (congrArg (fun q => some (HO.ins T.c_Score dx q)) sF_new)) fun b o e hb => ?_
    rw [upd_ne hb, upd_ne hb, upd_ne hb, upd_ne hb]
    exact e
/-! ### Bar -/
theorem st_short : Str.ofString "short" = S SHORT := by decide +kernel
def shortW (b : Bool) : List Bytes := if b = true then [SHORT] else []
def spBar (C : Addr) : Sp := fun vs H Q _ => ∃ (p dx : Addr) (b : Bool), vs = [.ref p, .bl b] ∧ H p = some (.ins C dx []) ∧
  ∀ (H' : Hp) (l : Addr), H' p = some (.ins C dx (bF (.bl b) (.ref l) (.int 0) (.int 0))) → H l = none → H' l = some (.lst (txs (shortW b))) → (∀ x o, H x = some o → x ≠ p → H' x = some o) → Q .non H'
theorem sc_bar : FnScope ["self", "short"] ["self", "short"] (defScope (inClass (top 17) 0)) := ⟨rfl, rfl, rfl, by decide +kernel, rfl, by decide +kernel, by decide +kernel⟩
theorem bi_bar (D : InitAt K C "Bar.__init__" (inClass (top 17) 0)) : Binds K D.fd ["self", "short"] [] := D.F.binds fun _ _ _ _ _ _ us hl => match us, hl with | [_, _], _ => rfl
theorem ok_bar (T : Tx w K mg) : FnOk P w K mg base CX0 1 T.i_Bar.f T.i_Bar.fd ["self", "short"] (spBar T.c_Bar) := by
  refine T.i_Bar.F.ok sc_bar (fun vs H Q E h => ?_) (fun cdv A outer s H vs Q E hr h => ?_)
  · obtain ⟨p, dx, b, rfl, _⟩ := h
    rfl
  · obtain ⟨p, dx, b, rfl, hp, k⟩ := h
    refine ⟨_, pss_cons (ps_fld (pv 0) (pv 1) rfl) (pss_mid (ps_fld (pv 0) (pe_ifExp (pt_val (pv 1)) (pe_lst (pa_cons pe_str pa_nil)) (pe_lst pa_nil)) rfl) (pss_cons (ps_fld (pv 0) pe_int rfl) (pss_one (ps_fld (pv 0) pe_int rfl)))), ?_⟩
    refine ⟨_, rfl, _, rfl, p, _, dx, [], rfl, hp, T.cl_Bar, T.n_Bar_short, (by show 0 < 1000; decide), ?_⟩
    refine ⟨fun σ' H' => σ' = [some (.ref p), some (.bl b)] ∧ ∃ l, H' p = some (.ins T.c_Bar dx (putF "words" (.ref l) (putF "short" (.bl b) []))) ∧ H l = none ∧ H' l = some (.lst (txs (shortW b))) ∧ ∀ x o, H x = some o → x ≠ p → H' x = some o, ?_, ?_⟩
    · refine ⟨_, rfl, _, rfl, ?_⟩
      have fin : ∀ l, upd H p (.ins T.c_Bar dx (putF "short" (.bl b) [])) l = none → ∃ a C dx' fs, V.ref p = .ref a ∧ upd (upd H p (.ins T.c_Bar dx (putF "short" (.bl b) []))) l (.lst (txs (shortW b))) a = some (.ins C dx' fs) ∧ Cls K C ∧ NoAttr K C "words" ∧ fs.length < 1000 ∧
          ∃ l', upd (upd (upd H p (.ins T.c_Bar dx (putF "short" (.bl b) []))) l (.lst (txs (shortW b)))) a (.ins C dx' (putF "words" (.ref l) fs)) p = some (.ins T.c_Bar dx (putF "words" (.ref l') (putF "short" (.bl b) []))) ∧ H l' = none ∧
            upd (upd (upd H p (.ins T.c_Bar dx (putF "short" (.bl b) []))) l (.lst (txs (shortW b)))) a (.ins C dx' (putF "words" (.ref l) fs)) l' = some (.lst (txs (shortW b))) ∧
            ∀ x o, H x = some o → x ≠ p → upd (upd (upd H p (.ins T.c_Bar dx (putF "short" (.bl b) []))) l (.lst (txs (shortW b)))) a (.ins C dx' (putF "words" (.ref l) fs)) x = some o := by
        intro l nl
        have hlp : l ≠ p := fun z => by rw [z, upd_same] at nl; cases nl
        have nl2 : H l = none := by rw [upd_ne hlp] at nl; exact nl
        refine ⟨p, T.c_Bar, dx, _, rfl, by rw [upd_ne (Ne.symm hlp)]; exact upd_same, T.cl_Bar, T.n_Bar_words, (by show 1 < 1000; decide), l, upd_same, nl2, by rw [upd_ne hlp]; exact upd_same, fun x o e hx => ?_⟩
        rw [upd_ne hx, upd_ne (ne_of_none e nl2), upd_ne hx]
        exact e
      cases b with
      | true =>
        refine if_t rfl ⟨by show 1 ≤ sizeLine; decide, fun l nl => ⟨_, rfl, ?_⟩⟩
        obtain ⟨a, C, dx', fs, e1, e2, e3, e4, e5, l', f1, f2, f3, f4⟩ := fin l nl
        rw [st_short]
        exact ⟨a, C, dx', fs, e1, e2, e3, e4, e5, rfl, l', f1, f2, f3, f4⟩
      | false =>
        refine if_f rfl ⟨Nat.zero_le _, fun l nl => ⟨_, rfl, ?_⟩⟩
        obtain ⟨a, C, dx', fs, e1, e2, e3, e4, e5, l', f1, f2, f3, f4⟩ := fin l nl
        exact ⟨a, C, dx', fs, e1, e2, e3, e4, e5, rfl, l', f1, f2, f3, f4⟩
    · rintro σ' H' ⟨rfl, l, h1, h2, h3, h4⟩
      have hlp : l ≠ p := fun z => by rw [z, hp] at h2; cases h2
      refine ⟨_, rfl, p, _, dx, _, rfl, h1, T.cl_Bar, T.n_Bar_length, (by show 2 < 1000; decide), ?_⟩
      refine ⟨_, rfl, p, _, dx, _, rfl, upd_same, T.cl_Bar, T.n_Bar_place, (by show 3 < 1000; decide), ?_⟩
      refine k _ l (Eq.trans upd_same (congrArg (fun q => some (HO.ins T.c_Bar dx q)) bF_new)) h2 (by rw [upd_ne hlp, upd_ne hlp]; exact h3) fun x o e hx => ?_
      rw [upd_ne hx, upd_ne hx]
      exact h4 x o e hx
end
end Sco
namespace Sco
open PySem PySem.Spec PyProof.Rows L2 Sx62
/-! ### the reader -/
def WordAt (H : Hp) (a : Addr) (x : Bytes × Nat) : Prop := H a = some (.tup [.str (S x.1), .int x.2])
def ents (ws : List Word) (e : Nat) : List (Bytes × Nat) := ws.map (fun w => (w.text, w.place)) ++ [([], e)]
def lkW (rest : List Word) : Bytes := match rest with
  | [] => []
  | w :: _ => w.text
def whW (e : Nat) (rest : List Word) : Nat := match rest with
  | [] => e
  | w :: _ => w.place
def WsOk (ws : List Word) : Prop := ∀ w ∈ ws, Wd w.text ∧ w.text ≠ []
theorem WsOk.tail {w : Word} {l : List Word} (h : WsOk (w :: l)) : WsOk l := fun x hx => h x (List.mem_cons_of_mem _ hx)
/-- at r: a reader that has still to read so much -/
def RdAt (C : Addr) (H : Hp) (r l : Addr) (e : Nat) (rest : List Word) : Prop := ∃ (dx : Addr) (ws : List Word) (i : Nat), H r = some (.ins C dx (rF (.ref l) (.int i))) ∧ ListAt WordAt H l (ents ws e) ∧ i ≤ ws.length ∧ rest = ws.drop i ∧ WsOk ws
theorem RdAt.ok {C : Addr} {H : Hp} {r l : Addr} {e : Nat} {rest : List Word} (h : RdAt C H r l e rest) : WsOk rest := by
  obtain ⟨dx, ws, i, _, _, _, rfl, ok⟩ := h
  exact fun w hw => ok w (List.mem_of_mem_drop hw)
theorem wd_nil : Wd [] := ⟨fun c hc => (by cases hc), Nat.zero_le _⟩
theorem lk_wd {rest : List Word} (h : WsOk rest) : Wd (lkW rest) := by
  cases rest with
  | nil => exact wd_nil
  | cons w l => exact (h w List.mem_cons_self).1
theorem ents_at {ws : List Word} {e i : Nat} (h : i ≤ ws.length) : (ents ws e)[i]? = some (lkW (ws.drop i), whW e (ws.drop i)) := by
  unfold ents
  by_cases h1 : i < ws.length
  · rw [List.getElem?_append_left (by rw [List.length_map]; exact h1), List.getElem?_map, List.getElem?_eq_getElem h1, List.drop_eq_getElem_cons h1]; rfl
  · have : i = ws.length := by omega
    subst this
    rw [List.drop_length, List.getElem?_append_right (by rw [List.length_map]; exact Nat.le_refl _), List.length_map, Nat.sub_self]; rfl
theorem WordAt.same {H H' : Hp} (s : Same H H') (a : Addr) (x : Bytes × Nat) (h : WordAt H a x) : WordAt H' a x := s _ _ h
/-- what is there but at these places stays -/
def But (M : List Addr) (H H' : Hp) : Prop := ∀ b o, H b = some o → b ∉ M → H' b = some o
theorem But.refl {M : List Addr} {H : Hp} : But M H H := fun _ _ h _ => h
theorem But.trans {M : List Addr} {H H1 H2 : Hp} (a : But M H H1) (b : But M H1 H2) : But M H H2 := fun c o h n => b c o (a c o h n) n
theorem But.of {M : List Addr} {H H' : Hp} (s : Same H H') : But M H H' := fun b o h _ => s b o h
theorem But.weak {M N : List Addr} {H H' : Hp} (s : But M H H') (h : ∀ x ∈ M, x ∈ N) : But N H H' := fun b o e n => s b o e fun z => n (h b z)
theorem But.nil {H H' : Hp} (s : But [] H H') : Same H H' := fun b o h => s b o h (by simp)
theorem But.upd {M : List Addr} {H : Hp} {a : Addr} {o : HO} (h : a ∈ M) : But M H (upd H a o) := fun b x e n => by
  rw [upd_ne (fun z => n (by rw [z]; exact h))]; exact e
/-- a fault leaves the def -/
def Falls (C : Addr) (M : List Addr) (H : Hp) (f : Fault) (E : XK) : Prop := ∀ H' d, But M H H' → H' d = some (.xd (fFlds (.int f.kind) (.int f.place))) → E (.ref C) (some d) H'
theorem Falls.but {C : Addr} {M N : List Addr} {H H1 : Hp} {f : Fault} {E : XK} (h : Falls C M H f E) (s : But M H H1) (hN : ∀ x ∈ N, x ∈ M ∨ H x = none) : Falls C N H1 f E := fun H' d b e =>
  h H' d (fun c o hc n => b c o (s c o hc n) fun z => (hN c z).elim n fun q => by rw [q] at hc; cases hc) e
/-- the reader stands still where nothing of it is changed -/
theorem RdAt.keep {C : Addr} {M : List Addr} {H H' : Hp} {r l : Addr} {e : Nat} {rest : List Word} (h : RdAt C H r l e rest) (b : But M H H') (hr : r ∉ M) (hl : l ∉ M) (ht : ∀ a ∈ M, ∀ xs, H a ≠ some (.tup xs)) : RdAt C H' r l e rest := by
  obtain ⟨dx, ws, i, h1, ⟨as, h2, h3⟩, h4, h5, h6⟩ := h
  exact ⟨dx, ws, i, b _ _ h1 hr, ⟨as, b _ _ h2 hl, h3.imp fun a x hx => b _ _ hx fun z => ht _ z _ hx⟩, h4, h5, h6⟩
theorem RdAt.same {C : Addr} {H H' : Hp} {r l : Addr} {e : Nat} {rest : List Word} (h : RdAt C H r l e rest) (s : Same H H') : RdAt C H' r l e rest := h.keep (M := []) (But.of s) (by simp) (by simp) (by simp)
section
variable {P : Program} {w : World} {K : PySem.W.Frag} {mg : Str → Option Value} {base : Heap}
def spLook (C : Addr) : Sp := fun vs H Q _ => ∃ (r l : Addr) (e : Nat) (rest : List Word), vs = [.ref r] ∧ RdAt C H r l e rest ∧ Q (.str (S (lkW rest))) H
theorem sc_look : FnScope ["self"] ["self"] (defScope (inClass (top 53) 1)) := ⟨rfl, rfl, rfl, by decide +kernel, rfl, by decide +kernel, by decide +kernel⟩
theorem bi_look (D : MethAt K C "look" "Reader.look" (inClass (top 53) 1)) : Binds K D.fd ["self"] [] := D.F.binds fun _ _ _ _ _ _ us hl => match us, hl with | [_], _ => rfl
theorem ok_look (T : Tx w K mg) : FnOk P w K mg base CX0 1 T.m_Reader_look.f T.m_Reader_look.fd ["self"] (spLook T.c_Reader) := by
  refine T.m_Reader_look.F.ok sc_look (fun vs H Q E h => ?_) (fun cdv A outer s H vs Q E hr h => ?_)
  · obtain ⟨r, l, e, rest, rfl, _⟩ := h
    rfl
  · obtain ⟨r, l, e, rest, rfl, ⟨dx, ws, i, h1, ⟨as, h2, h3⟩, h4, rfl, h6⟩, q⟩ := h
    refine ⟨_, pss_one (ps_ret (pe_ix ix_tup (pe_ix ix_list (pe_fld (pv 0) rfl) (pe_fld (pv 0) rfl) (fun _ _ => rfl)) pe_int (fun _ _ => rfl))), ?_⟩
    obtain ⟨a, ha, hx⟩ := h3.get (ents_at h4)
    have hi : (as.map V.ref)[i]? = some (.ref a) := by rw [List.getElem?_map, ha]; rfl
    exact ⟨_, rfl, r, _, dx, _, _, rfl, h1, T.cl_Reader, T.n_Reader_words, rF_words, _, rfl, r, _, dx, _, _, rfl, h1, T.cl_Reader, T.n_Reader_at, rF_at,
      l, _, _, _, rfl, rfl, SqL.of h2, atI_nat hi, a, _, 0, _, rfl, rfl, SqT.of hx, rfl, q⟩
def spWhere (C : Addr) : Sp := fun vs H Q _ => ∃ (r l : Addr) (e : Nat) (rest : List Word), vs = [.ref r] ∧ RdAt C H r l e rest ∧ Q (.int (whW e rest)) H
theorem sc_where : FnScope ["self"] ["self"] (defScope (inClass (top 53) 2)) := ⟨rfl, rfl, rfl, by decide +kernel, rfl, by decide +kernel, by decide +kernel⟩
theorem bi_where (D : MethAt K C "where" "Reader.where" (inClass (top 53) 2)) : Binds K D.fd ["self"] [] := D.F.binds fun _ _ _ _ _ _ us hl => match us, hl with | [_], _ => rfl
theorem ok_where (T : Tx w K mg) : FnOk P w K mg base CX0 1 T.m_Reader_where.f T.m_Reader_where.fd ["self"] (spWhere T.c_Reader) := by
  refine T.m_Reader_where.F.ok sc_where (fun vs H Q E h => ?_) (fun cdv A outer s H vs Q E hr h => ?_)
  · obtain ⟨r, l, e, rest, rfl, _⟩ := h
    rfl
  · obtain ⟨r, l, e, rest, rfl, ⟨dx, ws, i, h1, ⟨as, h2, h3⟩, h4, rfl, h6⟩, q⟩ := h
    refine ⟨_, pss_one (ps_ret (pe_ix ix_tup (pe_ix ix_list (pe_fld (pv 0) rfl) (pe_fld (pv 0) rfl) (fun _ _ => rfl)) pe_int (fun _ _ => rfl))), ?_⟩
    obtain ⟨a, ha, hx⟩ := h3.get (ents_at h4)
    have hi : (as.map V.ref)[i]? = some (.ref a) := by rw [List.getElem?_map, ha]; rfl
    exact ⟨_, rfl, r, _, dx, _, _, rfl, h1, T.cl_Reader, T.n_Reader_words, rF_words, _, rfl, r, _, dx, _, _, rfl, h1, T.cl_Reader, T.n_Reader_at, rF_at,
      l, _, _, _, rfl, rfl, SqL.of h2, atI_nat hi, a, _, 1, _, rfl, rfl, SqT.of hx, rfl, q⟩
/-- take -/
def spTake (C CF : Addr) : Sp := fun vs H Q E => ∃ (r l : Addr) (e : Nat) (rest : List Word) (b : Bool), vs = [.ref r, .bl b] ∧ RdAt C H r l e rest ∧
  (b = false → Falls CF [] H ⟨2, whW e rest⟩ E) ∧
  (b = true → ∃ (w : Word) (lr : List Word), rest = w :: lr ∧ ∀ H', RdAt C H' r l e lr → But [r] H H' → Q (.str (S w.text)) H')
theorem sc_take : FnScope ["self", "right", "word"] ["self", "right"] (defScope (inClass (top 53) 3)) := ⟨rfl, rfl, rfl, by decide +kernel, rfl, by decide +kernel, by decide +kernel⟩
theorem bi_take (D : MethAt K C "take" "Reader.take" (inClass (top 53) 3)) : Binds K D.fd ["self", "right"] [] := D.F.binds fun _ _ _ _ _ _ us hl => match us, hl with | [_, _], _ => rfl
theorem ok_take (T : Tx w K mg) : FnOk P w K mg base (L2.CX P w) 3 T.m_Reader_take.f T.m_Reader_take.fd ["self", "right"] (spTake T.c_Reader T.c_Fault) := by
  have GL : FnOk P w K mg base CX0 1 _ _ _ (spLook T.c_Reader) := ok_look T
  have GW : FnOk P w K mg base CX0 1 _ _ _ (spWhere T.c_Reader) := ok_where T
  refine T.m_Reader_take.F.okX sc_take (fun vs H Q E h => ?_) (fun cdv A outer s H vs Q E hr h => ?_)
  · obtain ⟨r, l, e, rest, b, rfl, _⟩ := h
    rfl
  · obtain ⟨r, l, e, rest, b, rfl, hR, kF, kT⟩ := h
    have hr1 : Room 1 _ := hr.mono (by decide)
    refine ⟨_, pss_cons (ps_set (i := 2) sc_take.nd rfl (Or.inl rfl) (pe_meth0 (pv 0) T.cl_Reader T.m_Reader_look.M GL hr1 (bi_look _) .nil pass0))
      (pss_cons (ps_if (pt_not (pt_val (pv 1))) (pss_one (ps_raiseF (W := fun cls d _ H => E cls d H) rfl T.x_Fault hr (takes_of rfl rfl rfl rfl) (by exact (pa_cons (pe_ki T.k_BAD_WORD) (pa_cons (pe_meth0 (pv 0) T.cl_Reader T.m_Reader_where.M GW hr1 (bi_where _) .nil pass0) pa_nil))))) pss_nil)
      (pss_cons (ps_fldaug (pv 0) pe_int in_add)
      (pss_one (ps_ret (pv 2))))), ?_⟩
    have hR0 := hR
    obtain ⟨dx, ws, i, h1, ⟨as, h2, h3⟩, h4, h5, h6⟩ := hR0
    refine ⟨_, rfl, r, dx, _, rfl, h1, rF_none (by decide +kernel) (by decide +kernel), r, l, e, rest, rfl, hR, _, rfl, _, rfl, ?_⟩
    cases b with
    | false =>
      refine if_t rfl ⟨_, rfl, r, dx, _, rfl, h1, rF_none (by decide +kernel) (by decide +kernel), r, l, e, rest, rfl, hR, _, _, rfl, fun d nd => ?_⟩
      exact kF rfl _ d (But.of (same_new nd)) upd_same
    | true =>
      obtain ⟨wd, lr, er, k⟩ := kT rfl
      refine if_f rfl ⟨_, rfl, r, _, dx, _, _, rfl, h1, T.cl_Reader, T.n_Reader_at, rF_at, _, _, rfl, rfl, _, _, h1, (by show 2 < 1000; decide), ?_⟩
      refine ⟨_, rfl, ?_⟩
      have hi : i < ws.length := by
        rcases Nat.lt_or_ge i ws.length with z | z
        · exact z
        · rw [List.drop_of_length_le z] at h5
          rw [er] at h5; cases h5
      have e5 : ws.drop (i + 1) = lr := by
        rw [List.drop_eq_getElem_cons hi, er] at h5
        exact (List.cons.inj h5).2.symm
      rw [er]
      have nl : l ≠ r := ne_of h2 h1 (by intro z; cases z)
      refine k _ ⟨dx, ws, i + 1, ?_, ⟨as, by rw [upd_ne nl]; exact h2, h3.imp fun a x hx => ?_⟩, by omega, e5.symm, h6⟩ (But.upd (by simp))
      · rw [upd_same, rF_put]; rfl
      · have : a ≠ r := ne_of hx h1 (by intro z; cases z)
        show upd H r _ a = _
        rw [upd_ne this]; exact hx
end
end Sco
namespace Sco
open PySem PySem.Spec PyProof.Rows L2
/-! ### sorted(d), d a dict whose keys are tuples of whole numbers -/
def rSortD (K : PySem.W.Frag) (n : Nat) (B : Int) : List V → Hp → VK → Prop := fun vs H Q => ∃ (a : Addr) (kvs : List (List Key × V)),
  vs = [V.ref a] ∧ H a = some (.dT kvs) ∧ kvs.length < 64 ∧ (∀ e ∈ kvs, ∃ k : List Int, e.1 = k.map Sum.inl ∧ k.length = n ∧ TS.Bd B k) ∧
  ∀ (bs : List Addr) (ys : List V) (p : Addr), IsKeys H kvs bs → ys.Perm (bs.map V.ref) →
    ys.Pairwise (fun x y => ∀ i j, TupI K H x i → TupI K H y j → TS.code B i ≤ TS.code B j) → H p = none → Q (.ref p) (upd H p (.lst ys))
theorem map_kV (k : List Int) : (k.map Sum.inl : List Key).map kV = k.map V.int := by
  rw [List.map_map]; rfl
theorem isKeys_mem {H : Hp} : ∀ {kvs : List (List Key × V)} {bs : List Addr}, IsKeys H kvs bs → ∀ b ∈ bs, ∃ e ∈ kvs, H b = some (.tup (e.1.map kV))
  | _, _, .nil, b, hb => by cases hb
  | _, _, .cons r t, b, hb => by
    rcases List.mem_cons.mp hb with rfl | hb
    · exact ⟨_, List.mem_cons_self, r⟩
    · obtain ⟨e, h1, h2⟩ := isKeys_mem t b hb
      exact ⟨e, List.mem_cons_of_mem _ h1, h2⟩
theorem cr_sortD {X : Cx} {n : Nat} {B : Int} (hc : X.calm = true) (hn1 : 1 ≤ n) : CallR X (.builtin "sorted") (rSortD X.K n B) := by
  intro pins s σ H vs us Q I r h
  obtain ⟨d, kvs, rfl, hd, h64, hks, q⟩ := h
  obtain ⟨u, rfl, rx⟩ := r.one
  cases rx
  obtain ⟨z, hlow, xs, pr, o, es, ep, ho, hx, hdt, he, hn⟩ := (show ObjOk X.prog X.w H s.heap d (.dT kvs) from I.hok d _ hd)
  have len1 : es.size = xs.length := size_of_entries he
  have len2 : kvs.length = xs.length := Paired.length pr
  refine Calls.call_function_entry kind_sorted plain_sorted entry_sorted
    (args_sorted1 _) ?_
  unfold Builtin.«sorted»
  refine wpAny_bind (m := checkCount "sorted" 1 1 _)
    (wpAny_pure ?_)
  refine wpAny_bind (PySem.W.kdu_collect (A := X.A.in1) (kdl_raw hlow hx hdt) (I.ok.hd hc) ho (by rw [sizeLine_eq]; omega)
    fun h1 tk acc kp it => ?_)
  have eacc : acc.toList = (xs.map fun x => x.2.1).map Value.ref := by
    have hl : acc.toList.length = xs.length := by
      rw [Array.length_toList, it.1]; exact len1
    apply List.ext_getElem?
    intro j
    rw [List.map_map, List.getElem?_map]
    cases hj : acc.toList[j]? with
    | none =>
      have z1 := List.getElem?_eq_none_iff.mp hj
      have z2 : xs[j]? = none := List.getElem?_eq_none (by omega)
      rw [z2]; rfl
    | some v =>
      obtain ⟨en, hen, hv⟩ := it.2 j v (by
        rw [← Array.getElem?_toList]; exact hj)
      have qe := entry_at he j
      rw [hen] at qe
      cases hb : xs[j]? with
      | none => rw [hb] at qe; cases qe
      | some b =>
        rw [hb] at qe
        have e2 : en = entryOfKey (tupleKind (mixKind X.prog X.w)) b := Option.some.inj qe
        rw [hv, e2]; rfl
  generalize hbs : (xs.map fun x => x.2.1) = bs at eacc
  have hK : IsKeys H kvs bs := by rw [← hbs]; exact isKeys_of pr
  have lbs : bs.length = kvs.length := by
    rw [← hbs, List.length_map]; exact len2.symm
  have I1 : Inv X pins σ H { s with heap := h1, toks := tk } := I.kept kp
  have hal : acc.toList.length < 64 := by
    rw [eacc, List.length_map, lbs]; exact h64
  refine wpAny_bind (wpAny_newList ?_ (by rw [sizeLine_eq]; omega))
  generalize acc.toList = av at eacc hal ⊢
  have goL : (h1.push (seqObj "list" av.toArray 0)).get? h1.objs.size = some (seqObj "list" av.toArray 0) :=
    Heap.get?_push_size _ rfl
  have old : ∀ b x, h1.get? b = some x → (h1.push (seqObj "list" av.toArray 0)).get? b = some x := fun b x e => Heap.get?_push_of_some _ e
  have raw : ∀ b ∈ bs, ∃ k : List Int, TS.TupInts h1 (.ref b) k ∧ k.length = n ∧ TS.Bd B k ∧ H b = some (.tup (k.map V.int)) := by
    intro b hb
    obtain ⟨e, he1, he2⟩ := isKeys_mem hK b hb
    obtain ⟨k, ek, lk, bk⟩ := hks e he1
    rw [ek, map_kV] at he2
    exact ⟨k, tupI_raw I1 (SqT.of he2), lk, bk, he2⟩
  have tok : TS.TupsOk (h1.push (seqObj "list" av.toArray 0)) n B av := by
    intro v hv
    rw [eacc] at hv
    obtain ⟨b, hb, rfl⟩ := List.mem_map.mp hv
    obtain ⟨k, t1, t2, t3, _⟩ := raw b hb
    exact ⟨k, t1.keeps fun b o e _ => old b o e, t2, t3⟩
  show wpAny _ _ _ _ _ { s with heap := h1.push (seqObj "list" av.toArray 0), toks := tk }
  refine wpAny_bind (wpAny_holding (wpAny_call_entry slot_list_sort ⟨_, goL, rfl⟩ entry_list_sort
    (TS.sort_tups (s := { s with heap := h1.push (seqObj "list" av.toArray 0), toks := tk }) goL hal hn1 tok (fun v => TS.code B (TS.intsOf h1 v))
      (fun v hv k tv => ?_) fun out p1 p2 => ⟨_, rfl, ?_⟩) (args_list_sort _)))
  · rw [eacc] at hv
    obtain ⟨b, hb, rfl⟩ := List.mem_map.mp hv
    obtain ⟨k0, t1, _, _, _⟩ := raw b hb
    have e : k = k0 := tv.ints.symm.trans (t1.keeps fun b o e _ => old b o e).ints
    rw [e]
    show TS.code B (TS.intsOf h1 (.ref b)) = _
    rw [t1.ints]
  · obtain ⟨e2, he2⟩ := sortedHeap_at (vs := av) (out := out) goL
    have p3 : out.toList.Perm (bs.map Value.ref) := by rw [← eacc]; exact p1
    have refs3 : ∀ v ∈ out.toList, ∃ a, v = Value.ref a := fun v hv => by
      obtain ⟨b, _, e⟩ := List.mem_map.mp (p3.mem_iff.mp hv)
      exact ⟨b, e.symm⟩
    have p4 : (out.toList.map bkV).Perm (bs.map V.ref) := by
      have := p3.map bkV
      rw [List.map_map] at this
      exact this
    have hsz : (out.toList.map bkV).length ≤ sizeLine := by
      rw [p4.length_eq, List.length_map, sizeLine_eq]; omega
    refine wpAny_pure ⟨_, rfl, .ref h1.objs.size, upd H h1.objs.size (.lst (out.toList.map bkV)), I1.laid (t' := tk) (fun b x e => ?_) (Nat.le_refl _)
      (show ObjOk X.prog X.w _ _ _ (.lst (out.toList.map bkV)) from ⟨hsz, out.toList, e2, bkV_vals refs3, by rw [Array.toArray_toList]; exact he2⟩), rfl,
      q bs _ _ hK p4 ?_ (I1.hok.fresh (Nat.le_refl _))⟩
    · have hb : b < h1.objs.size := Heap.lt_size e
      rw [sortedHeap_old (Nat.ne_of_lt hb) (by rw [size_push']; exact Nat.lt_succ_of_lt hb)]
      exact old b x e
    · rw [List.pairwise_map]
      refine List.Pairwise.imp_of_mem (fun {x y} hx' hy' hxy i j hi hj => ?_) p2
      obtain ⟨bx, ex⟩ := refs3 x hx'
      obtain ⟨by', ey⟩ := refs3 y hy'
      subst ex; subst ey
      obtain ⟨t, et, ht⟩ := hi
      obtain ⟨t', et', ht'⟩ := hj
      cases et; cases et'
      have a1 := (tupI_raw I1 ht).ints
      have a2 := (tupI_raw I1 ht').ints
      rw [show TS.intsOf h1 (.ref bx) = i from a1, show TS.intsOf h1 (.ref by') = j from a2] at hxy
      exact hxy
end Sco
namespace Sco
open PySem PySem.Spec PyProof.Rows L2 Sx62
theorem RdAt.ins {C : Addr} {H : Hp} {r l : Addr} {e : Nat} {rest : List Word} (h : RdAt C H r l e rest) : ∃ dx fs, H r = some (.ins C dx fs) ∧ fs.lookup ("look" : Str) = none ∧ fs.lookup ("where" : Str) = none ∧ fs.lookup ("take" : Str) = none := by
  obtain ⟨dx, ws, i, h1, _⟩ := h
  exact ⟨dx, _, h1, rF_none (by decide +kernel) (by decide +kernel), rF_none (by decide +kernel) (by decide +kernel), rF_none (by decide +kernel) (by decide +kernel)⟩
/-- what a def that reads promises -/
def Reads {α : Type} (cR cF : Addr) (M : List Addr) (H : Hp) (r l : Addr) (e : Nat) (res : R (α × List Word)) (out : Hp → V → α → Prop) (Q : VK) (E : XK) : Prop :=
  (∀ f, res = .error f → Falls cF M H f E) ∧ ∀ x rest, res = .ok (x, rest) → ∀ H' v, But M H H' → RdAt cR H' r l e rest → out H' v x → Q v H'
theorem lk_ne {rest : List Word} (h : WsOk rest) (hn : lkW rest ≠ []) : ∃ w l, rest = w :: l ∧ lkW rest = w.text := by
  cases rest with
  | nil => exact absurd rfl hn
  | cons w l => exact ⟨w, l, rfl, rfl⟩
theorem st_key : Str.ofString "key" = S KEY := by decide +kernel
theorem st_empty : Str.ofString "" = S [] := by decide +kernel
theorem falls_weak {C : Addr} {M : List Addr} {H H1 : Hp} {f : Fault} {E : XK} (h : Falls C M H f E) (s : But M H H1) : Falls C [] H1 f E := h.but s (by simp)
section
variable {P : Program} {w : World} {K : PySem.W.Frag} {mg : Str → Option Value} {base : Heap}
def spReadKey (cR cF : Addr) : Sp := fun vs H Q E => ∃ (r l : Addr) (e : Nat) (rest : List Word), vs = [.ref r] ∧ RdAt cR H r l e rest ∧ Reads cR cF [r] H r l e (readKey e rest) (fun _ v x => v = .str (S x)) Q E
theorem sc_readKey : FnScope ["reader"] ["reader"] (defScope (top 55)) := ⟨rfl, rfl, rfl, by decide +kernel, rfl, by decide +kernel, by decide +kernel⟩
theorem bi_readKey (D : DefAt K mg "read_key" (top 55)) : Binds K D.fd ["reader"] [] := D.F.binds fun _ _ _ _ _ _ us hl => match us, hl with | [_], _ => rfl
theorem ok_readKey (T : Tx w K mg) : FnOk P w K mg base (L2.CX P w) 4 T.f_read_key.f T.f_read_key.fd ["reader"] (spReadKey T.c_Reader T.c_Fault) := by
  have GL : FnOk P w K mg base CX0 1 _ _ _ (spLook T.c_Reader) := ok_look T
  have GT : FnOk P w K mg base (L2.CX P w) 3 _ _ _ (spTake T.c_Reader T.c_Fault) := ok_take T
  have GK : FnOk P w K mg base CX0 2 _ _ _ spKey := ok_key T
  refine T.f_read_key.F.okX sc_readKey (fun vs H Q E h => ?_) (fun cdv A outer s H vs Q E hr h => ?_)
  · obtain ⟨r, l, e, rest, rfl, _⟩ := h
    rfl
  · obtain ⟨r, l, e, rest, rfl, hR, kF, kS⟩ := h
    have hr1 : Room 1 _ := hr.mono (by decide)
    have hr2 : Room 2 _ := hr.mono (by decide)
    refine ⟨_, pss_cons (ps_if (pt_cmpR op_ne (pe_meth0 (pv 0) T.cl_Reader T.m_Reader_look.M GL hr1 (bi_look _) .nil pass0) pe_str (nomark _)) (pss_one (ps_ret pe_str)) pss_nil)
      (pss_cons (ps_expr (pe_meth (pv 0) T.cl_Reader T.m_Reader_take.M GT hr (bi_take _) .nil (passes_call (W := fun cls d _ H => E cls d H) (takes_of rfl rfl rfl rfl) (fun _ _ _ _ h => h)) (pa_cons pe_bl pa_nil)))
      (pss_one (ps_ret (pe_meth (pv 0) T.cl_Reader T.m_Reader_take.M GT hr (bi_take _) .nil (passes_call (W := fun cls d _ H => E cls d H) (takes_of rfl rfl rfl rfl) (fun _ _ _ _ h => h))
        (pa_cons (pe_call GK hr2 rfl T.f_is_key.g T.f_is_key.F.kp (bi_key _) .nil pass0 (pa_cons (pe_meth0 (pv 0) T.cl_Reader T.m_Reader_look.M GL hr1 (bi_look _) .nil pass0) pa_nil)) pa_nil))))), ?_⟩
    obtain ⟨dx, fs, i1, i2, i3, i4⟩ := hR.ins
    refine ⟨_, rfl, r, dx, fs, rfl, i1, i2, r, l, e, rest, rfl, hR, rfl, _, rfl, ?_⟩
    rw [st_key, dec_str]
    by_cases h0 : lkW rest = KEY
    · obtain ⟨k, rs, rfl, hk⟩ := lk_ne hR.ok (by rw [h0]; decide)
      have hk2 : k.text = KEY := hk.symm.trans h0
      refine if_f (by rw [decide_eq_true h0]; rfl) ⟨_, rfl, r, dx, fs, rfl, i1, i4, r, l, e, _, true, rfl, hR, fun z => Bool.noConfusion z, fun _ => ⟨k, rs, rfl, fun H1 hR1 b1 => ?_⟩⟩
      obtain ⟨dx1, fs1, j1, j2, j3, j4⟩ := hR1.ins
      refine ⟨_, rfl, r, dx1, fs1, rfl, j1, j4, _, rfl, r, dx1, fs1, rfl, j1, j2, r, l, e, rs, rfl, hR1, _, rfl, lk_wd hR1.ok, r, l, e, rs, _, rfl, hR1, ?_, ?_⟩
      · intro hz
        refine falls_weak (M := [r]) (kF _ ?_) b1
        cases rs with
        | nil => rw [readKey_end hk2]; rfl
        | cons n rs =>
          rw [readKey_some hk2]
          cases e1 : keyOf n.text with
          | none => rfl
          | some z => rw [show lkW (n :: rs) = n.text from rfl, e1] at hz; cases hz
      · intro hz
        cases rs with
        | nil => exact absurd hz (by decide)
        | cons n rs =>
          refine ⟨n, rs, rfl, fun H2 hR2 b2 => kS n.text rs ?_ H2 _ (b1.trans b2) hR2 rfl⟩
          rw [readKey_some hk2]
          cases e1 : keyOf n.text with
          | none => rw [show lkW (n :: rs) = n.text from rfl, e1] at hz; cases hz
          | some z => rfl
    · refine if_t (by rw [decide_eq_false h0]; rfl) ?_
      refine kS [] rest ?_ H _ But.refl hR (by rw [st_empty])
      cases rest with
      | nil => rfl
      | cons k rs => exact readKey_none h0
end
end Sco
namespace Sco
open PySem PySem.Spec PyProof.Rows L2 Sx62
def nameFrom (e : Nat) (names : List Bytes) : List Word → R (Bytes × List Word)
  | [] => bad e
  | n :: l => if isName n.text = false then bad n.place else if n.text ∈ names ∨ names.length = 4 then .error ⟨4, n.place⟩ else .ok (n.text, l)
theorem nameFrom_cons {e : Nat} {names : List Bytes} {n : Word} {l : List Word} : nameFrom e names (n :: l) = if isName n.text = false then bad n.place else if n.text ∈ names ∨ names.length = 4 then .error ⟨4, n.place⟩ else .ok (n.text, l) := rfl
theorem in_txs {t : Bytes} {names : List Bytes} : inV (.str (S t)) (txs names) = decide (t ∈ names) := by
  unfold inV txs
  rw [Bool.eq_iff_iff, List.any_map, List.any_eq_true]
  simp only [decide_eq_true_eq]
  constructor
  · rintro ⟨x, hx, h⟩
    have : (S x == S t) = true := h
    rw [← S_inj (eq_of_beq this)]; exact hx
  · intro h
    exact ⟨t, h, beq_self_eq_true (S t)⟩
theorem flat_txs (names : List Bytes) : (txs names).all flatV = true := by
  unfold txs
  rw [List.all_map, List.all_eq_true]
  intro x _; rfl
section
variable {P : Program} {w : World} {K : PySem.W.Frag} {mg : Str → Option Value} {base : Heap}
def spReadName (cR cF : Addr) : Sp := fun vs H Q E => ∃ (r l : Addr) (e : Nat) (rest : List Word) (a : Addr) (names : List Bytes), vs = [.ref r, .ref a] ∧ RdAt cR H r l e rest ∧ H a = some (.lst (txs names)) ∧ Reads cR cF [r] H r l e (nameFrom e names rest) (fun _ v x => v = .str (S x)) Q E
theorem sc_readName : FnScope ["reader", "names", "word"] ["reader", "names"] (defScope (top 57)) := ⟨rfl, rfl, rfl, by decide +kernel, rfl, by decide +kernel, by decide +kernel⟩
theorem bi_readName (D : DefAt K mg "read_name" (top 57)) : Binds K D.fd ["reader", "names"] [] := D.F.binds fun _ _ _ _ _ _ us hl => match us, hl with | [_, _], _ => rfl
theorem ok_readName (T : Tx w K mg) : FnOk P w K mg base (L2.CX P w) 4 T.f_read_name.f T.f_read_name.fd ["reader", "names"] (spReadName T.c_Reader T.c_Fault) := by
  have GL : FnOk P w K mg base CX0 1 _ _ _ (spLook T.c_Reader) := ok_look T
  have GW : FnOk P w K mg base CX0 1 _ _ _ (spWhere T.c_Reader) := ok_where T
  have GT : FnOk P w K mg base (L2.CX P w) 3 _ _ _ (spTake T.c_Reader T.c_Fault) := ok_take T
  have GN : FnOk P w K mg base CX0 2 _ _ _ spName := ok_name T
  refine T.f_read_name.F.okX sc_readName (fun vs H Q E h => ?_) (fun cdv A outer s H vs Q E hr h => ?_)
  · obtain ⟨r, l, e, rest, a, names, rfl, _⟩ := h
    rfl
  · obtain ⟨r, l, e, rest, a, names, rfl, hR, hA, kF, kS⟩ := h
    have hr1 : Room 1 _ := hr.mono (by decide)
    have hr2 : Room 2 _ := hr.mono (by decide)
    refine ⟨_, pss_cons (ps_set (i := 2) sc_readName.nd rfl (Or.inl rfl) (pe_meth0 (pv 0) T.cl_Reader T.m_Reader_look.M GL hr1 (bi_look _) .nil pass0))
      (pss_mid (ps_if (PW.pt (pw_and (pt_val (pe_call GN hr2 rfl T.f_is_name.g T.f_is_name.F.kp (bi_name _) .nil pass0 (pa_cons (pv 2) pa_nil)))
          (pw_and1 (PW.pt (pw_or (pt_cmpR op_in_seq (pv 2) (pv 1) rfl) (pw_or1 (pt_cmpR op_eq (pe_callB call_len_seq (by rfl) T.b_len PySem.boot_len (pa_cons (pv 1) pa_nil)) (pe_ki T.k_MOST_VOICES) (nomark _))))))))
        (pss_one (ps_raiseF (W := fun cls d _ H => E cls d H) rfl T.x_Fault hr (takes_of rfl rfl rfl rfl) (by exact (pa_cons (pe_ki T.k_BAD_NAME) (pa_cons (pe_meth0 (pv 0) T.cl_Reader T.m_Reader_where.M GW hr1 (bi_where _) .nil pass0) pa_nil))))) pss_nil)
      (pss_one (ps_ret (pe_meth (pv 0) T.cl_Reader T.m_Reader_take.M GT hr (bi_take _) .nil (passes_call (W := fun cls d _ H => E cls d H) (takes_of rfl rfl rfl rfl) (fun _ _ _ _ h => h))
        (pa_cons (pe_call GN hr2 rfl T.f_is_name.g T.f_is_name.F.kp (bi_name _) .nil pass0 (pa_cons (pv 2) pa_nil)) pa_nil))))), ?_⟩
    obtain ⟨dx, fs, i1, i2, i3, i4⟩ := hR.ins
    refine ⟨_, rfl, r, dx, fs, rfl, i1, i2, r, l, e, rest, rfl, hR, ?_⟩
    refine ⟨fun σ' H' => σ' = [some (.ref r), some (.ref a), some (.str (S (lkW rest)))] ∧ Same H H' ∧ ¬ (isName (lkW rest) = true ∧ (lkW rest ∈ names ∨ names.length = 4)), ?_, ?_⟩
    · refine ⟨_, rfl, _, rfl, lk_wd hR.ok, fun H1 s1 => ⟨_, rfl, ?_⟩⟩
      cases hN : isName (lkW rest) with
      | false => exact if_f rfl (if_f rfl ⟨rfl, s1, fun z => Bool.noConfusion z.1⟩)
      | true =>
        have hA1 := s1 _ _ hA
        have hR1 := hR.same s1
        obtain ⟨dx1, fs1, j1, j2, j3, j4⟩ := hR1.ins
        have bad4 : (lkW rest ∈ names ∨ names.length = 4) → Falls T.c_Fault [] H1 ⟨4, whW e rest⟩ E := fun hb => by
          refine falls_weak (M := [r]) (kF _ ?_) (But.of s1)
          cases rest with
          | nil => exact absurd hN (by decide)
          | cons n rs =>
            have z' : isName n.text = true := hN
            rw [nameFrom_cons, if_neg (by rw [z']; decide), if_pos (show n.text ∈ names ∨ names.length = 4 from hb)]; rfl
        refine if_t rfl ⟨_, rfl, _, rfl, a, _, rfl, .inl (SqL.of hA1), rfl, flat_txs names, _, rfl, ?_⟩
        rw [if_neg (by decide), in_txs]
        by_cases hm : lkW rest ∈ names
        · refine if_t (decide_eq_true hm) (if_t rfl ⟨_, rfl, r, dx1, fs1, rfl, j1, j3, r, l, e, rest, rfl, hR1, _, _, rfl, fun d nd => ?_⟩)
          exact bad4 (.inl hm) _ d (But.of (same_new nd)) upd_same
        · refine if_f (decide_eq_false hm) ⟨_, rfl, a, _, rfl, .inl (SqL.of hA1), rfl, _, rfl, ?_⟩
          have hl : (txs names).length = names.length := List.length_map ..
          rw [hl]
          by_cases h4 : names.length = 4
          · refine if_t (decide_eq_true (by rw [h4]; rfl)) ⟨_, rfl, r, dx1, fs1, rfl, j1, j3, r, l, e, rest, rfl, hR1, _, _, rfl, fun d nd => ?_⟩
            exact bad4 (.inr h4) _ d (But.of (same_new nd)) upd_same
          · refine if_f (decide_eq_false fun z => h4 ?_) ⟨rfl, s1, fun z => z.2.elim hm h4⟩
            exact Int.ofNat.inj (V.int.inj z)
    · rintro σ' H' ⟨rfl, s1, hn⟩
      have hR1 := hR.same s1
      obtain ⟨dx1, fs1, j1, j2, j3, j4⟩ := hR1.ins
      refine ⟨_, rfl, r, dx1, fs1, rfl, j1, j4, _, rfl, _, rfl, lk_wd hR.ok, fun H2 s2 => ?_⟩
      have hR2 := hR1.same s2
      refine ⟨r, l, e, rest, _, rfl, hR2, fun z => ?_, fun z => ?_⟩
      · refine falls_weak (M := [r]) (kF _ ?_) (But.of (s1.trans s2))
        cases rest with
        | nil => rfl
        | cons n rs => rw [nameFrom_cons, if_pos (show isName n.text = false from z)]; rfl
      · cases rest with
        | nil => exact absurd z (by decide)
        | cons n rs =>
          refine ⟨n, rs, rfl, fun H3 hR3 b3 => kS n.text rs ?_ H3 _ ((But.of (s1.trans s2)).trans b3) hR3 rfl⟩
          have z' : isName n.text = true := z
          rw [nameFrom_cons, if_neg (by rw [z']; decide), if_neg (show ¬ (n.text ∈ names ∨ names.length = 4) from fun y => hn ⟨z, y⟩)]
end
end Sco
namespace Sco
open PySem PySem.Spec PyProof.Rows L2 Sx62
/-- the ways of a test, of an expression, joined by a word of one's own -/
def tJoin (t : TT) : TT := fun σ H Q => ∃ M : Bool → Hp → Prop, t σ H M ∧ ∀ b a, M b a → Q b a
theorem pt_join {X : Cx} {e : Expr} {t : TT} (h : PT X e t) : PT X e (tJoin t) := by
  refine ⟨fun pins s σ H Q I hh => ?_⟩
  obtain ⟨M, h1, h2⟩ := hh
  refine thn (h.run pins s σ H M I h1) fun b s1 q => ?_
  obtain ⟨a, J, m⟩ := q
  exact ⟨a, J, h2 b a m⟩
def tWay (t : TE) : TE := fun σ H Q => ∃ M : V → Hp → Prop, t σ H M ∧ ∀ b a, M b a → Q b a
theorem pe_way {X : Cx} {e : Expr} {t : TE} (h : PE X e t) : PE X e (tWay t) := by
  refine ⟨fun pins s σ H Q I hh => ?_⟩
  obtain ⟨M, h1, h2⟩ := hh
  refine thn (h.run pins s σ H M I h1) fun u s1 q => ?_
  obtain ⟨v, a, J, r, m⟩ := q
  exact ⟨v, a, J, r, h2 v a m⟩
/-! ### a dict of pitches -/
def pk (p : Pitch) : List Key := [.inl (p.octave : Int), .inl (p.letter : Int), .inl (p.sign : Int)]
theorem pk_inj {p q : Pitch} (h : pk p = pk q) : p = q := by
  obtain ⟨a, b, c⟩ := p
  obtain ⟨a', b', c'⟩ := q
  unfold pk at h
  simp only [List.cons.injEq, Sum.inl.injEq, and_true] at h
  obtain ⟨h1, h2, h3⟩ := h
  have e1 : c = c' := Int.ofNat.inj h1
  have e2 : a = a' := Int.ofNat.inj h2
  have e3 : b = b' := Int.ofNat.inj h3
  subst e1; subst e2; subst e3; rfl
def dictOf (acc : List Pitch) : List (List Key × V) := acc.map fun p => (pk p, V.str (S (pitchText p)))
theorem val_dict (p : Pitch) : ∀ (acc : List Pitch), valV (dictOf acc) (pk p) = if p ∈ acc then some (V.str (S (pitchText p))) else none
  | [] => rfl
  | q :: acc => by
    have ih := val_dict p acc
    unfold valV dictOf at ih ⊢
    rw [List.map_cons, List.find?_cons]
    by_cases e : q = p
    · subst e
      rw [decide_eq_true rfl, if_pos List.mem_cons_self]; rfl
    · rw [decide_eq_false fun z => e (pk_inj z)]
      show Option.map _ _ = _
      rw [ih]
      by_cases m : p ∈ acc
      · rw [if_pos m, if_pos (List.mem_cons_of_mem _ m)]
      · rw [if_neg m, if_neg fun z => (List.mem_cons.mp z).elim (fun y => e y.symm) m]
theorem put_dict {p : Pitch} {acc : List Pitch} (h : p ∉ acc) : putK (dictOf acc) (pk p) (V.str (S (pitchText p))) = dictOf (acc ++ [p]) := by
  rw [putK_new _ (by rw [val_dict, if_neg h])]
  unfold dictOf
  rw [List.map_append]; rfl
/-- the pitches read so far -/
structure AccOk (acc : List Pitch) : Prop where
  nd : acc.Nodup
  ok : ∀ p ∈ acc, PitchOk p
  few : acc.length ≤ 6
theorem AccOk.snoc {acc : List Pitch} {p : Pitch} (h : AccOk acc) (hp : PitchOk p) (hn : ¬ (p ∈ acc ∨ 6 ≤ acc.length)) : AccOk (acc ++ [p]) := by
  refine ⟨?_, fun q hq => ?_, ?_⟩
  · rw [List.nodup_append]
    refine ⟨h.nd, by simp, fun a ha b hb z => ?_⟩
    rw [List.mem_singleton.mp hb] at z
    rw [z] at ha
    exact hn (.inl ha)
  · rcases List.mem_append.mp hq with q1 | q1
    · exact h.ok q q1
    · rw [List.mem_singleton.mp q1]; exact hp
  · rw [List.length_append]
    have : ¬ 6 ≤ acc.length := fun z => hn (.inr z)
    show acc.length + 1 ≤ 6
    omega
theorem pitches_less : ∀ {l : List Word} {e : Nat} {acc : List Pitch} {x : List Pitch × List Word}, AccOk acc → pitchesFrom e acc l = .ok x → AccOk x.1 ∧ ∃ w r y, x.2 = w :: r ∧ endOf w.text = some y
  | [], e, acc, x, _, h => by cases h
  | w :: l, e, acc, x, ha, h => by
    rw [pitches_cons] at h
    split at h
    · rename_i hc
      injection h with h
      subst h
      obtain ⟨y, hy⟩ := Option.isSome_iff_exists.mp hc.2
      exact ⟨ha, w, l, y, rfl, hy⟩
    · split at h
      · rename_i p hp
        split at h
        · cases h
        · rename_i hc
          exact pitches_less (ha.snoc (cPitch_iff.mp hp).2 hc) h
      · cases h
section
variable {P : Program} {w : World} {K : PySem.W.Frag} {mg : Str → Option Value} {base : Heap}
def spPitches (cR cF : Addr) : Sp := fun vs H Q E => ∃ (r l : Addr) (e : Nat) (rest : List Word), vs = [.ref r] ∧ RdAt cR H r l e rest ∧ Reads cR cF [r] H r l e (pitchesFrom e [] rest) (fun H' v acc => ∃ a, v = .ref a ∧ H a = none ∧ H' a = some (.dT (dictOf acc))) Q E
theorem sc_pitches : FnScope ["reader", "written", "pitch", "fits"] ["reader"] (defScope (top 62)) := ⟨rfl, rfl, rfl, by decide +kernel, rfl, by decide +kernel, by decide +kernel⟩
theorem bi_pitches (D : DefAt K mg "read_pitches" (top 62)) : Binds K D.fd ["reader"] [] := D.F.binds fun _ _ _ _ _ _ us hl => match us, hl with | [_], _ => rfl
theorem ok_pitches (T : Tx w K mg) : FnOk P w K mg base (L2.CX P w) 4 T.f_read_pitches.f T.f_read_pitches.fd ["reader"] (spPitches T.c_Reader T.c_Fault) := by
  have GL : FnOk P w K mg base CX0 1 _ _ _ (spLook T.c_Reader) := ok_look T
  have GT : FnOk P w K mg base (L2.CX P w) 3 _ _ _ (spTake T.c_Reader T.c_Fault) := ok_take T
  have GE : FnOk P w K mg base CX0 3 _ _ _ spEnd := ok_end T
  have GP : FnOk P w K mg base CX0 1 _ _ _ spPitch := ok_pitch T
  refine T.f_read_pitches.F.okX sc_pitches (fun vs H Q E h => ?_) (fun cdv A outer s H vs Q E hr h => ?_)
  · obtain ⟨r, l, e, rest, rfl, _⟩ := h
    rfl
  · obtain ⟨r, l, e, rest, rfl, hR, kF, kS⟩ := h
    have hr1 : Room 1 _ := hr.mono (by decide)
    have hu := hu_of hr
    refine ⟨_, pss_cons (ps_set (i := 1) sc_pitches.nd rfl (Or.inl rfl) pe_dnewT)
      (pss_cons (ps_while (passes_of rfl) (pt_join (PW.pt (pw_or (pt_cmpR op_lt (pe_callB call_len_dT (by rfl) T.b_len PySem.boot_len (pa_cons (pv 1) pa_nil)) (pe_ki T.k_LEAST_PITCHES) (nomark _))
          (pw_or1 (pt_cmpR op_isN (pe_call GE hr rfl T.f_chord_end_of.g T.f_chord_end_of.F.kp (bi_end _) .nil pass0 (pa_cons (pe_meth0 (pv 0) T.cl_Reader T.m_Reader_look.M GL hr1 (bi_look _) .nil pass0) pa_nil)) pe_non (nomark _))))))
        (pss_cons (ps_set (i := 2) sc_pitches.nd rfl (Or.inl rfl) (pe_call GP hr1 rfl T.f_pitch_of.g T.f_pitch_of.F.kp (bi_pitch _) .nil pass0 (pa_cons (pe_meth0 (pv 0) T.cl_Reader T.m_Reader_look.M GL hr1 (bi_look _) .nil pass0) pa_nil)))
        (pss_cons (ps_set (i := 3) sc_pitches.nd rfl (Or.inl rfl) (pe_way (pe_and (pe_cmpR op_notN (pv 2) pe_non (nomark _)) (pe_and (pe_cmp (pc_dnotin hu (pv 2) (pv 1))) (pe_one (pe_cmpR op_lt (pe_callB call_len_dT (by rfl) T.b_len PySem.boot_len (pa_cons (pv 1) pa_nil)) (pe_ki T.k_MOST_PITCHES) (nomark _)))))))
        (pss_one (ps_dput hu (pv 1) (pv 2) (pe_meth (pv 0) T.cl_Reader T.m_Reader_take.M GT hr (bi_take _) .nil (passes_call (W := fun cls d _ H => E cls d H) (takes_of rfl rfl rfl rfl) (fun _ _ _ _ h => h)) (pa_cons (pv 3) pa_nil)) rfl)))))
      (pss_one (ps_ret (pv 1)))), ?_⟩
    intro d nd
    have hdr : d ≠ r := fun z => by
      obtain ⟨dx, fs, i1, _⟩ := hR.ins
      rw [z, i1] at nd; cases nd
    refine ⟨fun m σ' H' => ∃ (acc : List Pitch) (rs : List Word) (x y : Option V), σ' = [some (.ref r), some (.ref d), x, y] ∧ But [r] H H' ∧ RdAt T.c_Reader H' r l e rs ∧ H' d = some (.dT (dictOf acc)) ∧ AccOk acc ∧ pitchesFrom e acc rs = pitchesFrom e [] rest ∧ m = rs.length,
      ⟨_, [], rest, none, none, rfl, But.of (same_new nd), hR.same (same_new nd), upd_same, ⟨List.nodup_nil, fun p hp => (by cases hp), by decide⟩, rfl, rfl⟩, ?_⟩
    rintro m σ' H1 ⟨acc, rs, x, y, rfl, b1, R1, d1, ao, eq, rfl⟩
    obtain ⟨dx, fs, i1, i2, i3, i4⟩ := R1.ins
    have hlen : (dictOf acc).length = acc.length := List.length_map ..
    refine ⟨fun b H2 => Same H1 H2 ∧ b = !(decide (2 ≤ acc.length) && (endOf (lkW rs)).isSome), ?_, ?_⟩
    · refine ⟨_, rfl, d, _, rfl, d1, _, _, rfl, rfl, _, rfl, ?_⟩
      rw [hlen]
      by_cases h2 : acc.length < 2
      · refine if_t (decide_eq_true (by omega)) ⟨Same.refl _, ?_⟩
        rw [decide_eq_false (by omega)]; rfl
      · refine if_f (decide_eq_false (by omega)) ⟨_, rfl, r, dx, fs, rfl, i1, i2, r, l, e, rs, rfl, R1, _, rfl, lk_wd R1.ok, fun en H2 s2 => ?_, fun z en H2 p s2 _ => ?_⟩
        · refine ⟨rfl, _, rfl, s2, ?_⟩
          rw [en]; simp
        · refine ⟨rfl, _, rfl, s2, ?_⟩
          rw [en, decide_eq_true (show 2 ≤ acc.length by omega)]; rfl
    · rintro b H2 ⟨s2, rfl⟩
      have R2 := R1.same s2
      have d2 := s2 _ _ d1
      have b2 := b1.trans (But.of s2)
      obtain ⟨dx2, fs2, j1, j2, j3, j4⟩ := R2.ins
      cases hc : (decide (2 ≤ acc.length) && (endOf (lkW rs)).isSome) with
      | true =>
        rw [Bool.and_eq_true] at hc
        refine if_f rfl ⟨_, rfl, ?_⟩
        cases rs with
        | nil => exact absurd hc.2 (by decide)
        | cons w0 rs =>
          refine kS acc (w0 :: rs) ?_ H2 _ b2 R2 ⟨d, rfl, nd, d2⟩
          rw [← eq, pitches_cons, if_pos ⟨of_decide_eq_true hc.1, hc.2⟩]
      | false =>
        refine if_t rfl ⟨_, fun _ _ h => h, ?_⟩
        refine ⟨_, rfl, r, dx2, fs2, rfl, j1, j2, r, l, e, rs, rfl, R2, _, rfl, lk_wd R2.ok, ?_, ?_⟩
        · intro en H3 s3
          refine ⟨fun v H4 => H4 = H3 ∧ v = .bl false, ⟨_, rfl, rfl, _, rfl, if_f rfl ⟨rfl, rfl⟩⟩, ?_⟩
          rintro v H4 ⟨rfl, rfl⟩
          have R4 := R2.same s3
          obtain ⟨dx4, fs4, k1, k2, k3, k4⟩ := R4.ins
          refine ⟨_, rfl, r, dx4, fs4, rfl, k1, k4, _, rfl, r, l, e, rs, false, rfl, R4, fun _ => ?_, fun z => Bool.noConfusion z⟩
          refine falls_weak (M := [r]) (kF _ ?_) (b2.trans (But.of s3))
          rw [← eq]
          cases rs with
          | nil => rfl
          | cons w0 rs =>
            rw [pitches_cons, if_neg fun z => ?_, show cPitch w0.text = none from en]
            · rfl
            · have : (decide (2 ≤ acc.length) && (endOf w0.text).isSome) = true := by rw [decide_eq_true z.1, z.2]; rfl
              rw [show lkW (w0 :: rs) = w0.text from rfl, this] at hc; cases hc
        · intro p ep H3 bp s3 hb
          have d3 := s3 _ _ d2
          have R3 := R2.same s3
          have gt : DGet H3 d (.ref bp) (valV (dictOf acc) (pk p)) := DGet.t d3 (show H3 bp = some (.tup ((pk p).map kV)) from hb)
          refine ⟨fun v H4 => H4 = H3 ∧ v = .bl (!decide (p ∈ acc) && decide (acc.length < 6)), ?_, ?_⟩
          · refine ⟨_, rfl, rfl, _, rfl, if_t rfl ⟨_, rfl, _, rfl, d, _, rfl, gt, _, rfl, ?_⟩⟩
            rw [val_dict]
            by_cases hm : p ∈ acc
            · rw [if_pos hm]
              refine if_f rfl ⟨rfl, ?_⟩
              rw [decide_eq_true hm]; rfl
            · rw [if_neg hm]
              refine if_t rfl ⟨_, rfl, d, _, rfl, d3, _, _, rfl, rfl, rfl, ?_⟩
              rw [decide_eq_false hm, hlen]
              have : decide ((acc.length : Int) < 6) = decide (acc.length < 6) := by
                by_cases z : acc.length < 6
                · rw [decide_eq_true z, decide_eq_true (by omega)]
                · rw [decide_eq_false z, decide_eq_false (by omega)]
              show V.bl (decide ((acc.length : Int) < 6)) = _
              rw [this]; rfl
          · rintro v H4 ⟨rfl, rfl⟩
            obtain ⟨dx4, fs4, k1, k2, k3, k4⟩ := R3.ins
            cases rs with
            | nil => rw [show lkW [] = [] from rfl] at ep; cases ep
            | cons w0 rs =>
              have hnot : ¬ (2 ≤ acc.length ∧ (endOf w0.text).isSome = true) := fun z => by
                have : (decide (2 ≤ acc.length) && (endOf w0.text).isSome) = true := by rw [decide_eq_true z.1, z.2]; rfl
                rw [show lkW (w0 :: rs) = w0.text from rfl, this] at hc; cases hc
              have ep' : cPitch w0.text = some p := ep
              refine ⟨_, rfl, r, dx4, fs4, rfl, k1, k4, _, rfl, r, l, e, _, _, rfl, R3, fun z => ?_, fun z => ⟨w0, rs, rfl, fun H5 R5 b5 => ?_⟩⟩
              · refine falls_weak (M := [r]) (kF _ ?_) (b2.trans (But.of s3))
                rw [← eq, pitches_cons, if_neg hnot, ep']
                dsimp only
                rw [if_pos]
                · rfl
                · by_cases hm : p ∈ acc
                  · exact .inl hm
                  · rw [decide_eq_false hm] at z
                    exact .inr (Nat.not_lt.mp (of_decide_eq_false z))
              · rw [Bool.and_eq_true] at z
                have hm : p ∉ acc := fun y => by rw [decide_eq_true y] at z; exact Bool.noConfusion z.1
                have h6 : acc.length < 6 := of_decide_eq_true z.2
                have hn : ¬ (p ∈ acc ∨ 6 ≤ acc.length) := fun y => y.elim hm (by omega)
                have d5 : H5 d = some (.dT (dictOf acc)) := b5 _ _ d3 (by simpa using hdr)
                have hb5 : H5 bp = some (.tup ((pk p).map kV)) := b5 _ _ hb (by
                  simp only [List.mem_singleton]
                  exact ne_of hb k1 (by intro z; cases z))
                obtain ⟨et, okp⟩ := cPitch_iff.mp ep'
                refine ⟨_, rfl, _, rfl, d, _, rfl, DPut.t d5 hb5 (by rw [hlen, sizeLine_eq]; omega), rs.length, Nat.lt_succ_self _, acc ++ [p], rs, _, _, rfl, ?_, ?_, ?_, ao.snoc okp hn, ?_, rfl⟩
                · intro c o hco hcr
                  rw [upd_ne (ne_of_none hco nd)]
                  exact b5 _ _ (s3 _ _ (b2 _ _ hco hcr)) hcr
                · refine R5.keep (M := [d]) (But.upd (by simp)) (by simpa using Ne.symm hdr) ?_ ?_
                  · obtain ⟨_, _, _, _, ⟨_, hl0, _⟩, _⟩ := hR
                    simpa using ne_of_none hl0 nd
                  · intro c hc xs hx
                    rw [List.mem_singleton.mp hc, d5] at hx; cases hx
                · rw [upd_same, et, put_dict hm]
                · rw [← eq, pitches_cons, if_neg hnot, ep']
                  dsimp only
                  rw [if_neg hn]
end
end Sco
namespace Sco
open PySem PySem.Spec PyProof.Rows L2 Sx62
/-! ### pitches in order -/
theorem AllAt.perm {α : Type} {R : Addr → α → Prop} {as bs : List Addr} (p : as.Perm bs) : ∀ {xs : List α}, AllAt R bs xs → ∃ ys, ys.Perm xs ∧ AllAt R as ys := by
  induction p with
  | nil => intro xs h; cases h; exact ⟨[], .nil, .nil⟩
  | cons a p ih =>
    intro xs h
    cases h with
    | cons r t =>
      obtain ⟨ys, q1, q2⟩ := ih t
      exact ⟨_ :: ys, q1.cons _, .cons r q2⟩
  | swap a b l =>
    intro xs h
    cases h with
    | cons r t =>
      cases t with
      | cons r2 t => exact ⟨_, .swap _ _ _, .cons r2 (.cons r t)⟩
  | trans p1 p2 ih1 ih2 =>
    intro xs h
    obtain ⟨ys, q1, q2⟩ := ih2 h
    obtain ⟨zs, q3, q4⟩ := ih1 q2
    exact ⟨zs, q3.trans q1, q4⟩
theorem sorted_unique : ∀ {a b : List Pitch}, a.Pairwise (fun x y => pKey x < pKey y) → b.Pairwise (fun x y => pKey x < pKey y) → (∀ x, x ∈ a ↔ x ∈ b) → a = b
  | [], [], _, _, _ => rfl
  | [], y :: b, _, _, h => by
    have := (h y).mpr List.mem_cons_self
    cases this
  | x :: a, [], _, _, h => by
    have := (h x).mp List.mem_cons_self
    cases this
  | x :: a, y :: b, h1, h2, h => by
    rw [List.pairwise_cons] at h1 h2
    have e : x = y := by
      rcases List.mem_cons.mp ((h x).mp List.mem_cons_self) with e | m
      · exact e
      · rcases List.mem_cons.mp ((h y).mpr List.mem_cons_self) with e | m2
        · exact e.symm
        · have := h2.1 x m
          have := h1.1 y m2
          omega
    subst e
    congr 1
    refine sorted_unique h1.2 h2.2 fun z => ⟨fun m => ?_, fun m => ?_⟩
    · rcases List.mem_cons.mp ((h z).mp (List.mem_cons_of_mem _ m)) with e | m2
      · subst e; exact absurd (h1.1 z m) (Nat.lt_irrefl _)
      · exact m2
    · rcases List.mem_cons.mp ((h z).mpr (List.mem_cons_of_mem _ m)) with e | m2
      · subst e; exact absurd (h2.1 z m) (Nat.lt_irrefl _)
      · exact m2
def unref : V → Addr
  | .ref a => a
  | _ => 0
theorem perm_refs {ys : List V} {bs : List Addr} (p : ys.Perm (bs.map V.ref)) : ∃ as : List Addr, ys = as.map V.ref ∧ as.Perm bs := by
  refine ⟨ys.map unref, ?_, ?_⟩
  · rw [List.map_map]
    conv => lhs; rw [← List.map_id ys]
    refine List.map_congr_left fun y hy => ?_
    obtain ⟨b, _, rfl⟩ := List.mem_map.mp (p.mem_iff.mp hy)
    rfl
  · have := p.map unref
    rw [List.map_map] at this
    have e : (unref ∘ V.ref) = id := rfl
    rw [e, List.map_id] at this
    exact this
theorem keys_at {H : Hp} : ∀ {acc : List Pitch} {bs : List Addr}, IsKeys H (dictOf acc) bs → AllAt (PitchAt H) bs acc
  | [], bs, h => by cases h; exact .nil
  | p :: acc, bs, h => by
    cases h with
    | cons r t => exact .cons r (keys_at t)
def pints (p : Pitch) : List Int := [(p.octave : Int), (p.letter : Int), (p.sign : Int)]
theorem code_key (p : Pitch) : TS.code 10 (pints p) = (pKey p : Nat) := by
  unfold pints TS.code TS.code TS.code TS.code pKey
  show (p.octave : Int) * 10 ^ 2 + ((p.letter : Int) * 10 ^ 1 + ((p.sign : Int) * 10 ^ 0 + 0)) = _
  omega
theorem sorted_at {K : PySem.W.Frag} {H : Hp} {acc : List Pitch} {bs : List Addr} {ys : List V} (ao : AccOk acc) (hk : IsKeys H (dictOf acc) bs) (p : ys.Perm (bs.map V.ref))
    (hs : ys.Pairwise (fun x y => ∀ i j, TupI K H x i → TupI K H y j → TS.code 10 i ≤ TS.code 10 j)) : ∃ as, ys = as.map V.ref ∧ AllAt (PitchAt H) as (sortP acc) := by
  obtain ⟨as, rfl, p2⟩ := perm_refs p
  obtain ⟨zs, q1, q2⟩ := (keys_at hk).perm p2
  refine ⟨as, rfl, ?_⟩
  have hz : zs.Pairwise (fun x y => pKey x < pKey y) := by
    have hle : ∀ {as : List Addr} {zs : List Pitch}, AllAt (PitchAt H) as zs → (as.map V.ref).Pairwise (fun x y => ∀ i j, TupI K H x i → TupI K H y j → TS.code 10 i ≤ TS.code 10 j) → zs.Pairwise (fun x y => pKey x ≤ pKey y) := by
      intro as zs h
      induction h with
      | nil => intro _; exact .nil
      | cons r t ih =>
        intro hp
        rw [List.map_cons, List.pairwise_cons] at hp
        rw [List.pairwise_cons]
        refine ⟨fun z hz => ?_, ih hp.2⟩
        obtain ⟨i, hi⟩ := List.getElem?_of_mem hz
        obtain ⟨a, ha, ra⟩ := t.get hi
        have := hp.1 (.ref a) (List.mem_map.mpr ⟨a, List.mem_of_getElem? ha, rfl⟩) (pints _) (pints z) ⟨_, rfl, SqT.of r⟩ ⟨_, rfl, SqT.of ra⟩
        rw [code_key, code_key] at this
        omega
    have h1 := hle q2 hs
    have hnd : zs.Nodup := q1.nodup_iff.mpr ao.nd
    have hok : ∀ x ∈ zs, PitchOk x := fun x hx => ao.ok x (q1.mem_iff.mp hx)
    have key : ∀ {zs : List Pitch}, zs.Pairwise (fun x y => pKey x ≤ pKey y) → zs.Nodup → (∀ x ∈ zs, PitchOk x) → zs.Pairwise (fun x y => pKey x < pKey y) := by
      intro zs
      induction zs with
      | nil => intro _ _ _; exact .nil
      | cons x zs ih =>
        intro a b c
        rw [List.pairwise_cons] at a ⊢
        rw [List.nodup_cons] at b
        refine ⟨fun y hy => ?_, ih a.2 b.2 fun z hz => c z (List.mem_cons_of_mem _ hz)⟩
        have h2 := a.1 y hy
        have h3 : pKey x ≠ pKey y := fun z => b.1 (by rw [pKey_inj (c x List.mem_cons_self) (c y (List.mem_cons_of_mem _ hy)) z]; exact hy)
        omega
    exact key h1 hnd hok
  have : zs = sortP acc := sorted_unique hz (sortP_sorted acc ao.ok ao.nd) fun x => by rw [q1.mem_iff, sortP_mem]
  rw [← this]
  exact q2
theorem endOf_text {t : Bytes} {y : Nat × Nat × Bool} (h : endOf t = some y) : t = 93 :: longText y.1 y.2.1 y.2.2 ∧ y.1 ∈ KINDS ∧ y.2.1 < 3 := by
  unfold endOf at h
  split at h
  · rename_i h0
    obtain ⟨e1, e2, e3⟩ := longOf_iff (k := y.1) (d := y.2.1) (b := y.2.2).mp h
    exact ⟨by rw [← e1]; exact head_cons h0, e2, e3⟩
  · cases h
/-! ### a bar that is being read -/
def BCur (C : Addr) (H : Hp) (b lw : Addr) (sh : Bool) (ws : List Bytes) (len : Nat) : Prop := (∃ dx, H b = some (.ins C dx (bF (.bl sh) (.ref lw) (.int len) (.int 0)))) ∧ H lw = some (.lst (txs ws))
theorem BCur.keep {C : Addr} {M : List Addr} {H H' : Hp} {b lw : Addr} {sh : Bool} {ws : List Bytes} {len : Nat} (h : BCur C H b lw sh ws len) (s : But M H H') (h1 : b ∉ M) (h2 : lw ∉ M) : BCur C H' b lw sh ws len := by
  obtain ⟨⟨dx, e1⟩, e2⟩ := h
  exact ⟨⟨dx, s _ _ e1 h1⟩, s _ _ e2 h2⟩
theorem txs_snoc (ws : List Bytes) (t : Bytes) : txs ws ++ [V.str (S t)] = txs (ws ++ [t]) := by
  unfold txs; rw [List.map_append]; rfl
theorem txs_app (ws vs : List Bytes) : txs ws ++ txs vs = txs (ws ++ vs) := by
  unfold txs; rw [List.map_append]
theorem txs_len (ws : List Bytes) : (txs ws).length = ws.length := List.length_map ..
/-- the reader, the bar and the lists are all apart -/
theorem rd_ne {cR cB : Addr} {H : Hp} {r l b lw : Addr} {e : Nat} {rest : List Word} {sh : Bool} {ws : List Bytes} {len : Nat} (hR : RdAt cR H r l e rest) (hB : BCur cB H b lw sh ws len) : b ≠ r ∧ lw ≠ r ∧ lw ≠ b ∧ l ≠ b ∧ l ≠ r := by
  obtain ⟨dx, wss, i, h1, ⟨as, h2, _⟩, _⟩ := hR
  obtain ⟨⟨dx2, e1⟩, e2⟩ := hB
  refine ⟨ne_of e1 h1 ?_, ne_of e2 h1 ?_, ne_of e2 e1 ?_, ne_of h2 e1 ?_, ne_of h2 h1 ?_⟩
  · intro z
    injection z with z1 z2 z3
    have := congrArg List.length z3
    exact absurd (show 4 = 2 from this) (by decide)
  all_goals (intro z; cases z)
end Sco
namespace Sco
open PySem PySem.Spec PyProof.Rows L2 Sx62
section
variable {P : Program} {w : World} {K : PySem.W.Frag} {mg : Str → Option Value} {base : Heap}
theorem size_lt {n : Nat} (h : n ≤ 4000) : n < sizeLine := by
  rw [sizeLine_eq]; omega
/-! ### begin_tuplet -/
def spBegin (cR cF cB : Addr) : Sp := fun vs H Q E => ∃ (r l b lw tl tp : Addr) (e : Nat) (w0 : Word) (rs : List Word) (sh : Bool) (ws : List Bytes) (len : Nat) (as : List Addr),
  vs = [.ref r, .ref b, .ref tl, .ref tp] ∧ RdAt cR H r l e (w0 :: rs) ∧ BCur cB H b lw sh ws len ∧ H tl = some (.lst (as.map V.ref)) ∧ tl ≠ lw ∧ ws.length ≤ 3000 ∧ l ≠ lw ∧ l ≠ tl ∧ as.length ≤ 3 ∧
  (as.length = 3 → Falls cF [] H ⟨3, w0.place⟩ E) ∧
  (as.length ≠ 3 → ∀ H', But [r, lw, tl] H H' → RdAt cR H' r l e rs → BCur cB H' b lw sh (ws ++ [w0.text]) len → H' tl = some (.lst ((as ++ [tp]).map V.ref)) → Q .non H')
theorem sc_begin : FnScope ["reader", "bar", "tuplets", "tuplet"] ["reader", "bar", "tuplets", "tuplet"] (defScope (top 59)) := ⟨rfl, rfl, rfl, by decide +kernel, rfl, by decide +kernel, by decide +kernel⟩
theorem bi_begin (D : DefAt K mg "begin_tuplet" (top 59)) : Binds K D.fd ["reader", "bar", "tuplets", "tuplet"] [] := D.F.binds fun _ _ _ _ _ _ us hl => match us, hl with | [_, _, _, _], _ => rfl
theorem ok_begin (T : Tx w K mg) : FnOk P w K mg base (L2.CX P w) 4 T.f_begin_tuplet.f T.f_begin_tuplet.fd ["reader", "bar", "tuplets", "tuplet"] (spBegin T.c_Reader T.c_Fault T.c_Bar) := by
  have GW : FnOk P w K mg base CX0 1 _ _ _ (spWhere T.c_Reader) := ok_where T
  have GT : FnOk P w K mg base (L2.CX P w) 3 _ _ _ (spTake T.c_Reader T.c_Fault) := ok_take T
  refine T.f_begin_tuplet.F.okX sc_begin (fun vs H Q E h => ?_) (fun cdv A outer s H vs Q E hr h => ?_)
  · obtain ⟨r, l, b, lw, tl, tp, e, w0, rs, sh, ws, len, as, rfl, _⟩ := h
    rfl
  · obtain ⟨r, l, b, lw, tl, tp, e, w0, rs, sh, ws, len, as, rfl, hR, hB, hT, ntl, hws, nl1, nl2, hal, kF, kS⟩ := h
    have hr1 : Room 1 _ := hr.mono (by decide)
    refine ⟨_, pss_cons (ps_if (pt_cmpR op_eq (pe_callB call_len_seq (by rfl) T.b_len PySem.boot_len (pa_cons (pv 2) pa_nil)) (pe_ki T.k_MOST_DEPTH) (nomark _))
        (pss_one (ps_raiseF (W := fun cls d _ H => E cls d H) rfl T.x_Fault hr (takes_of rfl rfl rfl rfl) (by exact (pa_cons (pe_ki T.k_TOO_DEEP) (pa_cons (pe_meth0 (pv 0) T.cl_Reader T.m_Reader_where.M GW hr1 (bi_where _) .nil pass0) pa_nil))))) pss_nil)
      (pss_cons (ps_expr (pe_bm PySem.F.plainAttrs_list PySem.F.slot_list_append PySem.F.type_list_append mt_append (pe_fld (pv 1) rfl)
        (pa_cons (pe_meth (pv 0) T.cl_Reader T.m_Reader_take.M GT hr (bi_take _) .nil (passes_call (W := fun cls d _ H => E cls d H) (takes_of rfl rfl rfl rfl) (fun _ _ _ _ h => h)) (pa_cons pe_bl pa_nil)) pa_nil)))
      (pss_one (ps_expr (pe_bm PySem.F.plainAttrs_list PySem.F.slot_list_append PySem.F.type_list_append mt_append (pv 2) (pa_cons (pv 3) pa_nil))))), ?_⟩
    obtain ⟨dx, fs, i1, i2, i3, i4⟩ := hR.ins
    obtain ⟨n1, n2, n3, n4, n5⟩ := rd_ne hR hB
    have ntr : tl ≠ r := ne_of hT i1 (by intro z; cases z)
    obtain ⟨⟨dxb, hb1⟩, hb2⟩ := hB
    have ntb : tl ≠ b := ne_of hT hb1 (by intro z; cases z)
    refine ⟨_, rfl, tl, _, rfl, .inl (SqL.of hT), rfl, _, rfl, ?_⟩
    rw [List.length_map]
    by_cases h3 : as.length = 3
    · refine if_t (decide_eq_true (by rw [h3]; rfl)) ⟨_, rfl, r, dx, fs, rfl, i1, i3, r, l, e, _, rfl, hR, _, _, rfl, fun d nd => ?_⟩
      exact kF h3 _ d (But.of (same_new nd)) upd_same
    · refine if_f (decide_eq_false fun z => h3 (Int.ofNat.inj (V.int.inj z))) ?_
      refine ⟨_, rfl, b, _, dxb, _, _, rfl, hb1, T.cl_Bar, T.n_Bar_words, bF_words, .inl ⟨rfl, _, SqL.of hb2⟩, _, rfl, r, dx, fs, rfl, i1, i4, r, l, e, _, true, rfl, hR, fun z => Bool.noConfusion z, fun _ => ⟨w0, rs, rfl, fun H1 R1 b1 => ?_⟩⟩
      have e1 : H1 b = _ := b1 _ _ hb1 (by simpa using n1)
      have e2 : H1 lw = _ := b1 _ _ hb2 (by simpa using n2)
      have e3 : H1 tl = _ := b1 _ _ hT (by simpa using ntr)
      refine ⟨lw, _, _, rfl, rfl, e2, by rw [txs_len]; exact size_lt (by omega), ?_⟩
      rw [txs_snoc]
      refine ⟨_, rfl, .inl ⟨rfl, _, SqL.of (by rw [upd_ne ntl]; exact e3)⟩, _, rfl, tl, _, _, rfl, rfl, by rw [upd_ne ntl]; exact e3, by rw [List.length_map]; exact size_lt (by omega), ?_⟩
      refine kS h3 _ ?_ ?_ ⟨⟨dxb, ?_⟩, ?_⟩ ?_
      · intro c o hc hm
        simp only [List.mem_cons, List.not_mem_nil, or_false, not_or] at hm
        rw [upd_ne hm.2.2, upd_ne hm.2.1]
        exact b1 _ _ hc (by simpa using hm.1)
      · refine R1.keep (M := [lw, tl]) ?_ (by simp [Ne.symm n2, Ne.symm ntr]) (by simp [nl1, nl2]) ?_
        · intro c o hc hm
          simp only [List.mem_cons, List.not_mem_nil, or_false, not_or] at hm
          rw [upd_ne hm.2, upd_ne hm.1]; exact hc
        · intro a ha xs hx
          simp only [List.mem_cons, List.not_mem_nil, or_false] at ha
          rcases ha with rfl | rfl
          · rw [e2] at hx; cases hx
          · rw [e3] at hx; cases hx
      · rw [upd_ne (Ne.symm ntb), upd_ne (Ne.symm n3)]; exact e1
      · rw [upd_ne (Ne.symm ntl)]; exact upd_same
      · rw [upd_same, List.map_append]; rfl
end
end Sco
namespace Sco
open PySem PySem.Spec PyProof.Rows L2 Sx62
theorem chord_words {pl k d : Nat} {t : Bool} {qs : List Pitch} (h : 2 ≤ qs.length) : pieceWords (.note pl qs k d t) = [91] :: (qs.map pitchText ++ [93 :: longText k d t]) := by
  match qs, h with
  | _ :: _ :: _, _ => rfl
section
variable {P : Program} {w : World} {K : PySem.W.Frag} {mg : Str → Option Value} {base : Heap}
/-! ### read_chord -/
/-- an event whose list of pitches is new -/
def EvNew (H0 : Hp) (C : Addr) (H : Hp) (a : Addr) (e : Ev) : Prop := ∃ dx q, H0 q = none ∧ H a = some (.ins C dx (eF (.int e.place) (.ref q) (.int e.len) (.bl e.tie))) ∧ ListAt PitchAt H q e.ps
/-- what is handed back for a piece that was read: its event, its words in the bar -/
def PieceOut (H0 : Hp) (cB cE : Addr) (b lw : Addr) (sh : Bool) (ws : List Bytes) (len : Nat) (ts : List (Nat × Nat)) : Hp → V → Piece → Prop := fun H' v x =>
  ∃ a ev, v = .ref a ∧ evStep ts.reverse x = [ev] ∧ EvNew H0 cE H' a ev ∧ BCur cB H' b lw sh (ws ++ pieceWords x) len
def spChord (cR cF cB cE : Addr) : Sp := fun vs H Q E => ∃ (r l b lw tl : Addr) (e : Nat) (w0 : Word) (rs : List Word) (sh : Bool) (ws : List Bytes) (len : Nat) (ts : List (Nat × Nat)),
  vs = [.ref r, .ref b, .ref tl] ∧ RdAt cR H r l e (w0 :: rs) ∧ w0.text = [91] ∧ BCur cB H b lw sh ws len ∧ ListAt PairAt H tl ts ∧ (∀ t ∈ ts, Rat t) ∧ tl ≠ lw ∧ ws.length ≤ 3000 ∧ l ≠ lw ∧
  Reads cR cF [r, lw] H r l e (chordFrom e w0.place [] rs) (PieceOut H cB cE b lw sh ws len ts) Q E
theorem sc_chord : FnScope ["reader", "bar", "tuplets", "place", "written", "pitches", "ended", "pitch"] ["reader", "bar", "tuplets"] (defScope (top 61)) := ⟨rfl, rfl, rfl, by decide +kernel, rfl, by decide +kernel, by decide +kernel⟩
theorem bi_chord (D : DefAt K mg "read_chord" (top 61)) : Binds K D.fd ["reader", "bar", "tuplets"] [] := D.F.binds fun _ _ _ _ _ _ us hl => match us, hl with | [_, _, _], _ => rfl
theorem ok_chord (T : Tx w K mg) : FnOk P w K mg base (L2.CX P w) 5 T.f_read_chord.f T.f_read_chord.fd ["reader", "bar", "tuplets"] (spChord T.c_Reader T.c_Fault T.c_Bar T.c_Event) := by
  have GL : FnOk P w K mg base CX0 1 _ _ _ (spLook T.c_Reader) := ok_look T
  have GW : FnOk P w K mg base CX0 1 _ _ _ (spWhere T.c_Reader) := ok_where T
  have GT : FnOk P w K mg base (L2.CX P w) 3 _ _ _ (spTake T.c_Reader T.c_Fault) := ok_take T
  have GP : FnOk P w K mg base (L2.CX P w) 4 _ _ _ (spPitches T.c_Reader T.c_Fault) := ok_pitches T
  have GE : FnOk P w K mg base CX0 3 _ _ _ spEnd := ok_end T
  have GU : FnOk P w K mg base CX0 1 _ _ _ spTup := ok_tup T
  have GV : FnOk P w K mg base CX0 1 _ _ _ (spIn4 T.c_Event eF) := ok_event T
  refine T.f_read_chord.F.okX sc_chord (fun vs H Q E h => ?_) (fun cdv A outer s H vs Q E hr h => ?_)
  · obtain ⟨r, l, b, lw, tl, e, w0, rs, sh, ws, len, ts, rfl, _⟩ := h
    rfl
  · obtain ⟨r, l, b, lw, tl, e, w0, rs, sh, ws, len, ts, rfl, hR, hw0, hB, ⟨tas, hT, hTa⟩, hrat, ntl, hws, nl1, kF, kS⟩ := h
    have hr1 : Room 1 _ := hr.mono (by decide)
    have hr2 : Room 2 _ := hr.mono (by decide)
    have hr3 : Room 3 _ := hr.mono (by decide)
    have hu := hu_of hr
    refine ⟨_, pss_cons (ps_set (i := 3) sc_chord.nd rfl (Or.inl rfl) (pe_meth0 (pv 0) T.cl_Reader T.m_Reader_where.M GW hr1 (bi_where _) .nil pass0))
      (pss_cons (ps_expr (pe_bm PySem.F.plainAttrs_list PySem.F.slot_list_append PySem.F.type_list_append mt_append (pe_fld (pv 1) rfl)
        (pa_cons (pe_meth (pv 0) T.cl_Reader T.m_Reader_take.M GT hr3 (bi_take _) .nil (passes_call (W := fun cls d _ H => E cls d H) (takes_of rfl rfl rfl rfl) (fun _ _ _ _ h => h)) (pa_cons pe_bl pa_nil)) pa_nil)))
      (pss_cons (ps_set (i := 4) sc_chord.nd rfl (Or.inr rfl) (pe_call GP hr rfl T.f_read_pitches.g T.f_read_pitches.F.kp (bi_pitches _) .nil (passes_call (W := fun cls d _ H => E cls d H) (takes_of rfl rfl rfl rfl) (fun _ _ _ _ h => h)) (pa_cons (pv 0) pa_nil)))
      (pss_cons (ps_set (i := 5) sc_chord.nd rfl (Or.inl rfl) (pe_callB (cr_sortD (n := 3) (B := 10) rfl (by decide)) (by rfl) T.b_sorted (by decide +kernel) (pa_cons (pv 4) pa_nil)))
      (pss_cons (ps_expr (pe_bm PySem.F.plainAttrs_list PySem.F.slot_list_extend PySem.F.type_list_extend mt_extend (pe_fld (pv 1) rfl)
        (pa_cons (pe_lc (own := [("pitch", 7)]) (g := gName 7) (tt := tYes) rfl sc_chord.nd (pi_list (pv 5)) (blkOk_by (own := [("pitch", 7)]) (N := ["reader", "bar", "tuplets", "place", "written", "pitches", "ended", "pitch"]) (sc := defScope (top 61)) (by decide +kernel))
          (fun _ _ _ _ _ => pg_name (i := 7) sc_chord.nd rfl (Or.inl rfl)) (fun _ _ _ _ _ => pts_nil) (fun _ _ _ _ _ => pe_dget hu (pv 4) (pv 7) (fun _ _ => rfl))) pa_nil)))
      (pss_cons (ps_set (i := 6) sc_chord.nd rfl (Or.inl rfl) (pe_call GE hr3 rfl T.f_chord_end_of.g T.f_chord_end_of.F.kp (bi_end _) .nil pass0 (pa_cons (pe_meth0 (pv 0) T.cl_Reader T.m_Reader_look.M GL hr1 (bi_look _) .nil pass0) pa_nil)))
      (pss_cons (ps_expr (pe_bm PySem.F.plainAttrs_list PySem.F.slot_list_append PySem.F.type_list_append mt_append (pe_fld (pv 1) rfl)
        (pa_cons (pe_meth (pv 0) T.cl_Reader T.m_Reader_take.M GT hr3 (bi_take _) .nil (passes_call (W := fun cls d _ H => E cls d H) (takes_of rfl rfl rfl rfl) (fun _ _ _ _ h => h)) (pa_cons (pe_cmpR op_notN (pv 6) pe_non (nomark _)) pa_nil)) pa_nil)))
      (pss_one (ps_ret (pe_make T.i_Event.M GV hr2 rfl T.g_Event (bi_event _) .nil pass0 (pa_cons (pv 3) (pa_cons (pv 5) (pa_cons (pe_call GU hr1 rfl T.f_length_in_tuplets.g T.f_length_in_tuplets.F.kp (bi_tup _) .nil pass0 (pa_cons (pe_ix ix_tup (pv 6) pe_int (fun _ _ => rfl)) (pa_cons (pv 2) pa_nil)))
        (pa_cons (pe_ix ix_tup (pv 6) pe_int (fun _ _ => rfl)) pa_nil))))))))))))), ?_⟩
    obtain ⟨dx, fs, i1, i2, i3, i4⟩ := hR.ins
    obtain ⟨n1, n2, n3, n4, n5⟩ := rd_ne hR hB
    have ntr : tl ≠ r := ne_of hT i1 (by intro z; cases z)
    obtain ⟨⟨dxb, hb1⟩, hb2⟩ := hB
    -- "["
    refine ⟨_, rfl, r, dx, fs, rfl, i1, i3, r, l, e, _, rfl, hR, ?_⟩
    refine ⟨_, rfl, b, _, dxb, _, _, rfl, hb1, T.cl_Bar, T.n_Bar_words, bF_words, .inl ⟨rfl, _, SqL.of hb2⟩, _, rfl, r, dx, fs, rfl, i1, i4, r, l, e, _, true, rfl, hR, fun z => Bool.noConfusion z, fun _ => ⟨w0, rs, rfl, fun H1 R1 b1 => ?_⟩⟩
    have e1 : H1 b = _ := b1 _ _ hb1 (by simpa using n1)
    have e2 : H1 lw = _ := b1 _ _ hb2 (by simpa using n2)
    refine ⟨lw, _, _, rfl, rfl, e2, by rw [txs_len]; exact size_lt (by omega), ?_⟩
    rw [txs_snoc, hw0]
    have b2 : But [r, lw] H (upd H1 lw (.lst (txs (ws ++ [[91]])))) := (b1.weak (by simp)).trans (But.upd (by simp))
    have R2 : RdAt T.c_Reader (upd H1 lw (.lst (txs (ws ++ [[91]])))) r l e rs := R1.keep (M := [lw]) (But.upd (by simp)) (by simpa using Ne.symm n2) (by simpa using nl1) (fun a ha xs hx => by
      rw [List.mem_singleton.mp ha, e2] at hx; cases hx)
    have w2 : upd H1 lw (.lst (txs (ws ++ [[91]]))) lw = some (.lst (txs (ws ++ [[91]]))) := upd_same
    have g2 : upd H1 lw (.lst (txs (ws ++ [[91]]))) b = _ := (upd_ne (Ne.symm n3)).trans e1
    generalize upd H1 lw (.lst (txs (ws ++ [[91]]))) = H2 at b2 R2 w2 g2
    -- the pitches
    have hc := chord_pitches rs e w0.place []
    rw [show sortP [] = [] from rfl] at hc
    refine ⟨_, rfl, r, l, e, rs, rfl, R2, fun f hf => ?_, ?_⟩
    · refine (kF f ?_).but b2 (by simp)
      rw [hc, hf]
    rintro acc rest' hp H3 v b3 R3 ⟨d, rfl, nd, d3⟩
    obtain ⟨ao, w1, r1, y, er, ey⟩ := pitches_less (x := (acc, rest')) ⟨List.nodup_nil, fun p hp => (by cases hp), by decide⟩ hp
    have er' : rest' = w1 :: r1 := er
    have ao : AccOk acc := ao
    subst er'
    rw [hp] at hc
    dsimp only at hc
    rw [ey] at hc
    dsimp only at hc
    have w3 : H3 lw = _ := b3 _ _ w2 (by simpa using n2)
    have g3 : H3 b = _ := b3 _ _ g2 (by simpa using n1)
    have b3' : But [r, lw] H H3 := b2.trans (b3.weak (by simp))
    refine ⟨_, rfl, d, _, rfl, d3, ?_, ?_, fun bs ys p hk pm pw np => ?_⟩
    · show (dictOf acc).length < 64
      have h1 : (dictOf acc).length = acc.length := List.length_map ..
      have h2 : acc.length ≤ 6 := ao.few
      omega
    · intro z hz
      obtain ⟨q, hq, rfl⟩ := List.mem_map.mp hz
      have ok := ao.ok q hq
      refine ⟨pints q, rfl, rfl, fun m hm => ?_⟩
      obtain ⟨o1, o2, o3⟩ := ok
      simp only [pints, List.mem_cons, List.not_mem_nil, or_false] at hm
      rcases hm with rfl | rfl | rfl <;> omega
    obtain ⟨as, rfl, hAs⟩ := sorted_at ao hk pm pw
    have s4 : Same H3 (upd H3 p (.lst (as.map V.ref))) := same_new np
    have p4 : upd H3 p (.lst (as.map V.ref)) p = some _ := upd_same
    generalize upd H3 p (.lst (as.map V.ref)) = H4 at s4 p4
    have lenS : (sortP acc).length ≤ 6 := by rw [sortP_len]; exact ao.few
    have len2 : 2 ≤ (sortP acc).length := by
      obtain ⟨qs, k, d, t, c1, c2, _⟩ := chord_ok (fun p hp => (by cases hp)) hc
      injection c1 with _ c3
      rw [c3]; exact c2
    -- the pitches' words
    refine ⟨_, rfl, b, _, dxb, _, _, rfl, s4 _ _ g3, T.cl_Bar, T.n_Bar_words, bF_words, .inl ⟨rfl, _, SqL.of (s4 _ _ w3)⟩, _, rfl, p, rfl, ⟨_, SqL.of p4⟩, fun D nD => ?_⟩
    refine lc_list (K := K) (a := p) (xs := as.map V.ref) (fun i H' => Same H4 H' ∧ H' D = some (.lst (txs (((sortP acc).take i).map pitchText)))) ⟨same_new nD, upd_same⟩ (fun i H' _ h => SqL.of (h.1 _ _ p4)) ?_ ?_
    · rintro i x H' hi ⟨s5, D5⟩
      obtain ⟨a, ha, rfl⟩ := refs_get hi
      obtain ⟨q, hq, hqa⟩ := hAs.got ha
      have hm : q ∈ acc := (sortP_mem acc).mp (List.mem_of_getElem? hq)
      have gt : DGet H' d (.ref a) (some (.str (S (pitchText q)))) := by
        have := DGet.t (H := H') (a := d) (b := a) (kvs := dictOf acc) (k := pk q) (s5 _ _ (s4 _ _ d3)) (s5 _ _ (s4 _ _ hqa))
        rw [val_dict, if_pos hm] at this
        exact this
      refine ⟨rfl, ?_⟩
      dsimp only [tYes]
      rw [if_pos rfl]
      refine ⟨_, rfl, _, rfl, d, _, rfl, gt, _, D5, ?_, ?_, ?_⟩
      · rw [txs_len, List.length_map, List.length_take]
        exact size_lt (by omega)
      · exact fun c o hc => by rw [upd_ne (ne_of_none hc nD)]; exact s5 c o hc
      · rw [upd_same, txs_snoc, List.take_succ, hq, List.map_append]; rfl
    · rintro H5 ⟨s5, D5⟩
      rw [List.length_map, hAs.length, List.take_length] at D5
      have s35 := s4.trans s5
      have w5 := s35 _ _ w3
      have nDl : D ≠ lw := fun z => by rw [z, s4 _ _ w3] at nD; cases nD
      refine ⟨lw, D, _, _, rfl, rfl, w5, D5, ?_, ?_⟩
      · simp only [txs_len, List.length_append, List.length_map, List.length_cons, List.length_nil]
        exact Nat.le_of_lt (size_lt (by omega))
      rw [txs_app]
      have b6 : But [lw] H3 (upd H5 lw (.lst (txs (ws ++ [[91]] ++ (sortP acc).map pitchText)))) := (But.of s35).trans (But.upd (by simp))
      have w6 : upd H5 lw (.lst (txs (ws ++ [[91]] ++ (sortP acc).map pitchText))) lw = some _ := upd_same
      have p6 : upd H5 lw (.lst (txs (ws ++ [[91]] ++ (sortP acc).map pitchText))) p = some (.lst (as.map V.ref)) := by
        have : p ≠ lw := fun z => by rw [z, w3] at np; cases np
        rw [upd_ne this]; exact s5 _ _ p4
      generalize upd H5 lw (.lst (txs (ws ++ [[91]] ++ (sortP acc).map pitchText))) = H6 at b6 w6 p6
      have R6 : RdAt T.c_Reader H6 r l e (w1 :: r1) := R3.keep b6 (by simpa using Ne.symm n2) (by simpa using nl1) (fun a ha xs hx => by
        rw [List.mem_singleton.mp ha, w3] at hx; cases hx)
      have g6 : H6 b = _ := b6 _ _ g3 (by simpa using Ne.symm n3)
      obtain ⟨dx6, fs6, j1, j2, j3, j4⟩ := R6.ins
      have bH6 : But [r, lw] H H6 := b3'.trans (b6.weak (by simp))
      -- the end
      refine ⟨_, rfl, r, dx6, fs6, rfl, j1, j2, r, l, e, _, rfl, R6, w1.text, rfl, lk_wd R6.ok, fun z => ?_, fun y' ey' H7 q s7 hq => ?_⟩
      · rw [ey] at z; cases z
      have hy : y = y' := Option.some.inj (ey.symm.trans ey')
      subst hy
      have R7 := R6.same s7
      obtain ⟨dx7, fs7, k1, k2, k3, k4⟩ := R7.ins
      refine ⟨_, rfl, b, _, dxb, _, _, rfl, s7 _ _ g6, T.cl_Bar, T.n_Bar_words, bF_words, .inl ⟨rfl, _, SqL.of (s7 _ _ w6)⟩, _, rfl, r, dx7, fs7, rfl, k1, k4, _, rfl, rfl, r, l, e, _, true, rfl, R7, fun z => Bool.noConfusion z, fun _ => ⟨w1, r1, rfl, fun H8 R8 b8 => ?_⟩⟩
      obtain ⟨et, ek, ed⟩ := endOf_text ey
      have w8 : H8 lw = _ := b8 _ _ (s7 _ _ w6) (by simpa using n2)
      have g8 : H8 b = _ := b8 _ _ (s7 _ _ g6) (by simpa using n1)
      refine ⟨lw, _, _, rfl, rfl, w8, ?_, ?_⟩
      · simp only [txs_len, List.length_append, List.length_map, List.length_cons, List.length_nil]
        exact size_lt (by omega)
      rw [txs_snoc]
      have b9 : But [r, lw] H (upd H8 lw (.lst (txs (ws ++ [[91]] ++ (sortP acc).map pitchText ++ [w1.text])))) := (bH6.trans (But.of s7)).trans ((b8.weak (by simp)).trans (But.upd (by simp)))
      have w9 : upd H8 lw (.lst (txs (ws ++ [[91]] ++ (sortP acc).map pitchText ++ [w1.text]))) lw = some _ := upd_same
      have g9 : upd H8 lw (.lst (txs (ws ++ [[91]] ++ (sortP acc).map pitchText ++ [w1.text]))) b = _ := (upd_ne (Ne.symm n3)).trans g8
      have R9 : RdAt T.c_Reader (upd H8 lw (.lst (txs (ws ++ [[91]] ++ (sortP acc).map pitchText ++ [w1.text])))) r l e r1 := R8.keep (M := [lw]) (But.upd (by simp)) (by simpa using Ne.symm n2) (by simpa using nl1) (fun a ha xs hx => by
        rw [List.mem_singleton.mp ha, w8] at hx; cases hx)
      have keep : ∀ c o, H7 c = some o → c ≠ r → c ≠ lw → upd H8 lw (.lst (txs (ws ++ [[91]] ++ (sortP acc).map pitchText ++ [w1.text]))) c = some o := fun c o h a1 a2 => by
        rw [upd_ne a2]; exact b8 _ _ h (by simpa using a1)
      generalize upd H8 lw (.lst (txs (ws ++ [[91]] ++ (sortP acc).map pitchText ++ [w1.text]))) = H9 at b9 w9 g9 R9 keep
      have q9 : H9 q = _ := keep _ _ hq (ne_of hq k1 (by intro z; cases z)) (ne_of hq (s7 _ _ w6) (by intro z; cases z))
      have pr : p ≠ r := ne_of (s7 _ _ p6) k1 (by intro z; cases z)
      have pl : p ≠ lw := fun z => by rw [z, w3] at np; cases np
      have p9 : H9 p = _ := keep _ _ (s7 _ _ p6) pr pl
      have npH : H p = none := by
        cases z : H p with
        | none => rfl
        | some o => rw [b3' _ _ z (by simp [pr, pl])] at np; cases np
      have t9 : H9 tl = _ := b9 _ _ hT (by simp [ntr, ntl])
      have pair9 : ∀ a x, PairAt H a x → PairAt H9 a x := fun a x h => b9 _ _ h (by
        simp only [List.mem_cons, List.not_mem_nil, or_false, not_or]
        exact ⟨ne_of h i1 (by intro z; cases z), ne_of h hb2 (by intro z; cases z)⟩)
      refine ⟨_, rfl, _, rfl, _, rfl, q, _, 0, _, rfl, rfl, SqT.of q9, rfl, _, rfl, _, tl, ts, rfl, ⟨tas, t9, hTa.imp pair9⟩, hrat, _, rfl, q, _, 1, _, rfl, rfl, SqT.of q9, rfl, fun x dxn nx ndx ne => ?_⟩
      refine ⟨x, dxn, _, _, _, _, rfl, upd_same, fun H10 hx hk10 => ⟨rfl, ?_⟩⟩
      have s10 : Same H9 H10 := Same.made nx ndx hk10
      have pit10 : ∀ a z, PitchAt H3 a z → PitchAt H10 a z := fun a z h => by
        have h6 := b6 _ _ h (by simpa using ne_of h w3 (by intro z; cases z))
        have h7 := s7 _ _ h6
        exact s10 _ _ (keep _ _ h7 (ne_of h7 k1 (by intro z; cases z)) (ne_of h7 (s7 _ _ w6) (by intro z; cases z)))
      refine kS _ r1 hc H10 _ (b9.trans (But.of s10)) (R9.same s10) ⟨x, ⟨w0.place, sortP acc, tupU (dotU y.1 y.2.1) ts, y.2.2⟩, rfl, by rw [show evStep ts.reverse (.note w0.place (sortP acc) y.1 y.2.1 y.2.2) = [⟨w0.place, sortP acc, tupU (dotU y.1 y.2.1) ts.reverse.reverse, y.2.2⟩] from rfl, List.reverse_reverse], ⟨dxn, p, npH, hx, as, s10 _ _ p9, hAs.imp pit10⟩, ⟨dxb, s10 _ _ g9⟩, ?_⟩
      rw [chord_words len2, s10 _ _ w9, et]
      simp
end
end Sco
namespace Sco
open PySem PySem.Spec PyProof.Rows L2 Sx62
def eventFrom (e : Nat) : List Word → R (Piece × List Word)
  | [] => bad e
  | w :: l => if w.text = [91] then chordFrom e w.place [] l else match cNote w.text with
    | none => bad w.place
    | some x => .ok (.note w.place x.1 x.2.1 x.2.2.1 x.2.2.2, l)
theorem ev_chord {e : Nat} {w : Word} {l : List Word} (h : w.text = [91]) : eventFrom e (w :: l) = chordFrom e w.place [] l := by
  show (if w.text = [91] then _ else _) = _
  rw [if_pos h]
theorem ev_note {e : Nat} {w : Word} {l : List Word} (h : ¬ w.text = [91]) : eventFrom e (w :: l) = match cNote w.text with
    | none => bad w.place
    | some x => .ok (.note w.place x.1 x.2.1 x.2.2.1 x.2.2.2, l) := by
  show (if w.text = [91] then _ else _) = _
  rw [if_neg h]
theorem st_open : Str.ofString "[" = S [91] := by decide +kernel
theorem note_words {t : Bytes} {pl : Nat} {x : List Pitch × Nat × Nat × Bool} (h : cNote t = some x) : pieceWords (.note pl x.1 x.2.1 x.2.2.1 x.2.2.2) = [t] := by
  obtain ⟨e1, _, _, e4⟩ := cNote_text h
  obtain ⟨ps, k, d, tie⟩ := x
  rcases e4 with ⟨q, _⟩ | ⟨p, q, _⟩
  · have q : ps = [] := q
    subst q
    rw [e1]; rfl
  · have q : ps = [p] := q
    subst q
    rw [e1]; rfl
section
variable {P : Program} {w : World} {K : PySem.W.Frag} {mg : Str → Option Value} {base : Heap}
def spEvent (cR cF cB cE : Addr) : Sp := fun vs H Q E => ∃ (r l b lw tl : Addr) (e : Nat) (rest : List Word) (sh : Bool) (ws : List Bytes) (len : Nat) (ts : List (Nat × Nat)),
  vs = [.ref r, .ref b, .ref tl] ∧ RdAt cR H r l e rest ∧ BCur cB H b lw sh ws len ∧ ListAt PairAt H tl ts ∧ (∀ t ∈ ts, Rat t) ∧ tl ≠ lw ∧ ws.length ≤ 3000 ∧ l ≠ lw ∧
  Reads cR cF [r, lw] H r l e (eventFrom e rest) (PieceOut H cB cE b lw sh ws len ts) Q E
theorem sc_revent : FnScope ["reader", "bar", "tuplets", "place", "said"] ["reader", "bar", "tuplets"] (defScope (top 60)) := ⟨rfl, rfl, rfl, by decide +kernel, rfl, by decide +kernel, by decide +kernel⟩
theorem bi_revent (D : DefAt K mg "read_event" (top 60)) : Binds K D.fd ["reader", "bar", "tuplets"] [] := D.F.binds fun _ _ _ _ _ _ us hl => match us, hl with | [_, _, _], _ => rfl
theorem ok_revent (T : Tx w K mg) : FnOk P w K mg base (L2.CX P w) 6 T.f_read_event.f T.f_read_event.fd ["reader", "bar", "tuplets"] (spEvent T.c_Reader T.c_Fault T.c_Bar T.c_Event) := by
  have GL : FnOk P w K mg base CX0 1 _ _ _ (spLook T.c_Reader) := ok_look T
  have GW : FnOk P w K mg base CX0 1 _ _ _ (spWhere T.c_Reader) := ok_where T
  have GT : FnOk P w K mg base (L2.CX P w) 3 _ _ _ (spTake T.c_Reader T.c_Fault) := ok_take T
  have GC : FnOk P w K mg base (L2.CX P w) 5 _ _ _ (spChord T.c_Reader T.c_Fault T.c_Bar T.c_Event) := ok_chord T
  have GN : FnOk P w K mg base CX0 3 _ _ _ spNote := ok_note T
  have GU : FnOk P w K mg base CX0 1 _ _ _ spTup := ok_tup T
  have GV : FnOk P w K mg base CX0 1 _ _ _ (spIn4 T.c_Event eF) := ok_event T
  refine T.f_read_event.F.okX sc_revent (fun vs H Q E h => ?_) (fun cdv A outer s H vs Q E hr h => ?_)
  · obtain ⟨r, l, b, lw, tl, e, rest, sh, ws, len, ts, rfl, _⟩ := h
    rfl
  · obtain ⟨r, l, b, lw, tl, e, rest, sh, ws, len, ts, rfl, hR, hB, hTL, hrat, ntl, hws, nl1, kF, kS⟩ := h
    have hr1 : Room 1 _ := hr.mono (by decide)
    have hr2 : Room 2 _ := hr.mono (by decide)
    have hr3 : Room 3 _ := hr.mono (by decide)
    refine ⟨_, pss_cons (ps_if (pt_cmpR op_eq (pe_meth0 (pv 0) T.cl_Reader T.m_Reader_look.M GL hr1 (bi_look _) .nil pass0) pe_str (nomark _))
        (pss_one (ps_ret (pe_call GC hr rfl T.f_read_chord.g T.f_read_chord.F.kp (bi_chord _) .nil (passes_call (W := fun cls d _ H => E cls d H) (takes_of rfl rfl rfl rfl) (fun _ _ _ _ h => h)) (pa_cons (pv 0) (pa_cons (pv 1) (pa_cons (pv 2) pa_nil)))))) pss_nil)
      (pss_cons (ps_set (i := 3) sc_revent.nd rfl (Or.inl rfl) (pe_meth0 (pv 0) T.cl_Reader T.m_Reader_where.M GW hr1 (bi_where _) .nil pass0))
      (pss_cons (ps_set (i := 4) sc_revent.nd rfl (Or.inl rfl) (pe_call GN hr3 rfl T.f_note_or_rest_of.g T.f_note_or_rest_of.F.kp (bi_note _) .nil pass0 (pa_cons (pe_meth0 (pv 0) T.cl_Reader T.m_Reader_look.M GL hr1 (bi_look _) .nil pass0) pa_nil)))
      (pss_cons (ps_expr (pe_bm PySem.F.plainAttrs_list PySem.F.slot_list_append PySem.F.type_list_append mt_append (pe_fld (pv 1) rfl)
        (pa_cons (pe_meth (pv 0) T.cl_Reader T.m_Reader_take.M GT hr3 (bi_take _) .nil (passes_call (W := fun cls d _ H => E cls d H) (takes_of rfl rfl rfl rfl) (fun _ _ _ _ h => h)) (pa_cons (pe_cmpR op_notN (pv 4) pe_non (nomark _)) pa_nil)) pa_nil)))
      (pss_one (ps_ret (pe_make T.i_Event.M GV hr2 rfl T.g_Event (bi_event _) .nil pass0 (pa_cons (pv 3) (pa_cons (pe_ix ix_tup (pv 4) pe_int (fun _ _ => rfl)) (pa_cons (pe_call GU hr1 rfl T.f_length_in_tuplets.g T.f_length_in_tuplets.F.kp (bi_tup _) .nil pass0 (pa_cons (pe_ix ix_tup (pv 4) pe_int (fun _ _ => rfl)) (pa_cons (pv 2) pa_nil)))
        (pa_cons (pe_ix ix_tup (pv 4) pe_int (fun _ _ => rfl)) pa_nil)))))))))), ?_⟩
    obtain ⟨dx, fs, i1, i2, i3, i4⟩ := hR.ins
    obtain ⟨n1, n2, n3, n4, n5⟩ := rd_ne hR hB
    refine ⟨_, rfl, r, dx, fs, rfl, i1, i2, r, l, e, _, rfl, hR, rfl, _, rfl, ?_⟩
    rw [st_open, dec_str]
    by_cases h0 : lkW rest = [91]
    · obtain ⟨w0, rs, rfl, hw⟩ := lk_ne hR.ok (by rw [h0]; decide)
      have hw0 : w0.text = [91] := hw.symm.trans h0
      rw [ev_chord hw0] at kF kS
      exact if_t (decide_eq_true h0) ⟨_, rfl, _, rfl, _, rfl, r, l, b, lw, tl, e, w0, rs, sh, ws, len, ts, rfl, hR, hw0, hB, hTL, hrat, ntl, hws, nl1, kF, kS⟩
    · obtain ⟨⟨dxb, hb1⟩, hb2⟩ := hB
      obtain ⟨tas, hT, hTa⟩ := hTL
      have ntr : tl ≠ r := ne_of hT i1 (by intro z; cases z)
      refine if_f (decide_eq_false h0) ⟨_, rfl, r, dx, fs, rfl, i1, i3, r, l, e, _, rfl, hR, _, rfl, r, dx, fs, rfl, i1, i2, r, l, e, _, rfl, hR, _, rfl, lk_wd hR.ok, ?_, ?_⟩
      · intro en H1 s1
        have R1 := hR.same s1
        obtain ⟨dx1, fs1, j1, j2, j3, j4⟩ := R1.ins
        refine ⟨_, rfl, b, _, dxb, _, _, rfl, s1 _ _ hb1, T.cl_Bar, T.n_Bar_words, bF_words, .inl ⟨rfl, _, SqL.of (s1 _ _ hb2)⟩, _, rfl, r, dx1, fs1, rfl, j1, j4, _, rfl, rfl, r, l, e, _, false, rfl, R1, fun _ => ?_, fun z => Bool.noConfusion z⟩
        refine falls_weak (M := [r, lw]) (kF _ ?_) (But.of s1)
        cases rest with
        | nil => rfl
        | cons w0 rs => rw [ev_note h0, show cNote w0.text = none from en]; rfl
      · intro x ex H1 q s1 hq
        have R1 := hR.same s1
        obtain ⟨dx1, fs1, j1, j2, j3, j4⟩ := R1.ins
        cases rest with
        | nil => exact absurd ex (by rw [show cNote (lkW []) = none by decide]; simp)
        | cons w0 rs =>
          have ex' : cNote w0.text = some x := ex
          refine ⟨_, rfl, b, _, dxb, _, _, rfl, s1 _ _ hb1, T.cl_Bar, T.n_Bar_words, bF_words, .inl ⟨rfl, _, SqL.of (s1 _ _ hb2)⟩, _, rfl, r, dx1, fs1, rfl, j1, j4, _, rfl, rfl, r, l, e, _, true, rfl, R1, fun z => Bool.noConfusion z, fun _ => ⟨w0, rs, rfl, fun H8 R8 b8 => ?_⟩⟩
          have w8 : H8 lw = _ := b8 _ _ (s1 _ _ hb2) (by simpa using n2)
          have g8 : H8 b = _ := b8 _ _ (s1 _ _ hb1) (by simpa using n1)
          refine ⟨lw, _, _, rfl, rfl, w8, by rw [txs_len]; exact size_lt (by omega), ?_⟩
          rw [txs_snoc]
          have b9 : But [r, lw] H (upd H8 lw (.lst (txs (ws ++ [w0.text])))) := (But.of s1).trans ((b8.weak (by simp)).trans (But.upd (by simp)))
          have w9 : upd H8 lw (.lst (txs (ws ++ [w0.text]))) lw = some _ := upd_same
          have g9 : upd H8 lw (.lst (txs (ws ++ [w0.text]))) b = _ := (upd_ne (Ne.symm n3)).trans g8
          have R9 : RdAt T.c_Reader (upd H8 lw (.lst (txs (ws ++ [w0.text])))) r l e rs := R8.keep (M := [lw]) (But.upd (by simp)) (by simpa using Ne.symm n2) (by simpa using nl1) (fun a ha xs hx => by
            rw [List.mem_singleton.mp ha, w8] at hx; cases hx)
          have keep : ∀ c o, H1 c = some o → c ≠ r → c ≠ lw → upd H8 lw (.lst (txs (ws ++ [w0.text]))) c = some o := fun c o h a1 a2 => by
            rw [upd_ne a2]; exact b8 _ _ h (by simpa using a1)
          generalize upd H8 lw (.lst (txs (ws ++ [w0.text]))) = H9 at b9 w9 g9 R9 keep
          obtain ⟨pl, npl, hq1, ⟨pas, hq2, hq3⟩⟩ := hq
          have nq : ∀ c xs, H1 c = some (.tup xs) → c ≠ r ∧ c ≠ lw := fun c xs h => ⟨ne_of h j1 (by intro z; cases z), ne_of h (s1 _ _ hb2) (by intro z; cases z)⟩
          have q9 : H9 q = _ := keep _ _ hq1 (nq _ _ hq1).1 (nq _ _ hq1).2
          have t9 : H9 tl = _ := b9 _ _ hT (by simp [ntr, ntl])
          have pair9 : ∀ a x, PairAt H a x → PairAt H9 a x := fun a x h => b9 _ _ h (by
            simp only [List.mem_cons, List.not_mem_nil, or_false, not_or]
            exact ⟨ne_of h i1 (by intro z; cases z), ne_of h hb2 (by intro z; cases z)⟩)
          have plw : pl ≠ lw := fun z => by rw [z, hb2] at npl; cases npl
          have p9 : H9 pl = _ := keep _ _ hq2 (ne_of hq2 j1 (by intro z; cases z)) plw
          refine ⟨_, rfl, _, rfl, q, _, 0, _, rfl, rfl, SqT.of q9, rfl, _, rfl, q, _, 1, _, rfl, rfl, SqT.of q9, rfl, _, rfl, _, tl, ts, rfl, ⟨tas, t9, hTa.imp pair9⟩, hrat, _, rfl, q, _, 2, _, rfl, rfl, SqT.of q9, rfl, fun xn dxn nx ndx ne => ?_⟩
          refine ⟨xn, dxn, _, _, _, _, rfl, upd_same, fun H10 hx hk10 => ⟨rfl, ?_⟩⟩
          have s10 : Same H9 H10 := Same.made nx ndx hk10
          have hev : eventFrom e (w0 :: rs) = .ok (.note w0.place x.1 x.2.1 x.2.2.1 x.2.2.2, rs) := by rw [ev_note h0, ex']
          refine kS _ rs hev H10 _ (b9.trans (But.of s10)) (R9.same s10) ⟨xn, ⟨w0.place, x.1, tupU (dotU x.2.1 x.2.2.1) ts, x.2.2.2⟩, rfl, ?_, ⟨dxn, pl, npl, hx, pas, s10 _ _ p9, hq3.imp fun a z h => s10 _ _ (keep _ _ h (nq _ _ h).1 (nq _ _ h).2)⟩, ⟨dxb, s10 _ _ g9⟩, ?_⟩
          · rw [show evStep ts.reverse (.note w0.place x.1 x.2.1 x.2.2.1 x.2.2.2) = [⟨w0.place, x.1, tupU (dotU x.2.1 x.2.2.1) ts.reverse.reverse, x.2.2.2⟩] from rfl, List.reverse_reverse]
          · rw [note_words ex']; exact s10 _ _ w9
end
end Sco
namespace Sco
open PySem PySem.Spec PyProof.Rows L2 Sx62
/-! ### how many words, how many events -/
theorem chord_count : ∀ {l : List Word} {e pl : Nat} {ps : List Pitch} {x : Piece × List Word}, chordFrom e pl ps l = .ok x → ∃ qs k d t, x.1 = .note pl qs k d t ∧ 2 ≤ qs.length ∧ qs.length + 1 + x.2.length = ps.length + l.length
  | [], e, pl, ps, x, h => by rw [chord_nil] at h; cases h
  | w :: l, e, pl, ps, x, h => by
    by_cases h1 : w.text.head? = some 93
    · rw [chord_end h1] at h
      split at h
      · cases h
      · split at h
        · cases h
        · rename_i hl
          injection h with h; subst h
          exact ⟨ps, _, _, _, rfl, by omega, by rw [List.length_cons]; show ps.length + 1 + l.length = _; omega⟩
    · rw [chord_pitch h1] at h
      split at h
      · split at h
        · cases h
        · obtain ⟨qs, k, d, t, e1, e2, e3⟩ := chord_count h
          rw [put_len] at e3
          exact ⟨qs, k, d, t, e1, e2, by rw [List.length_cons]; omega⟩
      · cases h
theorem event_count {e : Nat} {l : List Word} {x : Piece} {rest : List Word} (h : eventFrom e l = .ok (x, rest)) : (pieceWords x).length + rest.length = l.length ∧ ∃ p ps k d t, x = .note p ps k d t := by
  cases l with
  | nil => cases h
  | cons w l =>
    by_cases h0 : w.text = [91]
    · rw [ev_chord h0] at h
      obtain ⟨qs, k, d, t, e1, e2, e3⟩ := chord_count h
      have e1 : x = .note w.place qs k d t := e1
      subst e1
      refine ⟨?_, _, _, _, _, _, rfl⟩
      rw [chord_words e2]
      simp only [List.length_cons, List.length_append, List.length_map, List.length_nil] at e3 ⊢
      omega
    · rw [ev_note h0] at h
      cases e1 : cNote w.text with
      | none => rw [e1] at h; cases h
      | some y =>
        rw [e1] at h
        injection h with h
        injection h with h1 h2
        subst h1; subst h2
        refine ⟨?_, _, _, _, _, _, rfl⟩
        rw [note_words e1]
        simp only [List.length_cons, List.length_nil]
        omega
theorem pcs_event {e : Nat} {acc : List Piece} {w : Word} {l : List Word} (h1 : cTup w.text = none) (h4 : ¬ (w.text = [124] ∧ stOf acc = [] ∧ acc ≠ [])) (h5 : ¬ (w.text = [125] ∧ 0 < (stOf acc).length ∧ afterOpen acc = false)) :
    pcs e acc (w :: l) = match eventFrom e (w :: l) with
      | .error x => .error x
      | .ok x => pcs e (x.1 :: acc) x.2 := by
  by_cases h0 : w.text = [91]
  · rw [pcs_chord h0, ev_chord h0] <;> rfl
  · rw [ev_note h0]
    cases e1 : cNote w.text with
    | none => rw [pcs_bad h1 h0 e1 h4 h5]; rfl
    | some x => rw [pcs_note e1]
theorem evs_snoc (acc : List Piece) (x : Piece) : evsOf [] (x :: acc).reverse = evsOf [] acc.reverse ++ evStep (stOf acc) x := by
  rw [List.reverse_cons, evs_append]
  show _ ++ (evStep (stOf acc) x ++ []) = _
  rw [List.append_nil]
theorem tot_snoc (l : List Nat) (n : Nat) : tot (l ++ [n]) = tot l + n := by
  unfold tot; rw [List.foldl_append]; rfl
theorem words_snoc (acc : List Piece) (x : Piece) : (x :: acc).reverse.flatMap pieceWords = acc.reverse.flatMap pieceWords ++ pieceWords x := by
  rw [List.reverse_cons, List.flatMap_append]
  show _ ++ (pieceWords x ++ []) = _
  rw [List.append_nil]
/-- an event whose list of pitches is none of these -/
def EvAtX (N : List Addr) (C : Addr) (H : Hp) (a : Addr) (e : Ev) : Prop := ∃ dx q, q ∉ N ∧ H a = some (.ins C dx (eF (.int e.place) (.ref q) (.int e.len) (.bl e.tie))) ∧ ListAt PitchAt H q e.ps
theorem EvAtX.ev {N : List Addr} {C : Addr} {H : Hp} {a : Addr} {e : Ev} (h : EvAtX N C H a e) : EvAt C H a e := by
  obtain ⟨dx, q, _, h1, h2⟩ := h
  exact ⟨dx, q, h1, h2⟩
/-- what may be changed while the events stand: lists of N, instances that are no events -/
def Off (N : List Addr) (H : Hp) (M : List Addr) : Prop := ∀ a ∈ M, a ∈ N ∨ (∃ C dx fs, H a = some (.ins C dx fs) ∧ fs.lookup ("pitches" : Str) = none) ∨ H a = none
theorem EvAtX.keep {N M : List Addr} {C : Addr} {H H' : Hp} {a : Addr} {e : Ev} (h : EvAtX N C H a e) (hN : ∀ x ∈ N, ∃ xs, H x = some (.lst xs)) (hO : Off N H M) (b : But M H H') : EvAtX N C H' a e := by
  obtain ⟨dx, q, hq, h1, ⟨as, h2, h3⟩⟩ := h
  have k1 : a ∉ M := fun z => by
    rcases hO a z with y | ⟨C', dx', fs, y, y2⟩ | y
    · obtain ⟨xs, y⟩ := hN a y
      rw [h1] at y; cases y
    · rw [h1] at y
      injection y with y
      injection y with _ _ y
      rw [← y, eF_pitches] at y2; cases y2
    · rw [h1] at y; cases y
  have k2 : q ∉ M := fun z => by
    rcases hO q z with y | ⟨C', dx', fs, y, y2⟩ | y
    · exact hq y
    · rw [h2] at y; cases y
    · rw [h2] at y; cases y
  have k3 : ∀ c p, PitchAt H c p → PitchAt H' c p := fun c p hc => b _ _ hc fun z => by
    have hc' : H c = some (.tup _) := hc
    rcases hO c z with y | ⟨C', dx', fs, y, y2⟩ | y
    · obtain ⟨xs, y⟩ := hN c y
      rw [hc'] at y; cases y
    · rw [hc'] at y; cases y
    · rw [hc'] at y; cases y
  exact ⟨dx, q, hq, b _ _ h1 k1, as, b _ _ h2 k2, h3.imp k3⟩
theorem bF_pitches {a b c d : V} : (bF a b c d).lookup ("pitches" : Str) = none := (lk_past (by decide +kernel)).trans ((lk_past (by decide +kernel)).trans ((lk_past (by decide +kernel)).trans ((lk_past (by decide +kernel)).trans rfl)))
theorem st_bar : Str.ofString "|" = S [124] := by decide +kernel
theorem st_cl : Str.ofString "}" = S [125] := by decide +kernel
/-! ### a bar's loop -/
structure BarLoop (cR cB cE : Addr) (H : Hp) (r l ev b lw tl : Addr) (e : Nat) (sh : Bool) (evs : List Ev) (res : R (List Piece × Nat × List Word)) (H1 : Hp) (acc : List Piece) (rs : List Word) : Prop where
  but : But [r, ev] H H1
  rd : RdAt cR H1 r l e rs
  bar : BCur cB H1 b lw sh (shortW sh ++ acc.reverse.flatMap pieceWords) (tot (lens (evsOf [] acc.reverse)))
  tup : ListAt PairAt H1 tl (stOf acc).reverse
  evl : ListAt (EvAtX [ev, lw, tl] cE) H1 ev (evs ++ evsOf [] acc.reverse)
  ok : PsOk [] acc.reverse
  a1 : stOf acc ≠ [] → acc ≠ []
  a2 : afterOpen acc = true → stOf acc ≠ []
  c1 : (acc.reverse.flatMap pieceWords).length + rs.length ≤ 2900
  c2 : evs.length + (evsOf [] acc.reverse).length + rs.length ≤ 3000
  eq : pcs e acc rs = res
/-- the things that a bar is read with are apart -/
structure Apart (H : Hp) (r l ev b lw tl : Addr) : Prop where
  tw : tl ≠ lw
  ew : ev ≠ lw
  et : ev ≠ tl
  lw' : l ≠ lw
  lt : l ≠ tl
  le : ev ≠ l
  hb : H b = none
  hw : H lw = none
  ht : H tl = none
section
variable {cR cB cE r l ev b lw tl : Addr} {H H1 H2 H3 : Hp} {e : Nat} {sh : Bool} {evs : List Ev} {res : R (List Piece × Nat × List Word)} {acc : List Piece} {rs : List Word}
theorem BarLoop.same (h : BarLoop cR cB cE H r l ev b lw tl e sh evs res H1 acc rs) (s : Same H1 H2) : BarLoop cR cB cE H r l ev b lw tl e sh evs res H2 acc rs :=
  ⟨h.but.trans (But.of s), h.rd.same s, h.bar.keep (M := []) (But.of s) (by simp) (by simp), h.tup.mono (PairAt.same s) s, h.evl.mono (fun a x hx => by
    obtain ⟨dx, q, hq, h1, h2⟩ := hx
    exact ⟨dx, q, hq, s _ _ h1, h2.mono (PitchAt.same s) s⟩) s, h.ok, h.a1, h.a2, h.c1, h.c2, h.eq⟩
theorem BarLoop.lists (h : BarLoop cR cB cE H r l ev b lw tl e sh evs res H1 acc rs) : ∀ x ∈ [ev, lw, tl], ∃ xs, H1 x = some (.lst xs) := by
  intro x hx
  simp only [List.mem_cons, List.not_mem_nil, or_false] at hx
  rcases hx with rfl | rfl | rfl
  · obtain ⟨as, h1, _⟩ := h.evl; exact ⟨_, h1⟩
  · exact ⟨_, h.bar.2⟩
  · obtain ⟨as, h1, _⟩ := h.tup; exact ⟨_, h1⟩
theorem rF_pitches {a b : V} : (rF a b).lookup ("pitches" : Str) = none := rF_none (by decide +kernel) (by decide +kernel)
theorem BarLoop.off (h : BarLoop cR cB cE H r l ev b lw tl e sh evs res H1 acc rs) {M : List Addr} (hM : ∀ x ∈ M, x = r ∨ x = b ∨ x = ev ∨ x = lw ∨ x = tl) : Off [ev, lw, tl] H1 M := by
  intro a ha
  rcases hM a ha with rfl | rfl | rfl | rfl | rfl
  · obtain ⟨dx, ws, i, h1, _⟩ := h.rd
    exact .inr (.inl ⟨_, _, _, h1, rF_pitches⟩)
  · obtain ⟨⟨dx, h1⟩, _⟩ := h.bar
    exact .inr (.inl ⟨_, _, _, h1, bF_pitches⟩)
  · exact .inl (by simp)
  · exact .inl (by simp)
  · exact .inl (by simp)
theorem BarLoop.opened (h : BarLoop cR cB cE H r l ev b lw tl e sh evs res H1 acc (w0 :: rs)) (ap : Apart H r l ev b lw tl) {x : Nat × Nat} (hx : cTup w0.text = some x) (hd : ¬ 3 ≤ (stOf acc).length) {as : List Addr} {tp : Addr}
    (ht : H1 tl = some (.lst (as.map V.ref))) (hp : PairAt H1 tp x) (b3 : But [r, lw, tl] H1 H3) (R3 : RdAt cR H3 r l e rs) (B3 : BCur cB H3 b lw sh (shortW sh ++ acc.reverse.flatMap pieceWords ++ [w0.text]) (tot (lens (evsOf [] acc.reverse)))) (t3 : H3 tl = some (.lst ((as ++ [tp]).map V.ref))) :
    BarLoop cR cB cE H r l ev b lw tl e sh evs res H3 (.opens x.1 x.2 :: acc) rs := by
  have okp := tup_piece (st := stOf acc) hx (by omega)
  have ew : pieceWords (.opens x.1 x.2) = [w0.text] := by
    obtain ⟨e1, _⟩ := cTup_iff (n := x.1) (m := x.2).mp hx
    rw [e1]; rfl
  have es : stOf (.opens x.1 x.2 :: acc) = x :: stOf acc := by rw [stOf_cons]; rfl
  have ee : evsOf [] (.opens x.1 x.2 :: acc).reverse = evsOf [] acc.reverse := by rw [evs_snoc]; show _ ++ [] = _; rw [List.append_nil]
  obtain ⟨eas, e1, e2⟩ := h.evl
  obtain ⟨tas, t1, t2⟩ := h.tup
  have eta : tas = as := by
    rw [ht] at t1
    have := HO.lst.inj (Option.some.inj t1)
    have := congrArg (List.map unref) this
    rw [List.map_map, List.map_map] at this
    have e0 : (unref ∘ V.ref) = id := rfl
    rw [e0, List.map_id, List.map_id] at this
    exact this.symm
  subst eta
  have tupK : ∀ c xs, H1 c = some (.tup xs) → c ∉ [r, lw, tl] := fun c xs hc => by
    obtain ⟨dx, ws, i, g1, _⟩ := h.rd
    simp only [List.mem_cons, List.not_mem_nil, or_false, not_or]
    exact ⟨ne_of hc g1 (by intro z; cases z), ne_of hc h.bar.2 (by intro z; cases z), ne_of hc ht (by intro z; cases z)⟩
  have evr : ev ≠ r := by
    obtain ⟨dx, ws, i, g1, _⟩ := h.rd
    exact ne_of e1 g1 (by intro z; cases z)
  have hc1 := h.c1
  have hc2 := h.c2
  rw [List.length_cons] at hc1 hc2
  refine ⟨?_, R3, ?_, ?_, ?_, ok_cons h.ok okp, fun _ z => (by cases z), fun _ => (by rw [es]; simp), ?_, ?_, ?_⟩
  · intro c o hc hm
    refine b3 _ _ (h.but _ _ hc hm) ?_
    simp only [List.mem_cons, List.not_mem_nil, or_false, not_or] at hm ⊢
    exact ⟨hm.1, ne_of_none hc ap.hw, ne_of_none hc ap.ht⟩
  · rw [words_snoc, ew, ee, ← List.append_assoc]; exact B3
  · rw [es, List.reverse_cons]
    exact ⟨_, t3, (t2.imp fun a y hy => b3 _ _ hy (tupK _ _ hy)).snoc (b3 _ _ hp (tupK _ _ hp))⟩
  · rw [ee]
    exact ⟨eas, b3 _ _ e1 (by simp [evr, ap.ew, ap.et]), e2.imp fun a y hy => hy.keep h.lists (h.off (by simp)) b3⟩
  · rw [words_snoc, ew, List.length_append, List.length_cons, List.length_nil]; omega
  · rw [ee]; omega
  · rw [← h.eq, pcs_open hx hd]
theorem BarLoop.closed {w0 : Word} (h : BarLoop cR cB cE H r l ev b lw tl e sh evs res H1 acc (w0 :: rs)) (ap : Apart H r l ev b lw tl) (hx : w0.text = [125]) (hd : 0 < (stOf acc).length) (ha : afterOpen acc = false) {as : List Addr}
    (ht : H1 tl = some (.lst (as.map V.ref))) (b3 : But [r, lw, tl] H1 H3) (R3 : RdAt cR H3 r l e rs) (B3 : BCur cB H3 b lw sh (shortW sh ++ acc.reverse.flatMap pieceWords ++ [w0.text]) (tot (lens (evsOf [] acc.reverse)))) (t3 : H3 tl = some (.lst (as.map V.ref).dropLast)) :
    BarLoop cR cB cE H r l ev b lw tl e sh evs res H3 (.closes :: acc) rs := by
  have ew : pieceWords .closes = [w0.text] := by rw [hx]; rfl
  have es : stOf (.closes :: acc) = (stOf acc).drop 1 := by rw [stOf_cons]; rfl
  have ee : evsOf [] (.closes :: acc).reverse = evsOf [] acc.reverse := by rw [evs_snoc]; show _ ++ [] = _; rw [List.append_nil]
  obtain ⟨eas, e1, e2⟩ := h.evl
  obtain ⟨tas, t1, t2⟩ := h.tup
  have eta : tas = as := by
    rw [ht] at t1
    have := HO.lst.inj (Option.some.inj t1)
    have := congrArg (List.map unref) this
    rw [List.map_map, List.map_map] at this
    have e0 : (unref ∘ V.ref) = id := rfl
    rw [e0, List.map_id, List.map_id] at this
    exact this.symm
  subst eta
  have tupK : ∀ c xs, H1 c = some (.tup xs) → c ∉ [r, lw, tl] := fun c xs hc => by
    obtain ⟨dx, ws, i, g1, _⟩ := h.rd
    simp only [List.mem_cons, List.not_mem_nil, or_false, not_or]
    exact ⟨ne_of hc g1 (by intro z; cases z), ne_of hc h.bar.2 (by intro z; cases z), ne_of hc ht (by intro z; cases z)⟩
  have evr : ev ≠ r := by
    obtain ⟨dx, ws, i, g1, _⟩ := h.rd
    exact ne_of e1 g1 (by intro z; cases z)
  have hc1 := h.c1
  have hc2 := h.c2
  rw [List.length_cons] at hc1 hc2
  have hne : acc ≠ [] := h.a1 (by intro z; rw [z] at hd; simp at hd)
  refine ⟨?_, R3, ?_, ?_, ?_, ok_cons h.ok (show PieceOk (stOf acc) .closes from trivial), fun _ z => (by cases z), fun z => (by cases z), ?_, ?_, ?_⟩
  · intro c o hc hm
    refine b3 _ _ (h.but _ _ hc hm) ?_
    simp only [List.mem_cons, List.not_mem_nil, or_false, not_or] at hm ⊢
    exact ⟨hm.1, ne_of_none hc ap.hw, ne_of_none hc ap.ht⟩
  · rw [words_snoc, ew, ee, ← List.append_assoc]; exact B3
  · have er : ((stOf acc).drop 1).reverse = (stOf acc).reverse.dropLast := by
      cases stOf acc with
      | nil => rfl
      | cons a l => rw [List.reverse_cons, List.dropLast_concat]; rfl
    rw [es, er]
    refine ⟨tas.dropLast, by rw [t3, List.map_dropLast], (t2.imp fun a y hy => b3 _ _ hy (tupK _ _ hy)).dropLast⟩
  · rw [ee]
    exact ⟨eas, b3 _ _ e1 (by simp [evr, ap.ew, ap.et]), e2.imp fun a y hy => hy.keep h.lists (h.off (by simp)) b3⟩
  · rw [words_snoc, ew, List.length_append, List.length_cons, List.length_nil]; omega
  · rw [ee]; omega
  · rw [← h.eq, pcs_close hx hd ha]
end
end Sco
namespace Sco
open PySem PySem.Spec PyProof.Rows L2 Sx62
theorem event_ok {e : Nat} {l : List Word} {x : Piece} {rest : List Word} {st : List (Nat × Nat)} (h : eventFrom e l = .ok (x, rest)) : PieceOk st x := by
  cases l with
  | nil => cases h
  | cons w l =>
    by_cases h0 : w.text = [91]
    · rw [ev_chord h0] at h
      exact chord_piece h
    · rw [ev_note h0] at h
      cases e1 : cNote w.text with
      | none => rw [e1] at h; cases h
      | some y =>
        rw [e1] at h
        injection h with h
        injection h with h1 h2
        subst h1
        exact note_piece e1
section
variable {cR cB cE r l ev b lw tl : Addr} {H H1 H2 H3 H5 : Hp} {e : Nat} {sh : Bool} {evs : List Ev} {res : R (List Piece × Nat × List Word)} {acc : List Piece} {rs : List Word}
theorem BarLoop.noted {w0 : Word} {rs' : List Word} (h : BarLoop cR cB cE H r l ev b lw tl e sh evs res H1 acc (w0 :: rs)) (ap : Apart H r l ev b lw tl) (nbr : b ≠ r) (nwr : lw ≠ r) (nwb : lw ≠ b) (nlb : l ≠ b)
    (h1 : cTup w0.text = none) (h4 : ¬ (w0.text = [124] ∧ stOf acc = [] ∧ acc ≠ [])) (h5 : ¬ (w0.text = [125] ∧ 0 < (stOf acc).length ∧ afterOpen acc = false)) {x : Piece} (hev : eventFrom e (w0 :: rs) = .ok (x, rs'))
    (b3 : But [r, lw] H1 H3) (R3 : RdAt cR H3 r l e rs') {a : Addr} {ne : Ev} (es : evStep (stOf acc) x = [ne]) (hn : EvNew H1 cE H3 a ne) (B3 : BCur cB H3 b lw sh (shortW sh ++ acc.reverse.flatMap pieceWords ++ pieceWords x) (tot (lens (evsOf [] acc.reverse))))
    {eas : List Addr} {dxb : Addr} (he : H1 ev = some (.lst (eas.map V.ref))) (b5 : But [b, ev] H3 H5) (bar5 : H5 b = some (.ins cB dxb (bF (.bl sh) (.ref lw) (.int ((tot (lens (evsOf [] acc.reverse)) + ne.len : Nat) : Int)) (.int 0)))) (ev5 : H5 ev = some (.lst ((eas ++ [a]).map V.ref))) :
    BarLoop cR cB cE H r l ev b lw tl e sh evs res H5 (x :: acc) rs' := by
  obtain ⟨cnt, p, ps, k, d, t, rfl⟩ := event_count hev
  have ee : evsOf [] (Piece.note p ps k d t :: acc).reverse = evsOf [] acc.reverse ++ [ne] := by rw [evs_snoc, es]
  have est : stOf (Piece.note p ps k d t :: acc) = stOf acc := by rw [stOf_cons]; rfl
  obtain ⟨eas', e1, e2⟩ := h.evl
  have eta : eas' = eas := by
    rw [he] at e1
    have := HO.lst.inj (Option.some.inj e1)
    have := congrArg (List.map unref) this
    rw [List.map_map, List.map_map] at this
    have e0 : (unref ∘ V.ref) = id := rfl
    rw [e0, List.map_id, List.map_id] at this
    exact this.symm
  subst eta
  obtain ⟨tas, t1, t2⟩ := h.tup
  obtain ⟨dxr, wsr, ir, g1, _⟩ := h.rd
  have evr : ev ≠ r := ne_of e1 g1 (by intro z; cases z)
  have evb : ev ≠ b := by
    obtain ⟨⟨dx, q⟩, _⟩ := h.bar
    exact ne_of e1 q (by intro z; cases z)
  have tlr : tl ≠ r := ne_of t1 g1 (by intro z; cases z)
  have tlb : tl ≠ b := by
    obtain ⟨⟨dx, q⟩, _⟩ := h.bar
    exact ne_of t1 q (by intro z; cases z)
  have lists3 : ∀ c ∈ [ev, lw, tl], ∃ xs, H3 c = some (.lst xs) := by
    intro c hc
    simp only [List.mem_cons, List.not_mem_nil, or_false] at hc
    rcases hc with rfl | rfl | rfl
    · exact ⟨_, b3 _ _ e1 (by simp [evr, ap.ew])⟩
    · exact ⟨_, B3.2⟩
    · exact ⟨_, b3 _ _ t1 (by simp [tlr, ap.tw])⟩
  have off3 : Off [ev, lw, tl] H3 [b, ev] := by
    intro c hc
    simp only [List.mem_cons, List.not_mem_nil, or_false] at hc
    rcases hc with rfl | rfl
    · obtain ⟨⟨dx, q⟩, _⟩ := B3
      exact .inr (.inl ⟨_, _, _, q, bF_pitches⟩)
    · exact .inl (by simp)
  have tup5 : ∀ c xs, H1 c = some (.tup xs) → H5 c = some (.tup xs) := fun c xs hc => by
    have h3 := b3 _ _ hc (by
      simp only [List.mem_cons, List.not_mem_nil, or_false, not_or]
      exact ⟨ne_of hc g1 (by intro z; cases z), ne_of hc h.bar.2 (by intro z; cases z)⟩)
    refine b5 _ _ h3 ?_
    obtain ⟨⟨dx, q⟩, _⟩ := h.bar
    simp only [List.mem_cons, List.not_mem_nil, or_false, not_or]
    exact ⟨ne_of hc q (by intro z; cases z), ne_of hc e1 (by intro z; cases z)⟩
  have hc1 := h.c1
  have hc2 := h.c2
  have pw : 1 ≤ (pieceWords (.note p ps k d t)).length := List.length_pos_iff.mpr (pieceWords_ne _)
  refine ⟨?_, ?_, ?_, ?_, ?_, ok_cons h.ok (event_ok hev), fun _ z => (by cases z), fun z => (by cases z), ?_, ?_, ?_⟩
  · intro c o hc hm
    have m1 := h.but _ _ hc hm
    simp only [List.mem_cons, List.not_mem_nil, or_false, not_or] at hm
    have m3 := b3 _ _ m1 (by
      simp only [List.mem_cons, List.not_mem_nil, or_false, not_or]
      exact ⟨hm.1, ne_of_none hc ap.hw⟩)
    refine b5 _ _ m3 ?_
    simp only [List.mem_cons, List.not_mem_nil, or_false, not_or]
    exact ⟨ne_of_none hc ap.hb, hm.2⟩
  · refine R3.keep b5 (by simp [Ne.symm nbr, Ne.symm evr]) (by simp [nlb, Ne.symm ap.le]) ?_
    intro c hc xs hx
    simp only [List.mem_cons, List.not_mem_nil, or_false] at hc
    rcases hc with rfl | rfl
    · obtain ⟨⟨dx, q⟩, _⟩ := B3
      rw [q] at hx; cases hx
    · rw [b3 _ _ e1 (by simp [evr, ap.ew])] at hx; cases hx
  · rw [words_snoc, ee, ← List.append_assoc]
    refine ⟨⟨dxb, ?_⟩, b5 _ _ B3.2 (by simp [nwb, Ne.symm ap.ew])⟩
    unfold lens
    rw [List.map_append, show ([ne].map (·.len)) = [ne.len] from rfl, tot_snoc]
    exact bar5
  · rw [est]
    exact ⟨tas, b5 _ _ (b3 _ _ t1 (by simp [tlr, ap.tw])) (by simp [tlb, Ne.symm ap.et]), t2.imp fun c y hy => tup5 _ _ hy⟩
  · rw [ee, ← List.append_assoc]
    refine ⟨_, ev5, AllAt.snoc (e2.imp fun c y hy => ?_) ?_⟩
    · exact (hy.keep h.lists (h.off (by simp)) b3).keep lists3 off3 b5
    · obtain ⟨dx, q, nq, q1, q2⟩ := hn
      have hq : EvAtX [ev, lw, tl] cE H3 a ne := by
        refine ⟨dx, q, ?_, q1, q2⟩
        simp only [List.mem_cons, List.not_mem_nil, or_false, not_or]
        exact ⟨fun z => (by rw [z, e1] at nq; cases nq), fun z => (by rw [z, h.bar.2] at nq; cases nq), fun z => (by rw [z, t1] at nq; cases nq)⟩
      exact hq.keep lists3 off3 b5
  · rw [words_snoc, List.length_append]; omega
  · rw [ee, List.length_append, List.length_cons, List.length_nil]
    rw [List.length_cons] at cnt hc2
    omega
  · rw [← h.eq, pcs_event h1 h4 h5, hev]
end
end Sco
namespace Sco
open PySem PySem.Spec PyProof.Rows L2 Sx62
section
variable {P : Program} {w : World} {K : PySem.W.Frag} {mg : Str → Option Value} {base : Heap}
/-- a bar whose list of words is new -/
def BarNew (H0 : Hp) (C : Addr) (H : Hp) (a : Addr) (b : Bar) : Prop := ∃ dx l, H0 l = none ∧ H a = some (.ins C dx (bF (.bl b.short) (.ref l) (.int (barLen b)) (.int b.place))) ∧ H l = some (.lst (txs (barWords b)))
def spReadBar (cR cF cB cE : Addr) : Sp := fun vs H Q E => ∃ (r l ev : Addr) (e : Nat) (rest : List Word) (evs : List Ev), vs = [.ref r, .ref ev] ∧ RdAt cR H r l e rest ∧ ListAt (EvAtX [ev] cE) H ev evs ∧ ev ≠ l ∧ evs.length + rest.length ≤ 2900 ∧
  Reads cR cF [r, ev] H r l e (readBar e rest) (fun H' v b => ∃ a, v = .ref a ∧ BarNew H cB H' a b ∧ ListAt (EvAtX [ev] cE) H' ev (evs ++ barEvs b)) Q E
theorem sc_readBar : FnScope ["reader", "events", "bar", "tuplets", "bare", "tuplet", "event"] ["reader", "events"] (defScope (top 58)) := ⟨rfl, rfl, rfl, by decide +kernel, rfl, by decide +kernel, by decide +kernel⟩
theorem bi_readBar (D : DefAt K mg "read_bar" (top 58)) : Binds K D.fd ["reader", "events"] [] := D.F.binds fun _ _ _ _ _ _ us hl => match us, hl with | [_, _], _ => rfl
theorem ok_readBar (T : Tx w K mg) : FnOk P w K mg base (L2.CX P w) 7 T.f_read_bar.f T.f_read_bar.fd ["reader", "events"] (spReadBar T.c_Reader T.c_Fault T.c_Bar T.c_Event) := by
  have GL : FnOk P w K mg base CX0 1 _ _ _ (spLook T.c_Reader) := ok_look T
  have GW : FnOk P w K mg base CX0 1 _ _ _ (spWhere T.c_Reader) := ok_where T
  have GT : FnOk P w K mg base (L2.CX P w) 3 _ _ _ (spTake T.c_Reader T.c_Fault) := ok_take T
  have GE : FnOk P w K mg base (L2.CX P w) 6 _ _ _ (spEvent T.c_Reader T.c_Fault T.c_Bar T.c_Event) := ok_revent T
  have GB : FnOk P w K mg base (L2.CX P w) 4 _ _ _ (spBegin T.c_Reader T.c_Fault T.c_Bar) := ok_begin T
  have GU : FnOk P w K mg base CX0 2 _ _ _ spTupOf := ok_tupOf T
  have GM : FnOk P w K mg base CX0 1 _ _ _ (spBar T.c_Bar) := ok_bar T
  refine T.f_read_bar.F.okX sc_readBar (fun vs H Q E h => ?_) (fun cdv A outer s H vs Q E hr h => ?_)
  · obtain ⟨r, l, ev, e, rest, evs, rfl, _⟩ := h
    rfl
  · obtain ⟨r, l, ev, e, rest, evs, rfl, hR, hEv, nev, hcnt, kF, kS⟩ := h
    have hr1 : Room 1 _ := hr.mono (by decide)
    have hr2 : Room 2 _ := hr.mono (by decide)
    have hr3 : Room 3 _ := hr.mono (by decide)
    have hr4 : Room 4 _ := hr.mono (by decide)
    refine ⟨_, pss_cons (ps_set (i := 2) sc_readBar.nd rfl (Or.inl rfl) (pe_make T.i_Bar.M GM hr2 rfl T.g_Bar (bi_bar _) .nil pass0 (pa_cons (pe_cmpR op_eq (pe_meth0 (pv 0) T.cl_Reader T.m_Reader_look.M GL hr1 (bi_look _) .nil pass0) pe_str (nomark _)) pa_nil)))
      (pss_mid (ps_if (pt_val (pe_fld (pv 2) rfl)) (pss_one (ps_expr (pe_meth (pv 0) T.cl_Reader T.m_Reader_take.M GT hr3 (bi_take _) .nil (passes_call (W := fun cls d _ H => E cls d H) (takes_of rfl rfl rfl rfl) (fun _ _ _ _ h => h)) (pa_cons pe_bl pa_nil)))) pss_nil)
      (pss_cons (ps_set (i := 3) sc_readBar.nd rfl (Or.inl rfl) (pe_lst pa_nil))
      (pss_cons (ps_set (i := 4) sc_readBar.nd rfl (Or.inl rfl) pe_bl)
      (pss_cons (ps_while (passes_of rfl) (pt_join (PW.pt (pw_or (pt_val (pv 4)) (pw_or (pt_truth (pv 3) (by intro _; rfl)) (pw_or1 (pt_cmpR op_ne (pe_meth0 (pv 0) T.cl_Reader T.m_Reader_look.M GL hr1 (bi_look _) .nil pass0) pe_str (nomark _)))))))
        (pss_cons (ps_set (i := 5) sc_readBar.nd rfl (Or.inl rfl) (pe_call GU hr2 rfl T.f_tuplet_of.g T.f_tuplet_of.F.kp (bi_tupOf _) .nil pass0 (pa_cons (pe_meth0 (pv 0) T.cl_Reader T.m_Reader_look.M GL hr1 (bi_look _) .nil pass0) pa_nil)))
        (pss_one (ps_if (pt_cmpR op_notN (pv 5) pe_non (nomark _))
          (pss_cons (ps_expr (pe_call GB hr4 rfl T.f_begin_tuplet.g T.f_begin_tuplet.F.kp (bi_begin _) .nil (passes_call (W := fun cls d _ H => E cls d H) (takes_of rfl rfl rfl rfl) (fun _ _ _ _ h => h)) (pa_cons (pv 0) (pa_cons (pv 2) (pa_cons (pv 3) (pa_cons (pv 5) pa_nil))))))
            (pss_one (ps_set (i := 4) sc_readBar.nd rfl (Or.inl rfl) pe_bl)))
          (pss_one (ps_if (pt_join (PW.pt (pw_and (pt_cmpR op_eq (pe_meth0 (pv 0) T.cl_Reader T.m_Reader_look.M GL hr1 (bi_look _) .nil pass0) pe_str (nomark _)) (pw_and (pt_truth (pv 3) (by intro _; rfl)) (pw_and1 (pt_not (pt_val (pv 4))))))))
            (pss_cons (ps_expr (pe_bm PySem.F.plainAttrs_list PySem.F.slot_list_append PySem.F.type_list_append mt_append (pe_fld (pv 2) rfl)
                (pa_cons (pe_meth (pv 0) T.cl_Reader T.m_Reader_take.M GT hr3 (bi_take _) .nil (passes_call (W := fun cls d _ H => E cls d H) (takes_of rfl rfl rfl rfl) (fun _ _ _ _ h => h)) (pa_cons pe_bl pa_nil)) pa_nil)))
              (pss_one (ps_expr (pe_bm0 PySem.F.plainAttrs_list PySem.F.slot_list_pop PySem.F.type_list_pop mt_pop (pv 3)))))
            (pss_cons (ps_set (i := 6) sc_readBar.nd rfl (Or.inl rfl) (pe_call GE hr rfl T.f_read_event.g T.f_read_event.F.kp (bi_revent _) .nil (passes_call (W := fun cls d _ H => E cls d H) (takes_of rfl rfl rfl rfl) (fun _ _ _ _ h => h)) (pa_cons (pv 0) (pa_cons (pv 2) (pa_cons (pv 3) pa_nil)))))
            (pss_cons (ps_fldaug (pv 2) (pe_fld (pv 6) rfl) in_add)
            (pss_cons (ps_expr (pe_bm PySem.F.plainAttrs_list PySem.F.slot_list_append PySem.F.type_list_append mt_append (pv 1) (pa_cons (pv 6) pa_nil)))
            (pss_one (ps_set (i := 4) sc_readBar.nd rfl (Or.inl rfl) pe_bl)))))))))))
      (pss_cons (ps_fld (pv 2) (pe_meth0 (pv 0) T.cl_Reader T.m_Reader_where.M GW hr1 (bi_where _) .nil pass0) rfl)
      (pss_cons (ps_expr (pe_bm PySem.F.plainAttrs_list PySem.F.slot_list_append PySem.F.type_list_append mt_append (pe_fld (pv 2) rfl)
        (pa_cons (pe_meth (pv 0) T.cl_Reader T.m_Reader_take.M GT hr3 (bi_take _) .nil (passes_call (W := fun cls d _ H => E cls d H) (takes_of rfl rfl rfl rfl) (fun _ _ _ _ h => h)) (pa_cons pe_bl pa_nil)) pa_nil)))
      (pss_one (ps_ret (pv 2))))))))), ?_⟩
    obtain ⟨dx, fs, i1, i2, i3, i4⟩ := hR.ins
    refine ⟨_, rfl, r, dx, fs, rfl, i1, i2, r, l, e, rest, rfl, hR, rfl, fun b dxb nb ndb nbd => ?_⟩
    rw [st_short, dec_str]
    generalize hsh : decide (lkW rest = SHORT) = sh
    refine ⟨b, dxb, sh, rfl, upd_same, fun H1 lw hb1 nlw hw1 hk1 => ⟨rfl, ?_⟩⟩
    have s1 : Same H H1 := Same.made nb ndb hk1
    have nwb : lw ≠ b := fun z => by rw [z, upd_same] at nlw; cases nlw
    have nwH : H lw = none := by
      rw [upd_ne nwb] at nlw
      by_cases z : lw = dxb
      · rw [z]; exact ndb
      · rw [upd_ne z] at nlw; exact nlw
    have R1 := hR.same s1
    have B1 : BCur T.c_Bar H1 b lw sh (shortW sh) 0 := ⟨⟨dxb, hb1⟩, hw1⟩
    obtain ⟨nbr, nwr, _, nlb, nlr⟩ := rd_ne R1 B1
    obtain ⟨eas0, he0, hea0⟩ := hEv
    have new : ev ≠ lw := ne_of_none he0 nwH
    have neb : ev ≠ b := ne_of_none he0 nb
    have ner : ev ≠ r := ne_of he0 i1 (by intro z; cases z)
    have nlw' : l ≠ lw := by
      obtain ⟨_, _, _, _, ⟨_, q, _⟩, _⟩ := hR
      exact ne_of_none q nwH
    -- perhaps "short"
    refine ⟨fun σ' H2 => ∃ rs0, σ' = [some (.ref r), some (.ref ev), some (.ref b), none, none, none, none] ∧ But [r] H1 H2 ∧ RdAt T.c_Reader H2 r l e rs0 ∧ rs0.length ≤ rest.length ∧ (shortW sh).length ≤ 1 ∧
      readBar e rest = (match pcs e [] rs0 with | .error x => .error x | .ok x => .ok (⟨x.2.1, sh, x.1⟩, x.2.2)), ?_, ?_⟩
    · refine ⟨_, rfl, b, _, dxb, _, _, rfl, hb1, T.cl_Bar, T.n_Bar_short, bF_short, _, rfl, ?_⟩
      cases sh with
      | true =>
        have h0 : lkW rest = SHORT := of_decide_eq_true hsh
        obtain ⟨w0, rs, rfl, hw⟩ := lk_ne hR.ok (by rw [h0]; decide)
        have hw0 : w0.text = SHORT := hw.symm.trans h0
        obtain ⟨dx1, fs1, j1, j2, j3, j4⟩ := R1.ins
        refine if_t rfl ⟨_, rfl, r, dx1, fs1, rfl, j1, j4, r, l, e, _, true, rfl, R1, fun z => Bool.noConfusion z, fun _ => ⟨w0, rs, rfl, fun H2 R2 b2 => ⟨rs, rfl, b2, R2, Nat.le_succ _, Nat.le_refl _, ?_⟩⟩⟩
        rw [readBar_pcs, if_pos hw0, show (w0.text == SHORT) = true from beq_iff_eq.mpr hw0] <;> rfl
      | false =>
        have h0 : ¬ lkW rest = SHORT := of_decide_eq_false hsh
        refine if_f rfl ⟨rest, rfl, But.refl, R1, Nat.le_refl _, by decide, ?_⟩
        cases rest with
        | nil => rfl
        | cons w0 rs =>
          have h0' : ¬ w0.text = SHORT := h0
          rw [readBar_pcs, if_neg h0', show (w0.text == SHORT) = false from beq_eq_false_iff_ne.mpr h0'] <;> rfl
    · rintro σ' H2 ⟨rs0, rfl, b2, R2, hl0, hsw, hrb⟩
      -- the tuplets
      refine ⟨Nat.zero_le _, fun tl ntl => ?_⟩
      have f1 : H2 b = _ := b2 _ _ hb1 (by simpa using nbr)
      have f2 : H2 lw = _ := b2 _ _ hw1 (by simpa using nwr)
      have f3 : H2 ev = _ := b2 _ _ (s1 _ _ he0) (by simpa using ner)
      have ntw : tl ≠ lw := fun z => by rw [z, f2] at ntl; cases ntl
      have ntb : tl ≠ b := fun z => by rw [z, f1] at ntl; cases ntl
      have nte : ev ≠ tl := fun z => by rw [← z, f3] at ntl; cases ntl
      have ntr : tl ≠ r := fun z => by
        obtain ⟨_, _, q, _⟩ := R2.ins
        rw [z, q] at ntl; cases ntl
      have nlt : l ≠ tl := fun z => by
        obtain ⟨_, _, _, _, ⟨_, q, _⟩, _⟩ := R2
        rw [z, ntl] at q; cases q
      have ntH : H tl = none := by
        cases z : H tl with
        | none => rfl
        | some o => rw [b2 _ _ (s1 _ _ z) (by simpa using ntr)] at ntl; cases ntl
      have ap : Apart H r l ev b lw tl := ⟨ntw, new, nte, nlw', nlt, nev, nb, nwH, ntH⟩
      have L0 : BarLoop T.c_Reader T.c_Bar T.c_Event H r l ev b lw tl e sh evs (pcs e [] rs0) (upd H2 tl (.lst [])) [] rs0 := by
        refine ⟨?_, R2.same (same_new ntl), ⟨⟨dxb, ?_⟩, ?_⟩, ⟨[], upd_same, .nil⟩, ⟨eas0, ?_, ?_⟩, trivial, fun z => absurd rfl z, fun z => (by cases z), ?_, ?_, rfl⟩
        · intro c o hc hm
          simp only [List.mem_cons, List.not_mem_nil, or_false, not_or] at hm
          rw [upd_ne (ne_of_none hc ntH)]
          exact b2 _ _ (s1 _ _ hc) (by simpa using hm.1)
        · exact (upd_ne (Ne.symm ntb)).trans f1
        · rw [upd_ne (Ne.symm ntw), f2]; simp
        · rw [upd_ne nte]; exact f3
        · rw [show evs ++ evsOf [] ([] : List Piece).reverse = evs from List.append_nil _]
          refine hea0.imp fun a y hy => ?_
          obtain ⟨dxe, q, nq, q1, ⟨pas, q2, q3⟩⟩ := hy
          have kp : ∀ c o, H c = some o → c ≠ r → upd H2 tl (.lst []) c = some o := fun c o hc hm => by
            rw [upd_ne (ne_of_none hc ntH)]
            exact b2 _ _ (s1 _ _ hc) (by simpa using hm)
          refine ⟨dxe, q, ?_, kp _ _ q1 (ne_of q1 i1 ?_), pas, kp _ _ q2 (ne_of q2 i1 (by intro z; cases z)), q3.imp fun c z hz => kp _ _ hz (ne_of hz i1 (by intro z; cases z))⟩
          · simp only [List.mem_cons, List.not_mem_nil, or_false, not_or] at nq ⊢
            exact ⟨nq, ne_of_none q2 nwH, ne_of_none q2 ntH⟩
          · intro z
            injection z with _ _ z3
            obtain ⟨_, _, _, g1, _⟩ := hR
            rw [i1] at g1
            injection g1 with g1
            injection g1 with _ _ g3
            rw [g3] at z3
            exact absurd (show 4 = 2 from congrArg List.length z3) (by decide)
        · show 0 + rs0.length ≤ 2900
          omega
        · show evs.length + 0 + rs0.length ≤ 3000
          omega
      generalize upd H2 tl (.lst []) = H3 at L0
      refine ⟨fun m σ' H' => ∃ (acc : List Piece) (rs : List Word) (x5 x6 : Option V), σ' = [some (.ref r), some (.ref ev), some (.ref b), some (.ref tl), some (.bl (acc.isEmpty || afterOpen acc)), x5, x6] ∧
        BarLoop T.c_Reader T.c_Bar T.c_Event H r l ev b lw tl e sh evs (pcs e [] rs0) H' acc rs ∧ m = rs.length, ⟨_, [], rs0, none, none, rfl, L0, rfl⟩, ?_⟩
      rintro m σ' H1' ⟨acc, rs, x5, x6, rfl, L, rfl⟩
      obtain ⟨dx1, fs1, j1, j2, j3, j4⟩ := L.rd.ins
      obtain ⟨tas, tl1, tl2⟩ := L.tup
      have htas : tas.length = (stOf acc).length := by rw [tl2.length, List.length_reverse]
      refine ⟨fun bb Hx => Hx = H1' ∧ bb = !(!(acc.isEmpty || afterOpen acc) && (stOf acc).isEmpty && decide (lkW rs = [124])), ?_, ?_⟩
      · refine ⟨_, rfl, _, rfl, ?_⟩
        cases hbare : (acc.isEmpty || afterOpen acc) with
        | true => exact if_t rfl ⟨rfl, rfl⟩
        | false =>
          refine if_f rfl ⟨_, rfl, _, .inl ⟨_, SqL.of tl1, rfl⟩, ?_⟩
          have hte : (tas.map V.ref).isEmpty = (stOf acc).isEmpty := by
            cases h1 : tas with
            | nil => rw [h1] at htas; rw [List.length_eq_zero_iff.mp htas.symm]; rfl
            | cons a t =>
              rw [h1] at htas
              cases h2 : stOf acc with
              | nil => rw [h2] at htas; simp at htas
              | cons _ _ => rfl
          rw [hte]
          cases hst : (stOf acc).isEmpty with
          | false => exact if_t rfl ⟨rfl, rfl⟩
          | true =>
            refine if_f rfl ⟨_, rfl, r, dx1, fs1, rfl, j1, j2, r, l, e, rs, rfl, L.rd, rfl, _, rfl, ?_⟩
            rw [st_bar, dec_str]
            exact ⟨rfl, rfl⟩
      · rintro bb Hx ⟨rfl, rfl⟩
        have hB := L.bar
        obtain ⟨⟨dxb', hb'⟩, hw'⟩ := hB
        have hwl : (shortW sh ++ acc.reverse.flatMap pieceWords).length ≤ 3000 := by
          rw [List.length_append]
          have := L.c1
          omega
        cases hc : (!(acc.isEmpty || afterOpen acc) && (stOf acc).isEmpty && decide (lkW rs = [124])) with
        | true =>
          -- the bar's end
          simp only [Bool.and_eq_true, Bool.not_eq_true', Bool.or_eq_false_iff, decide_eq_true_eq, List.isEmpty_iff] at hc
          obtain ⟨⟨⟨hc1, hc2⟩, hc3⟩, hc4⟩ := hc
          have hne : acc ≠ [] := fun z => by rw [z] at hc1; cases hc1
          obtain ⟨w0, rs1, rfl, hw⟩ := lk_ne L.rd.ok (by rw [hc4]; decide)
          have hw0 : w0.text = [124] := hw.symm.trans hc4
          have hp : pcs e [] rs0 = .ok (acc.reverse, w0.place, rs1) := by rw [← L.eq, pcs_bar hw0 hc3 hne]
          rw [hp] at hrb
          refine if_f rfl ⟨_, rfl, r, dx1, fs1, rfl, j1, j3, r, l, e, _, rfl, L.rd, _, rfl, b, _, dxb', _, rfl, hb', T.cl_Bar, T.n_Bar_place, (by show 4 < 1000; decide), ?_⟩
          rw [bF_putP]
          have R4 : RdAt T.c_Reader (upd Hx b (.ins T.c_Bar dxb' (bF (.bl sh) (.ref lw) (.int (tot (lens (evsOf [] acc.reverse)))) (.int (whW e (w0 :: rs1)))))) r l e (w0 :: rs1) :=
            L.rd.keep (M := [b]) (But.upd (by simp)) (by simpa using Ne.symm nbr) (by simpa using nlb) (fun a ha xs hx => by rw [List.mem_singleton.mp ha, hb'] at hx; cases hx)
          have g4 : upd Hx b (.ins T.c_Bar dxb' (bF (.bl sh) (.ref lw) (.int (tot (lens (evsOf [] acc.reverse)))) (.int (whW e (w0 :: rs1))))) b = some _ := upd_same
          have w4 : upd Hx b (.ins T.c_Bar dxb' (bF (.bl sh) (.ref lw) (.int (tot (lens (evsOf [] acc.reverse)))) (.int (whW e (w0 :: rs1))))) lw = _ := (upd_ne nwb).trans hw'
          have b4 : But [b] Hx (upd Hx b (.ins T.c_Bar dxb' (bF (.bl sh) (.ref lw) (.int (tot (lens (evsOf [] acc.reverse)))) (.int (whW e (w0 :: rs1)))))) := But.upd (by simp)
          generalize upd Hx b (.ins T.c_Bar dxb' (bF (.bl sh) (.ref lw) (.int (tot (lens (evsOf [] acc.reverse)))) (.int (whW e (w0 :: rs1))))) = H4 at R4 g4 w4 b4
          obtain ⟨dx4, fs4, k1, k2, k3, k4⟩ := R4.ins
          refine ⟨_, rfl, b, _, dxb', _, _, rfl, g4, T.cl_Bar, T.n_Bar_words, bF_words, .inl ⟨rfl, _, SqL.of w4⟩, _, rfl, r, dx4, fs4, rfl, k1, k4, r, l, e, _, true, rfl, R4, fun z => Bool.noConfusion z, fun _ => ⟨w0, rs1, rfl, fun H5 R5 b5 => ?_⟩⟩
          have g5 : H5 b = _ := b5 _ _ g4 (by simpa using nbr)
          have w5 : H5 lw = _ := b5 _ _ w4 (by simpa using nwr)
          refine ⟨lw, _, _, rfl, rfl, w5, by rw [txs_len]; exact size_lt (by omega), ?_⟩
          rw [txs_snoc]
          refine ⟨_, rfl, ?_⟩
          have b6 : But [b, r, lw] Hx (upd H5 lw (.lst (txs (shortW sh ++ acc.reverse.flatMap pieceWords ++ [w0.text])))) := (b4.weak (by simp)).trans ((b5.weak (by simp)).trans (But.upd (by simp)))
          obtain ⟨eas, q1, q2⟩ := L.evl
          refine kS ⟨w0.place, sh, acc.reverse⟩ rs1 hrb _ _ ?_ ?_ ⟨b, rfl, ⟨dxb', lw, nwH, (upd_ne (Ne.symm nwb)).trans g5, ?_⟩, eas, ?_, q2.imp fun a y hy => ?_⟩
          · intro c o hcc hm
            have m1 := L.but _ _ hcc hm
            simp only [List.mem_cons, List.not_mem_nil, or_false, not_or] at hm
            refine b6 _ _ m1 ?_
            simp only [List.mem_cons, List.not_mem_nil, or_false, not_or]
            exact ⟨ne_of_none hcc nb, hm.1, ne_of_none hcc nwH⟩
          · exact R5.keep (M := [lw]) (But.upd (by simp)) (by simpa using Ne.symm nwr) (by simpa using nlw') (fun a ha xs hx => by rw [List.mem_singleton.mp ha, w5] at hx; cases hx)
          · rw [upd_same, hw0]; rfl
          · exact b6 _ _ q1 (by simp [neb, ner, new])
          · obtain ⟨dxe, q, nq, y1, y2⟩ := hy.keep L.lists (L.off (by simp)) b6
            exact ⟨dxe, q, by simp only [List.mem_cons, List.not_mem_nil, or_false, not_or] at nq ⊢; exact nq.1, y1, y2⟩
        | false =>
          refine if_t rfl ⟨_, fun _ _ h => h, ?_⟩
          refine ⟨_, rfl, r, dx1, fs1, rfl, j1, j2, r, l, e, rs, rfl, L.rd, _, rfl, lk_wd L.rd.ok, ?_, ?_⟩
          · -- no tuplet begins
            intro en H4 s4
            have L4 := L.same s4
            obtain ⟨dx4, fs4, k1, k2, k3, k4⟩ := L4.rd.ins
            refine ⟨_, rfl, rfl, _, rfl, if_f rfl ?_⟩
            have hte : (tas.map V.ref).isEmpty = (stOf acc).isEmpty := by
              cases h1 : tas with
              | nil => rw [h1] at htas; rw [List.length_eq_zero_iff.mp htas.symm]; rfl
              | cons a t =>
                rw [h1] at htas
                cases h2 : stOf acc with
                | nil => rw [h2] at htas; simp at htas
                | cons _ _ => rfl
            refine ⟨fun bb Hy => Hy = H4 ∧ bb = (decide (lkW rs = [125]) && (!(stOf acc).isEmpty && !(acc.isEmpty || afterOpen acc))), ?_, ?_⟩
            · refine ⟨_, rfl, r, dx4, fs4, rfl, k1, k2, r, l, e, rs, rfl, L4.rd, rfl, _, rfl, ?_⟩
              rw [st_cl, dec_str]
              cases decide (lkW rs = [125]) with
              | false => exact if_f rfl ⟨rfl, rfl⟩
              | true =>
                refine if_t rfl ⟨_, rfl, _, .inl ⟨_, SqL.of (s4 _ _ tl1), rfl⟩, ?_⟩
                rw [hte]
                cases (stOf acc).isEmpty with
                | true => exact if_f rfl ⟨rfl, rfl⟩
                | false => exact if_t rfl ⟨_, rfl, _, rfl, rfl, rfl⟩
            · rintro bb Hy ⟨rfl, rfl⟩
              obtain ⟨⟨dxb4, hb4⟩, hw4⟩ := L4.bar
              have tl4 := s4 _ _ tl1
              have hrat := (stAfter_ok (l := acc.reverse) (st := []) (fun _ h => by cases h) (by decide) L4.ok).1
              cases hcl : (decide (lkW rs = [125]) && (!(stOf acc).isEmpty && !(acc.isEmpty || afterOpen acc))) with
              | true =>
                -- a tuplet ends
                simp only [Bool.and_eq_true, Bool.not_eq_true', Bool.or_eq_false_iff, decide_eq_true_eq] at hcl
                obtain ⟨hl1, hl2, hl3, hl4⟩ := hcl
                obtain ⟨w0, rs1, rfl, hw⟩ := lk_ne L4.rd.ok (by rw [hl1]; decide)
                have hw0 : w0.text = [125] := hw.symm.trans hl1
                have hpos : 0 < (stOf acc).length := by
                  cases h2 : stOf acc with
                  | nil => rw [h2] at hl2; cases hl2
                  | cons _ _ => simp
                refine if_t rfl ⟨_, rfl, b, _, dxb4, _, _, rfl, hb4, T.cl_Bar, T.n_Bar_words, bF_words, .inl ⟨rfl, _, SqL.of hw4⟩, _, rfl, r, dx4, fs4, rfl, k1, k4, r, l, e, _, true, rfl, L4.rd, fun z => Bool.noConfusion z, fun _ => ⟨w0, rs1, rfl, fun H5 R5 b5 => ?_⟩⟩
                have g5 : H5 b = _ := b5 _ _ hb4 (by simpa using nbr)
                have w5 : H5 lw = _ := b5 _ _ hw4 (by simpa using nwr)
                have t5 : H5 tl = _ := b5 _ _ tl4 (by simpa using ntr)
                refine ⟨lw, _, _, rfl, rfl, w5, by rw [txs_len]; exact size_lt (by omega), ?_⟩
                rw [txs_snoc]
                have hlt : (tas.map V.ref).length - 1 < (tas.map V.ref).length := by rw [List.length_map]; omega
                have t6 : upd H5 lw (.lst (txs (shortW sh ++ acc.reverse.flatMap pieceWords ++ [w0.text]))) tl = _ := (upd_ne ntw).trans t5
                refine ⟨_, rfl, .inl ⟨rfl, _, SqL.of t6⟩, tl, _, _, rfl, rfl, t6, List.getElem?_eq_getElem hlt, ?_⟩
                refine ⟨rs1.length, Nat.lt_succ_self _, .closes :: acc, rs1, some .non, x6, ?_, L4.closed ap hw0 hpos hl4 tl4 ?_ ?_ ⟨⟨dxb4, ?_⟩, ?_⟩ upd_same, rfl⟩
                · rw [hl3, hl4]; rfl
                · intro c o hcc hm
                  simp only [List.mem_cons, List.not_mem_nil, or_false, not_or] at hm
                  rw [upd_ne hm.2.2, upd_ne hm.2.1]
                  exact b5 _ _ hcc (by simpa using hm.1)
                · refine R5.keep (M := [lw, tl]) ?_ (by simp [Ne.symm nwr, Ne.symm ntr]) (by simp [nlw', nlt]) ?_
                  · intro c o hcc hm
                    simp only [List.mem_cons, List.not_mem_nil, or_false, not_or] at hm
                    rw [upd_ne hm.2, upd_ne hm.1]; exact hcc
                  · intro c hcc xs hx
                    simp only [List.mem_cons, List.not_mem_nil, or_false] at hcc
                    rcases hcc with rfl | rfl
                    · rw [w5] at hx; cases hx
                    · rw [t5] at hx; cases hx
                · rw [upd_ne (Ne.symm ntb), upd_ne (Ne.symm nwb)]; exact g5
                · rw [upd_ne (Ne.symm ntw)]; exact upd_same
              | false =>
                -- a note, a rest, a chord
                have hh : ∀ (w0 : Word) (rs1 : List Word), rs = w0 :: rs1 → cTup w0.text = none ∧ ¬ (w0.text = [124] ∧ stOf acc = [] ∧ acc ≠ []) ∧ ¬ (w0.text = [125] ∧ 0 < (stOf acc).length ∧ afterOpen acc = false) := by
                  rintro w0 rs1 rfl
                  refine ⟨en, fun z => ?_, fun z => ?_⟩
                  · have ha : afterOpen acc = false := by
                      cases y : afterOpen acc with
                      | false => rfl
                      | true => exact absurd z.2.1 (L4.a2 y)
                    have hb2 : acc.isEmpty = false := by
                      cases acc with
                      | nil => exact absurd rfl z.2.2
                      | cons _ _ => rfl
                    rw [ha, hb2, z.2.1, show lkW (w0 :: rs1) = [124] from z.1] at hc
                    exact absurd hc (by decide)
                  · have hne : acc ≠ [] := L4.a1 (by intro y; rw [y] at z; simp at z)
                    have hb2 : acc.isEmpty = false := by
                      cases acc with
                      | nil => exact absurd rfl hne
                      | cons _ _ => rfl
                    have hs2 : (stOf acc).isEmpty = false := by
                      cases y : stOf acc with
                      | nil => rw [y] at z; simp at z
                      | cons _ _ => rfl
                    rw [z.2.2, hb2, hs2, show lkW (w0 :: rs1) = [125] from z.1] at hcl
                    exact absurd hcl (by decide)
                refine if_f rfl ⟨_, rfl, _, rfl, _, rfl, r, l, b, lw, tl, e, rs, sh, _, _, (stOf acc).reverse, rfl, L4.rd, L4.bar, L4.tup, fun t ht => hrat t (List.mem_reverse.mp ht), ntw, hwl, nlw', fun f hf => ?_, ?_⟩
                · refine (kF f ?_).but L4.but (fun x hx => ?_)
                  · rw [hrb, ← L4.eq]
                    cases rs with
                    | nil =>
                      rw [pcs_nil]
                      injection hf with hf
                      rw [← hf]; rfl
                    | cons w0 rs1 =>
                      obtain ⟨q1, q2, q3⟩ := hh w0 rs1 rfl
                      rw [pcs_event q1 q2 q3, hf]
                  · simp only [List.mem_cons, List.not_mem_nil, or_false] at hx
                    rcases hx with rfl | rfl
                    · exact .inl (by simp)
                    · exact .inr nwH
                · rintro x rs' hx H5 v b5 R5 ⟨a, ne, rfl, es, hn, B5⟩
                  rw [List.reverse_reverse] at es
                  cases rs with
                  | nil => cases hx
                  | cons w0 rs1 =>
                    obtain ⟨q1, q2, q3⟩ := hh w0 rs1 rfl
                    obtain ⟨⟨dxb5, hb5⟩, hw5⟩ := B5
                    obtain ⟨dxe, qe, nqe, hae, hpe⟩ := hn
                    obtain ⟨eas, e1, e2⟩ := L4.evl
                    have e5 : H5 ev = _ := b5 _ _ e1 (by simp [ner, new])
                    obtain ⟨hcnt1, _⟩ := event_count hx
                    have hel : eas.length ≤ 3000 := by
                      rw [e2.length, List.length_append]
                      have := L4.c2
                      omega
                    refine ⟨_, rfl, b, _, dxb5, _, _, rfl, hb5, T.cl_Bar, T.n_Bar_length, bF_length, _, rfl, a, _, dxe, _, _, rfl, hae, T.cl_Event, T.n_Event_length, eF_length, _, _, rfl, rfl, dxb5, _, hb5, (by show 4 < 1000; decide), ?_⟩
                    rw [bF_putL]
                    have e6 : upd H5 b (.ins T.c_Bar dxb5 (bF (.bl sh) (.ref lw) (.int ((tot (lens (evsOf [] acc.reverse)) : Nat) + (ne.len : Int))) (.int 0))) ev = _ := (upd_ne neb).trans e5
                    refine ⟨_, rfl, .inl ⟨rfl, _, SqL.of e6⟩, _, rfl, ev, _, _, rfl, rfl, e6, by rw [List.length_map]; exact size_lt (by omega), ?_⟩
                    have hlen : rs'.length < (w0 :: rs1).length := by
                      have : 1 ≤ (pieceWords x).length := List.length_pos_iff.mpr (pieceWords_ne _)
                      omega
                    obtain ⟨_, p0, ps0, k0, d0, t0, ex0⟩ := event_count hx
                    refine ⟨rs'.length, hlen, x :: acc, rs', some .non, some (.ref a), ?_, L4.noted ap nbr nwr nwb nlb q1 q2 q3 hx b5 R5 es ⟨dxe, qe, nqe, hae, hpe⟩ ⟨⟨dxb5, hb5⟩, hw5⟩ e1 (But.trans (But.upd (by simp)) (But.upd (by simp))) ((upd_ne (Ne.symm neb)).trans upd_same) ?_, rfl⟩
                    · rw [ex0]; rfl
                    · rw [upd_same, List.map_append]; rfl
          · -- a tuplet begins
            intro x ex H4 tp s4 hp
            have L4 := L.same s4
            refine ⟨_, rfl, rfl, _, rfl, if_t rfl ?_⟩
            cases rs with
            | nil => rw [show lkW [] = [] from rfl] at ex; cases ex
            | cons w0 rs1 =>
              have ex' : cTup w0.text = some x := ex
              have hle := (stAfter_ok (l := acc.reverse) (st := []) (fun _ h => by cases h) (by decide) L4.ok).2
              have hle' : (stOf acc).length ≤ 3 := hle
              refine ⟨_, rfl, _, rfl, _, rfl, _, rfl, r, l, b, lw, tl, tp, e, w0, rs1, sh, _, _, tas, rfl, L4.rd, L4.bar, s4 _ _ tl1, ntw, hwl, nlw', nlt, by omega, fun h3 => ?_, fun h3 H5 b5 R5 B5 t5 => ?_⟩
              · refine (kF ⟨3, w0.place⟩ ?_).but L4.but (by simp)
                rw [hrb, ← L4.eq, pcs_deep ex' (by omega)]
              · exact ⟨rs1.length, Nat.lt_succ_self _, _, rs1, some (.ref tp), x6, rfl, L4.opened ap ex' (by omega) (s4 _ _ tl1) hp b5 R5 B5 t5, rfl⟩
end
end Sco
namespace Sco
open PySem PySem.Spec PyProof.Rows L2 Sx62
theorem pieces_count : ∀ {f e : Nat} {acc : List Piece} {l : List Word} {x : List Piece × Nat × List Word}, piecesFrom e f (stOf acc).length acc l = .ok x → (evsOf [] x.1).length + x.2.2.length ≤ (evsOf [] acc.reverse).length + l.length
  | 0, e, acc, l, x, h => by rw [pieces_zero] at h; cases h
  | f + 1, e, acc, [], x, h => by rw [pieces_nil] at h; cases h
  | f + 1, e, acc, w :: l, x, h => by
    rw [pieces_cons] at h
    rw [List.length_cons]
    split at h
    · split at h
      · injection h with h; subst h
        show (evsOf [] acc.reverse).length + l.length ≤ (evsOf [] acc.reverse).length + (l.length + 1)
        omega
      · cases h
    · split at h
      · split at h
        · have : (stOf acc).length - 1 = (stOf (.closes :: acc)).length := by
            rw [stOf_cons]; show _ = ((stOf acc).drop 1).length; rw [List.length_drop]
          rw [this] at h
          have ih := pieces_count h
          rw [evs_snoc, List.length_append] at ih
          have : (evStep (stOf acc) .closes).length = 0 := rfl
          omega
        · cases h
      · split at h
        · rename_i y hy
          split at h
          · cases h
          · have : (stOf acc).length + 1 = (stOf (.opens y.1 y.2 :: acc)).length := by
              rw [stOf_cons]; rfl
            rw [this] at h
            have ih := pieces_count h
            rw [evs_snoc, List.length_append] at ih
            have : (evStep (stOf acc) (.opens y.1 y.2)).length = 0 := rfl
            omega
        · split at h
          · split at h
            · cases h
            · rename_i y hc
              obtain ⟨qs, k, d, t, e1, _⟩ := chord_ok (fun p hp => (by cases hp)) hc
              have hl := chord_less hc
              have : (stOf acc).length = (stOf (y.1 :: acc)).length := by
                rw [stOf_cons, e1]; rfl
              rw [this] at h
              have ih := pieces_count h
              rw [evs_snoc, List.length_append, e1] at ih
              have : (evStep (stOf acc) (.note w.place qs k d t)).length = 1 := rfl
              omega
          · split at h
            · cases h
            · rename_i y hc
              have : (stOf acc).length = (stOf (.note w.place y.1 y.2.1 y.2.2.1 y.2.2.2 :: acc)).length := by
                rw [stOf_cons]; rfl
              rw [this] at h
              have ih := pieces_count h
              rw [evs_snoc, List.length_append] at ih
              have : (evStep (stOf acc) (.note w.place y.1 y.2.1 y.2.2.1 y.2.2.2)).length = 1 := rfl
              omega
theorem readBar_count {e : Nat} {l : List Word} {x : Bar} {rest : List Word} (h : readBar e l = .ok (x, rest)) : (barEvs x).length + rest.length ≤ l.length := by
  cases l with
  | nil => cases h
  | cons w l =>
    rw [readBar_cons] at h
    split at h
    · cases h
    · rename_i y hy
      injection h with h
      injection h with h1 h2
      subst h1; subst h2
      have := pieces_count (acc := []) hy
      show (evsOf [] y.1).length + y.2.2.length ≤ _
      have h3 : (evsOf [] ([] : List Piece).reverse).length = 0 := rfl
      rw [h3] at this
      split at this
      · rw [List.length_cons]; omega
      · omega
/-- the bars that are still to be read -/
def brs (e : Nat) (acc : List Bar) (rest : List Word) : R (List Bar × Nat × List Word) := barsFrom e (rest.length + 1) acc rest
theorem brs_first {e : Nat} {l : List Word} : brs e [] l = match readBar e l with
    | .error x => .error x
    | .ok x => brs e [x.1] x.2 := by
  unfold brs
  rw [bars_first (Nat.lt_succ_self _)]
  cases h : readBar e l with
  | error x => rfl
  | ok x =>
    have := readBar_less h
    exact bars_fuel (by omega) (Nat.lt_succ_self _)
theorem brs_end {e : Nat} {acc : List Bar} {w : Word} {l : List Word} (h : w.text = END) (ha : acc ≠ []) : brs e acc (w :: l) = .ok (acc.reverse, w.place, l) := by
  unfold brs
  rw [bars_cons, if_pos h, if_neg ha]
theorem brs_more {e : Nat} {acc : List Bar} {l : List Word} (h : lkW l ≠ END) : brs e acc l = match readBar e l with
    | .error x => .error x
    | .ok x => brs e (x.1 :: acc) x.2 := by
  cases l with
  | nil => unfold brs; rw [bars_nil]; rfl
  | cons w l =>
    unfold brs
    rw [bars_more (by rw [List.length_cons]; omega) (show w.text ≠ END from h)]
    cases h2 : readBar e (w :: l) with
    | error x => rfl
    | ok x =>
      have := readBar_less h2
      exact bars_fuel (by omega) (Nat.lt_succ_self _)
/-- a bar whose list of words is none of these -/
def BarAtX (N : List Addr) (C : Addr) (H : Hp) (a : Addr) (b : Bar) : Prop := ∃ dx l, l ∉ N ∧ H a = some (.ins C dx (bF (.bl b.short) (.ref l) (.int (barLen b)) (.int b.place))) ∧ H l = some (.lst (txs (barWords b)))
theorem BarAtX.bar {N : List Addr} {C : Addr} {H : Hp} {a : Addr} {b : Bar} (h : BarAtX N C H a b) : BarAt C H a b := by
  obtain ⟨dx, l, _, h1, h2⟩ := h
  exact ⟨dx, l, h1, h2⟩
theorem BarAtX.keep {N M : List Addr} {C cR : Addr} {H H' : Hp} {r l0 : Addr} {e : Nat} {rest : List Word} {a : Addr} {b : Bar} (h : BarAtX N C H a b) (hR : RdAt cR H r l0 e rest) (hM : ∀ x ∈ M, x = r ∨ x ∈ N) (hN : ∀ x ∈ N, ∃ xs, H x = some (.lst xs)) (s : But M H H') : BarAtX N C H' a b := by
  obtain ⟨dx, l, hl, h1, h2⟩ := h
  obtain ⟨dxr, wsr, ir, g1, _⟩ := hR
  refine ⟨dx, l, hl, s _ _ h1 fun z => ?_, s _ _ h2 fun z => ?_⟩
  · rcases hM _ z with rfl | y
    · rw [h1] at g1
      injection g1 with g1
      injection g1 with _ _ g3
      exact absurd (show 4 = 2 from congrArg List.length g3) (by decide)
    · obtain ⟨xs, y⟩ := hN _ y
      rw [h1] at y; cases y
  · rcases hM _ z with rfl | y
    · rw [h2] at g1; cases g1
    · exact hl y
theorem st_voice : Str.ofString "voice" = S VOICE := by decide +kernel
theorem st_end : Str.ofString "end" = S END := by decide +kernel
section
variable {P : Program} {w : World} {K : PySem.W.Frag} {mg : Str → Option Value} {base : Heap}
def spReadVoice (cR cF cV cB cE : Addr) : Sp := fun vs H Q E => ∃ (r l na : Addr) (e : Nat) (rest : List Word) (names : List Bytes), vs = [.ref r, .ref na] ∧ RdAt cR H r l e rest ∧ H na = some (.lst (txs names)) ∧ rest.length ≤ 2000 ∧
  Reads cR cF [r] H r l e (readVoice e names rest) (fun H' v x => ∃ a, v = .ref a ∧ VoiceAt cV cB cE H' a x) Q E
theorem sc_readVoice : FnScope ["reader", "names", "name", "events", "bars", "end"] ["reader", "names"] (defScope (top 56)) := ⟨rfl, rfl, rfl, by decide +kernel, rfl, by decide +kernel, by decide +kernel⟩
theorem bi_readVoice (D : DefAt K mg "read_voice" (top 56)) : Binds K D.fd ["reader", "names"] [] := D.F.binds fun _ _ _ _ _ _ us hl => match us, hl with | [_, _], _ => rfl
theorem ok_readVoice (T : Tx w K mg) : FnOk P w K mg base (L2.CX P w) 8 T.f_read_voice.f T.f_read_voice.fd ["reader", "names"] (spReadVoice T.c_Reader T.c_Fault T.c_Voice T.c_Bar T.c_Event) := by
  have GL : FnOk P w K mg base CX0 1 _ _ _ (spLook T.c_Reader) := ok_look T
  have GW : FnOk P w K mg base CX0 1 _ _ _ (spWhere T.c_Reader) := ok_where T
  have GT : FnOk P w K mg base (L2.CX P w) 3 _ _ _ (spTake T.c_Reader T.c_Fault) := ok_take T
  have GN : FnOk P w K mg base (L2.CX P w) 4 _ _ _ (spReadName T.c_Reader T.c_Fault) := ok_readName T
  have GB : FnOk P w K mg base (L2.CX P w) 7 _ _ _ (spReadBar T.c_Reader T.c_Fault T.c_Bar T.c_Event) := ok_readBar T
  have GV : FnOk P w K mg base CX0 1 _ _ _ (spIn4 T.c_Voice vF) := ok_voice T
  refine T.f_read_voice.F.okX sc_readVoice (fun vs H Q E h => ?_) (fun cdv A outer s H vs Q E hr h => ?_)
  · obtain ⟨r, l, na, e, rest, names, rfl, _⟩ := h
    rfl
  · obtain ⟨r, l, na, e, rest, names, rfl, hR, hNa, hcnt, kF, kS⟩ := h
    have hr1 : Room 1 _ := hr.mono (by decide)
    have hr2 : Room 2 _ := hr.mono (by decide)
    have hr3 : Room 3 _ := hr.mono (by decide)
    have hr4 : Room 4 _ := hr.mono (by decide)
    refine ⟨_, pss_cons (ps_expr (pe_meth (pv 0) T.cl_Reader T.m_Reader_take.M GT hr3 (bi_take _) .nil (passes_call (W := fun cls d _ H => E cls d H) (takes_of rfl rfl rfl rfl) (fun _ _ _ _ h => h)) (pa_cons (pe_cmpR op_eq (pe_meth0 (pv 0) T.cl_Reader T.m_Reader_look.M GL hr1 (bi_look _) .nil pass0) pe_str (nomark _)) pa_nil)))
      (pss_cons (ps_set (i := 2) sc_readVoice.nd rfl (Or.inl rfl) (pe_call GN hr4 rfl T.f_read_name.g T.f_read_name.F.kp (bi_readName _) .nil (passes_call (W := fun cls d _ H => E cls d H) (takes_of rfl rfl rfl rfl) (fun _ _ _ _ h => h)) (pa_cons (pv 0) (pa_cons (pv 1) pa_nil))))
      (pss_cons (ps_set (i := 3) sc_readVoice.nd rfl (Or.inl rfl) (pe_lst pa_nil))
      (pss_cons (ps_set (i := 4) sc_readVoice.nd rfl (Or.inl rfl) (pe_lst (pa_cons (pe_call GB hr rfl T.f_read_bar.g T.f_read_bar.F.kp (bi_readBar _) .nil (passes_call (W := fun cls d _ H => E cls d H) (takes_of rfl rfl rfl rfl) (fun _ _ _ _ h => h)) (pa_cons (pv 0) (pa_cons (pv 3) pa_nil))) pa_nil)))
      (pss_cons (ps_while (passes_of rfl) (pt_cmpR op_ne (pe_meth0 (pv 0) T.cl_Reader T.m_Reader_look.M GL hr1 (bi_look _) .nil pass0) pe_str (nomark _))
        (pss_one (ps_expr (pe_bm PySem.F.plainAttrs_list PySem.F.slot_list_append PySem.F.type_list_append mt_append (pv 4)
          (pa_cons (pe_call GB hr rfl T.f_read_bar.g T.f_read_bar.F.kp (bi_readBar _) .nil (passes_call (W := fun cls d _ H => E cls d H) (takes_of rfl rfl rfl rfl) (fun _ _ _ _ h => h)) (pa_cons (pv 0) (pa_cons (pv 3) pa_nil))) pa_nil)))))
      (pss_cons (ps_set (i := 5) sc_readVoice.nd rfl (Or.inl rfl) (pe_meth0 (pv 0) T.cl_Reader T.m_Reader_where.M GW hr1 (bi_where _) .nil pass0))
      (pss_cons (ps_expr (pe_meth (pv 0) T.cl_Reader T.m_Reader_take.M GT hr3 (bi_take _) .nil (passes_call (W := fun cls d _ H => E cls d H) (takes_of rfl rfl rfl rfl) (fun _ _ _ _ h => h)) (pa_cons pe_bl pa_nil)))
      (pss_one (ps_ret (pe_make T.i_Voice.M GV hr2 rfl T.g_Voice (bi_voice _) .nil pass0 (pa_cons (pv 2) (pa_cons (pv 4) (pa_cons (pv 3) (pa_cons (pv 5) pa_nil)))))))))))))
      , ?_⟩
    obtain ⟨dx, fs, i1, i2, i3, i4⟩ := hR.ins
    refine ⟨_, rfl, r, dx, fs, rfl, i1, i4, _, rfl, r, dx, fs, rfl, i1, i2, r, l, e, rest, rfl, hR, rfl, r, l, e, rest, decide (lkW rest = VOICE), by rw [st_voice, dec_str]; rfl, hR, fun z => ?_, fun z => ?_⟩
    · have h0 : ¬ lkW rest = VOICE := of_decide_eq_false z
      refine falls_weak (M := [r]) (kF _ ?_) But.refl
      cases rest with
      | nil => rfl
      | cons w0 rs => rw [rv_word (show w0.text ≠ VOICE from h0)]; rfl
    have h0 : lkW rest = VOICE := of_decide_eq_true z
    obtain ⟨w0, rs1, rfl, hw⟩ := lk_ne hR.ok (by rw [h0]; decide)
    have hw0 : w0.text = VOICE := hw.symm.trans h0
    refine ⟨w0, rs1, rfl, fun H1 R1 b1 => ?_⟩
    have na1 : H1 na = _ := b1 _ _ hNa (by simpa using ne_of hNa i1 (by intro z; cases z))
    refine ⟨_, rfl, _, rfl, r, l, e, rs1, na, names, rfl, R1, na1, fun f hf => ?_, ?_⟩
    · refine (kF f ?_).but b1 (by simp)
      cases rs1 with
      | nil =>
        rw [rv_end hw0]
        injection hf with hf
        rw [← hf]; rfl
      | cons n rs =>
        rw [nameFrom_cons] at hf
        rw [rv_name hw0]
        by_cases c1 : isName n.text = false
        · rw [if_pos c1] at hf ⊢
          injection hf with hf
          rw [← hf]; rfl
        · rw [if_neg c1] at hf ⊢
          by_cases c2 : n.text ∈ names ∨ names.length = 4
          · rw [if_pos c2] at hf ⊢
            injection hf with hf
            rw [← hf]
          · rw [if_neg c2] at hf; cases hf
    rintro nm rs2 hn H2 v b2 R2 rfl
    have hres : readVoice e names (w0 :: rs1) = match brs e [] rs2 with
        | .error x => .error x
        | .ok x => .ok (⟨nm, x.1, x.2.1⟩, x.2.2) := by
      cases rs1 with
      | nil => cases hn
      | cons n rs =>
        rw [nameFrom_cons] at hn
        rw [rv_name hw0]
        by_cases c1 : isName n.text = false
        · rw [if_pos c1] at hn; cases hn
        · rw [if_neg c1] at hn ⊢
          by_cases c2 : n.text ∈ names ∨ names.length = 4
          · rw [if_pos c2] at hn; cases hn
          · rw [if_neg c2] at hn ⊢
            injection hn with hn
            injection hn with n1 n2
            subst n1; subst n2
            rfl
    have hl2 : rs2.length ≤ 2000 := by
      cases rs1 with
      | nil => cases hn
      | cons n rs =>
        rw [nameFrom_cons] at hn
        split at hn
        · cases hn
        · split at hn
          · cases hn
          · injection hn with hn
            injection hn with n1 n2
            subst n2
            simp only [List.length_cons] at hcnt
            omega
    have b02 : But [r] H H2 := b1.trans b2
    -- the events
    refine ⟨Nat.zero_le _, fun ev nev => ?_⟩
    have nevH : H ev = none := by
      cases q : H ev with
      | none => rfl
      | some o =>
        have : ev ≠ r := fun y => by
          obtain ⟨_, _, g, _⟩ := R2.ins
          rw [y, g] at nev; cases nev
        rw [b02 _ _ q (by simpa using this)] at nev; cases nev
    have b03 : But [r] H (upd H2 ev (.lst [])) := b02.trans (But.of (same_new nev))
    have R3 : RdAt T.c_Reader (upd H2 ev (.lst [])) r l e rs2 := R2.same (same_new nev)
    have nel : ev ≠ l := fun y => by
      obtain ⟨_, _, _, _, ⟨_, g, _⟩, _⟩ := R2
      rw [y, g] at nev; cases nev
    have ev3 : upd H2 ev (.lst []) ev = some (.lst []) := upd_same
    generalize upd H2 ev (.lst []) = H3 at b03 R3 ev3
    have falls : ∀ (Hx : Hp) (f : Fault), But [r] H Hx → readVoice e names (w0 :: rs1) = .error f → Falls T.c_Fault [r, ev] Hx f E := fun Hx f bx hf => (kF f hf).but bx fun x hx => by
      simp only [List.mem_cons, List.not_mem_nil, or_false] at hx
      rcases hx with rfl | rfl
      · exact .inl (by simp)
      · exact .inr nevH
    rw [brs_first] at hres
    refine ⟨_, rfl, _, rfl, r, l, ev, e, rs2, [], rfl, R3, ⟨[], ev3, .nil⟩, nel, (by show 0 + rs2.length ≤ 2900; omega), fun f hf => falls H3 f b03 (by rw [hres, hf]), ?_⟩
    rintro b0 rs3 hb H4 v b4 R4 ⟨a0, rfl, hbn, hev⟩
    rw [hb] at hres
    have hcb := readBar_count hb
    have hlb := readBar_less hb
    have b04 : But [r] H H4 := fun c o hc hm => b4 _ _ (b03 _ _ hc hm) (by
      simp only [List.mem_cons, List.not_mem_nil, or_false, not_or]
      exact ⟨by simpa using hm, ne_of_none hc nevH⟩)
    refine ⟨by show 1 ≤ sizeLine; decide, fun bl nbl => ?_⟩
    obtain ⟨dx4, fs4, k1, k2, k3, k4⟩ := R4.ins
    obtain ⟨eas4, e41, e42⟩ := hev
    have nbr : bl ≠ r := fun y => by rw [y, k1] at nbl; cases nbl
    have nbe : bl ≠ ev := fun y => by rw [y, e41] at nbl; cases nbl
    have nbll : bl ≠ l := fun y => by
      obtain ⟨_, _, _, _, ⟨_, g, _⟩, _⟩ := R4
      rw [y, g] at nbl; cases nbl
    have nblH : H bl = none := by
      cases q : H bl with
      | none => rfl
      | some o => rw [b04 _ _ q (by simpa using nbr)] at nbl; cases nbl
    refine ⟨fun m σ' H' => ∃ (bs : List Bar) (rs : List Word), σ' = [some (.ref r), some (.ref na), some (.str (S nm)), some (.ref ev), some (.ref bl), none] ∧ But [r] H H' ∧ RdAt T.c_Reader H' r l e rs ∧ ListAt (BarAtX [ev, bl] T.c_Bar) H' bl bs ∧ ListAt (EvAtX [ev, bl] T.c_Event) H' ev (bs.flatMap barEvs) ∧
      bs ≠ [] ∧ bs.length + rs.length ≤ 2100 ∧ (bs.flatMap barEvs).length + rs.length ≤ 2100 ∧
      readVoice e names (w0 :: rs1) = (match brs e bs.reverse rs with | .error x => .error x | .ok x => .ok (⟨nm, x.1, x.2.1⟩, x.2.2)) ∧ m = rs.length, ?_, ?_⟩
    · refine ⟨_, [b0], rs3, rfl, b04.trans (But.of (same_new nbl)), R4.same (same_new nbl), ⟨[a0], upd_same, .cons ?_ .nil⟩, ⟨eas4, same_new nbl _ _ e41, ?_⟩, by simp, ?_, ?_, hres, rfl⟩
      · obtain ⟨dxx, lx, nlx, x1, x2⟩ := hbn
        refine ⟨dxx, lx, ?_, same_new nbl _ _ x1, same_new nbl _ _ x2⟩
        simp only [List.mem_cons, List.not_mem_nil, or_false, not_or]
        exact ⟨fun y => (by rw [y, ev3] at nlx; cases nlx), fun y => (by rw [y, nbl] at x2; cases x2)⟩
      · rw [List.flatMap_cons, List.flatMap_nil, List.append_nil]
        refine e42.imp fun a y hy => ?_
        obtain ⟨dxe, q, nq, y1, y2⟩ := hy
        have s := same_new (o := .lst [.ref a0]) nbl
        refine ⟨dxe, q, ?_, s _ _ y1, y2.mono (PitchAt.same s) s⟩
        simp only [List.mem_cons, List.not_mem_nil, or_false, not_or] at nq ⊢
        obtain ⟨pas, y3, _⟩ := y2
        exact ⟨nq, fun z => by rw [z, nbl] at y3; cases y3⟩
      · show 1 + rs3.length ≤ 2100
        have : rs3.length < rs2.length := hlb
        omega
      · rw [List.flatMap_cons, List.flatMap_nil, List.append_nil]; omega
    rintro m σ' H5 ⟨bs, rs, rfl, b5, R5, hbs, hevs, hne, c1, c2, hres5, rfl⟩
    obtain ⟨dx5, fs5, j1, j2, j3, j4⟩ := R5.ins
    refine ⟨_, rfl, r, dx5, fs5, rfl, j1, j2, r, l, e, rs, rfl, R5, rfl, _, rfl, ?_⟩
    rw [st_end, dec_str]
    obtain ⟨bas, b51, b52⟩ := hbs
    obtain ⟨eas, e51, e52⟩ := hevs
    have lists5 : ∀ x ∈ [ev, bl], ∃ xs, H5 x = some (.lst xs) := by
      intro x hx
      simp only [List.mem_cons, List.not_mem_nil, or_false] at hx
      rcases hx with rfl | rfl
      · exact ⟨_, e51⟩
      · exact ⟨_, b51⟩
    by_cases he : lkW rs = END
    · obtain ⟨w1, rs4, rfl, hw1⟩ := lk_ne R5.ok (by rw [he]; decide)
      have hw1' : w1.text = END := hw1.symm.trans he
      rw [brs_end hw1' (by simpa using hne), List.reverse_reverse] at hres5
      refine if_f (by rw [decide_eq_true he]; rfl) ⟨_, rfl, r, dx5, fs5, rfl, j1, j3, r, l, e, _, rfl, R5, _, rfl, r, dx5, fs5, rfl, j1, j4, r, l, e, _, true, rfl, R5, fun z => Bool.noConfusion z, fun _ => ⟨w1, rs4, rfl, fun H6 R6 b6 => ?_⟩⟩
      refine ⟨_, rfl, _, rfl, _, rfl, _, rfl, fun xn dxn nx ndx nxd => ⟨xn, dxn, _, _, _, _, rfl, upd_same, fun H7 hx hk => ⟨rfl, ?_⟩⟩⟩
      have s7 : Same H6 H7 := Same.made nx ndx hk
      refine kS ⟨nm, bs, w1.place⟩ rs4 hres5 H7 _ ((b5.trans b6).trans (But.of s7)) (R6.same s7) ⟨xn, rfl, dxn, bl, ev, hx, ⟨bas, s7 _ _ (b6 _ _ b51 (by simpa using nbr)), b52.imp fun a y hy => ?_⟩, ⟨eas, s7 _ _ (b6 _ _ e51 ?_), e52.imp fun a y hy => ?_⟩⟩
      · exact (hy.keep R5 (by simp) lists5 b6).bar.same s7
      · simpa using ne_of e51 j1 (by intro z; cases z)
      · refine (hy.keep lists5 (fun x hx => ?_) b6).ev.same s7
        rw [List.mem_singleton.mp hx]
        obtain ⟨dxr, wsr, ir, g1, _⟩ := R5
        exact .inr (.inl ⟨_, _, _, g1, rF_pitches⟩)
    · rw [brs_more he] at hres5
      refine if_t (by rw [decide_eq_false he]; rfl) ⟨_, fun _ _ h => h, ?_⟩
      have hcr : (bs.flatMap barEvs).length + rs.length ≤ 2900 := by omega
      refine ⟨_, rfl, .inl ⟨rfl, _, SqL.of b51⟩, _, rfl, _, rfl, r, l, ev, e, rs, bs.flatMap barEvs, rfl, R5, ⟨eas, e51, e52.imp fun a y hy => ?_⟩, nel, hcr, fun f hf => falls H5 f b5 (by rw [hres5, hf]), ?_⟩
      · obtain ⟨dxe, q, nq, y1, y2⟩ := hy
        simp only [List.mem_cons, List.not_mem_nil, or_false, not_or] at nq
        exact ⟨dxe, q, by simpa using nq.1, y1, y2⟩
      rintro bx rs6 hbx H6 v b6 R6 ⟨ax, rfl, hbn6, hev6⟩
      rw [hbx] at hres5
      have hcb6 := readBar_count hbx
      have hlb6 : rs6.length < rs.length := readBar_less hbx
      obtain ⟨dx6, fs6, m1, m2, m3, m4⟩ := R6.ins
      have b61 : H6 bl = _ := b6 _ _ b51 (by simp [nbr, nbe])
      obtain ⟨eas6, e61, e62⟩ := hev6
      refine ⟨bl, _, _, rfl, rfl, b61, by rw [List.length_map, b52.length]; exact size_lt (by omega), ?_⟩
      have keepAll : ∀ c o, H c = some o → c ∉ [r] → H6 c = some o := fun c o hc hm => b6 _ _ (b5 _ _ hc hm) (by
        simp only [List.mem_cons, List.not_mem_nil, or_false, not_or]
        exact ⟨by simpa using hm, ne_of_none hc nevH⟩)
      have lists6 : ∀ x ∈ [ev, bl], ∃ xs, H6 x = some (.lst xs) := by
        intro x hx
        simp only [List.mem_cons, List.not_mem_nil, or_false] at hx
        rcases hx with rfl | rfl
        · exact ⟨_, e61⟩
        · exact ⟨_, b61⟩
      have b62 : AllAt (BarAtX [ev, bl] T.c_Bar H6) bas bs := b52.imp fun a y hy => hy.keep R5 (by simp) lists5 b6
      refine ⟨rs6.length, hlb6, bs ++ [bx], rs6, rfl, ?_, ?_, ⟨bas ++ [ax], ?_, AllAt.snoc (b52.imp fun a y hy => ?_) ?_⟩, ⟨eas6, ?_, ?_⟩, by simp, ?_, ?_, ?_, rfl⟩
      · intro c o hc hm
        rw [upd_ne (ne_of_none hc nblH)]
        exact keepAll c o hc hm
      · exact R6.keep (M := [bl]) (But.upd (by simp)) (by simpa using Ne.symm nbr) (by simpa using Ne.symm nbll) (fun a ha xs hx => by rw [List.mem_singleton.mp ha, b61] at hx; cases hx)
      · rw [upd_same, List.map_append]; rfl
      · exact (hy.keep R5 (by simp) lists5 b6).keep R6 (M := [bl]) (by simp) lists6 (But.upd (by simp))
      · obtain ⟨dxx, lx, nlx, x1, x2⟩ := hbn6
        have nl1 : lx ∉ [ev, bl] := by
          simp only [List.mem_cons, List.not_mem_nil, or_false, not_or]
          exact ⟨fun y => (by rw [y, e51] at nlx; cases nlx), fun y => (by rw [y, b51] at nlx; cases nlx)⟩
        refine ⟨dxx, lx, nl1, ?_, ?_⟩
        · rw [upd_ne (ne_of x1 b61 (by intro z; cases z))]; exact x1
        · simp only [List.mem_cons, List.not_mem_nil, or_false, not_or] at nl1
          rw [upd_ne nl1.2]; exact x2
      · rw [upd_ne (Ne.symm nbe)]; exact e61
      · rw [List.flatMap_append, List.flatMap_cons, List.flatMap_nil, List.append_nil]
        refine e62.imp fun a y hy => ?_
        obtain ⟨dxe, q, nq, y1, ⟨pas, y2, y3⟩⟩ := hy
        have nqb : q ≠ bl := by
          rintro rfl
          rw [b61] at y2
          have h1 := HO.lst.inj (Option.some.inj y2)
          have h2 := congrArg (List.map unref) h1
          rw [List.map_map, List.map_map] at h2
          have e0 : (unref ∘ V.ref) = id := rfl
          rw [e0, List.map_id, List.map_id] at h2
          subst h2
          cases b62 with
          | nil => exact hne rfl
          | cons g1 g2 =>
            obtain ⟨p0, _, p1⟩ := y3.got (i := 0) rfl
            obtain ⟨_, _, _, g3, _⟩ := g1
            rw [show H6 _ = some (.tup _) from p1] at g3
            cases g3
        have hX : EvAtX [ev, bl] T.c_Event H6 a y := ⟨dxe, q, by
          simp only [List.mem_cons, List.not_mem_nil, or_false, not_or] at nq ⊢
          exact ⟨nq, nqb⟩, y1, pas, y2, y3⟩
        exact hX.keep (M := [bl]) lists6 (fun x hx => by rw [List.mem_singleton.mp hx]; exact .inl (by simp)) (But.upd (by simp))
      · rw [List.length_append, List.length_cons, List.length_nil]; omega
      · rw [List.flatMap_append, List.flatMap_cons, List.flatMap_nil, List.append_nil, List.length_append]; omega
      · rw [hres5, List.reverse_append]; rfl
end
end Sco
namespace Sco
open PySem PySem.Spec PyProof.Rows L2 Sx62
/-- what is no part of a voice -/
structure Strange (H : Hp) (x : Addr) : Prop where
  ins : ∀ C dx fs, H x = some (.ins C dx fs) → fs.length ≠ 4
  tup : ∀ xs, H x ≠ some (.tup xs)
  lst : ∀ xs, H x = some (.lst xs) → ∃ a C dx fs, xs[0]? = some (.ref a) ∧ H a = some (.ins C dx fs) ∧ fs.lookup ("short" : Str) = none ∧ fs.lookup ("pitches" : Str) = none
theorem vF_short {a b c d : V} : (vF a b c d).lookup ("short" : Str) = none := (lk_past (by decide +kernel)).trans ((lk_past (by decide +kernel)).trans ((lk_past (by decide +kernel)).trans ((lk_past (by decide +kernel)).trans rfl)))
theorem vF_pitches {a b c d : V} : (vF a b c d).lookup ("pitches" : Str) = none := (lk_past (by decide +kernel)).trans ((lk_past (by decide +kernel)).trans ((lk_past (by decide +kernel)).trans ((lk_past (by decide +kernel)).trans rfl)))
theorem RdAt.strange {C : Addr} {H : Hp} {r l : Addr} {e : Nat} {rest : List Word} (h : RdAt C H r l e rest) : Strange H r := by
  obtain ⟨dx, ws, i, h1, _⟩ := h
  refine ⟨fun C' dx' fs q => ?_, fun xs q => ?_, fun xs q => ?_⟩
  · rw [h1] at q
    injection q with q
    injection q with _ _ q
    rw [← q]; exact fun z => by cases z
  · rw [h1] at q; cases q
  · rw [h1] at q; cases q
theorem refs0 {as : List Addr} {a : Addr} (h : (as.map V.ref)[0]? = some (.ref a)) : as[0]? = some a := by
  obtain ⟨b, h1, h2⟩ := refs_get h
  rw [h1]; injection h2 with h2; rw [h2]
theorem EvAt.strange {C : Addr} {H H' : Hp} {x : Addr} (hx : Strange H x) (b : But [x] H H') (a : Addr) (e : Ev) (h : EvAt C H a e) : EvAt C H' a e := by
  obtain ⟨dx, q, h1, ⟨as, h2, h3⟩⟩ := h
  refine ⟨dx, q, b _ _ h1 ?_, as, b _ _ h2 ?_, h3.imp fun c p hc => b _ _ hc ?_⟩
  · rw [List.mem_singleton]; rintro rfl
    exact hx.ins _ _ _ h1 rfl
  · rw [List.mem_singleton]; rintro rfl
    obtain ⟨a0, C0, dx0, fs0, q1, q2, _⟩ := hx.lst _ h2
    obtain ⟨p, _, hp⟩ := h3.got (refs0 q1)
    rw [show H a0 = some (.tup _) from hp] at q2; cases q2
  · rw [List.mem_singleton]; rintro rfl
    exact hx.tup _ hc
theorem BarAt.strange {C : Addr} {H H' : Hp} {x : Addr} (hx : Strange H x) (b : But [x] H H') (a : Addr) (y : Bar) (h : BarAt C H a y) : BarAt C H' a y := by
  obtain ⟨dx, l, h1, h2⟩ := h
  refine ⟨dx, l, b _ _ h1 ?_, b _ _ h2 ?_⟩
  · rw [List.mem_singleton]; rintro rfl
    exact hx.ins _ _ _ h1 rfl
  · rw [List.mem_singleton]; rintro rfl
    obtain ⟨a0, C0, dx0, fs0, q1, _⟩ := hx.lst _ h2
    unfold txs at q1
    rw [List.getElem?_map] at q1
    cases z : (barWords y)[0]? with
    | none => rw [z] at q1; cases q1
    | some t => rw [z] at q1; injection q1 with q1; cases q1
theorem VoiceAt.strange {cV cB cE : Addr} {H H' : Hp} {x : Addr} (hx : Strange H x) (b : But [x] H H') (a : Addr) (v : Voice) (h : VoiceAt cV cB cE H a v) : VoiceAt cV cB cE H' a v := by
  obtain ⟨dx, bs, es, h1, ⟨bas, h2, h3⟩, ⟨eas, h4, h5⟩⟩ := h
  refine ⟨dx, bs, es, b _ _ h1 ?_, ⟨bas, b _ _ h2 ?_, h3.imp (BarAt.strange hx b)⟩, ⟨eas, b _ _ h4 ?_, h5.imp (EvAt.strange hx b)⟩⟩
  · rw [List.mem_singleton]; rintro rfl
    exact hx.ins _ _ _ h1 rfl
  · rw [List.mem_singleton]; rintro rfl
    obtain ⟨a0, C0, dx0, fs0, q1, q2, q3, _⟩ := hx.lst _ h2
    obtain ⟨y, _, dy, ly, hy, _⟩ := h3.got (refs0 q1)
    rw [hy] at q2
    injection q2 with q2
    injection q2 with _ _ q2
    rw [← q2, bF_short] at q3; cases q3
  · rw [List.mem_singleton]; rintro rfl
    obtain ⟨a0, C0, dx0, fs0, q1, q2, _, q3⟩ := hx.lst _ h4
    obtain ⟨y, _, dy, ly, hy, _⟩ := h5.got (refs0 q1)
    rw [hy] at q2
    injection q2 with q2
    injection q2 with _ _ q2
    rw [← q2, eF_pitches] at q3; cases q3
theorem voices_strange {cV cB cE : Addr} {H : Hp} {x : Addr} {as : List Addr} {vs : List Voice} (h : H x = some (.lst (as.map V.ref))) (hv : AllAt (VoiceAt cV cB cE H) as vs) (hn : vs ≠ []) : Strange H x := by
  refine ⟨fun C dx fs q => ?_, fun xs q => ?_, fun xs q => ?_⟩
  · rw [h] at q; cases q
  · rw [h] at q; cases q
  · rw [h] at q
    have q := HO.lst.inj (Option.some.inj q)
    subst q
    cases hv with
    | nil => exact absurd rfl hn
    | cons r t =>
      obtain ⟨dx, bs, es, h1, _⟩ := r
      exact ⟨_, _, _, _, rfl, h1, vF_short, vF_pitches⟩
theorem same_of {H H1 H2 : Hp} {r : Addr} (s : Same H H1) (b : But [r] H1 H2) (n : H r = none) : Same H H2 := fun c o hc => b _ _ (s _ _ hc) (by simpa using ne_of_none hc n)
theorem falls_same {C : Addr} {M : List Addr} {H H1 : Hp} {f : Fault} {E : XK} (h : Falls C [] H f E) (s : Same H H1) (hM : ∀ x ∈ M, H x = none) : Falls C M H1 f E := h.but (But.of s) fun x hx => .inr (hM x hx)
theorem metreU_some {t : Bytes} {n : Nat} (h : metreU t = some n) : ∃ x, metreOf t = some x ∧ n = WH / x.2 * x.1 := by
  unfold metreU at h
  obtain ⟨x, h1, h2⟩ := Option.map_eq_some_iff.mp h
  exact ⟨x, h1, h2.symm⟩
theorem st_time : Str.ofString "time" = S TIME := by decide +kernel
section
variable {P : Program} {w : World} {K : PySem.W.Frag} {mg : Str → Option Value} {base : Heap}
/-! ### Reader.__init__ -/
def spRdInit (C : Addr) : Sp := fun vs H Q _ => ∃ (p dx : Addr) (a : V), vs = [.ref p, a] ∧ H p = some (.ins C dx []) ∧ ∀ H' : Hp, H' p = some (.ins C dx (rF a (.int 0))) → (∀ x o, H x = some o → x ≠ p → H' x = some o) → Q .non H'
theorem sc_rdInit : FnScope ["self", "words"] ["self", "words"] (defScope (inClass (top 53) 0)) := ⟨rfl, rfl, rfl, by decide +kernel, rfl, by decide +kernel, by decide +kernel⟩
theorem bi_rdInit (D : InitAt K C "Reader.__init__" (inClass (top 53) 0)) : Binds K D.fd ["self", "words"] [] := D.F.binds fun _ _ _ _ _ _ us hl => match us, hl with | [_, _], _ => rfl
theorem ok_rdInit (T : Tx w K mg) : FnOk P w K mg base CX0 1 T.i_Reader.f T.i_Reader.fd ["self", "words"] (spRdInit T.c_Reader) := by
  refine T.i_Reader.F.ok sc_rdInit (fun vs H Q E h => ?_) (fun cdv A outer s H vs Q E hr h => ?_)
  · obtain ⟨p, dx, a, rfl, _⟩ := h
    rfl
  · obtain ⟨p, dx, a, rfl, hp, k⟩ := h
    refine ⟨_, pss_cons (ps_fld (pv 0) (pv 1) rfl) (pss_one (ps_fld (pv 0) pe_int rfl)), ?_⟩
    refine ⟨_, rfl, _, rfl, p, _, dx, [], rfl, hp, T.cl_Reader, T.n_Reader_words, (by show 0 < 1000; decide), ?_⟩
    refine ⟨_, rfl, p, _, dx, _, rfl, upd_same, T.cl_Reader, T.n_Reader_at, (by show 1 < 1000; decide), ?_⟩
    refine k _ (Eq.trans upd_same (congrArg (fun q => some (HO.ins T.c_Reader dx q)) rF_new)) fun b o e hb => ?_
    rw [upd_ne hb, upd_ne hb]
    exact e
/-! ### read_words -/
def spReadWords (cS cV cB cE cF : Addr) : Sp := fun vs H Q E => ∃ (l : Addr) (ws : List Word) (e : Nat), vs = [.ref l] ∧ ListAt WordAt H l (ents ws e) ∧ WsOk ws ∧ ws.length ≤ 1600 ∧
  (∀ f, parse e ws = .error f → Falls cF [] H f E) ∧ ∀ s, parse e ws = .ok s → ∀ H' a, Same H H' → ScoreAt cS cV cB cE H' a s → Q (.ref a) H'
theorem sc_readWords : FnScope ["words", "reader", "full", "metre", "key", "voices", "voice"] ["words"] (defScope (top 54)) := ⟨rfl, rfl, rfl, by decide +kernel, rfl, by decide +kernel, by decide +kernel⟩
theorem bi_readWords (D : DefAt K mg "read_words" (top 54)) : Binds K D.fd ["words"] [] := D.F.binds fun _ _ _ _ _ _ us hl => match us, hl with | [_], _ => rfl
theorem ok_readWords (T : Tx w K mg) : FnOk P w K mg base (L2.CX P w) 9 T.f_read_words.f T.f_read_words.fd ["words"] (spReadWords T.c_Score T.c_Voice T.c_Bar T.c_Event T.c_Fault) := by
  have GL : FnOk P w K mg base CX0 1 _ _ _ (spLook T.c_Reader) := ok_look T
  have GT : FnOk P w K mg base (L2.CX P w) 3 _ _ _ (spTake T.c_Reader T.c_Fault) := ok_take T
  have GM : FnOk P w K mg base CX0 2 _ _ _ spMetre := ok_metre T
  have GK : FnOk P w K mg base (L2.CX P w) 4 _ _ _ (spReadKey T.c_Reader T.c_Fault) := ok_readKey T
  have GV : FnOk P w K mg base (L2.CX P w) 8 _ _ _ (spReadVoice T.c_Reader T.c_Fault T.c_Voice T.c_Bar T.c_Event) := ok_readVoice T
  have GI : FnOk P w K mg base CX0 1 _ _ _ (spRdInit T.c_Reader) := ok_rdInit T
  have GS : FnOk P w K mg base CX0 1 _ _ _ (spIn4 T.c_Score sF) := ok_score T
  refine T.f_read_words.F.okX sc_readWords (fun vs H Q E h => ?_) (fun cdv A outer s H vs Q E hr h => ?_)
  · obtain ⟨l, ws, e, rfl, _⟩ := h
    rfl
  · obtain ⟨l, ws, e, rfl, hL, hok, hcnt, kF, kS⟩ := h
    have hr1 : Room 1 _ := hr.mono (by decide)
    have hr2 : Room 2 _ := hr.mono (by decide)
    have hr3 : Room 3 _ := hr.mono (by decide)
    have hr4 : Room 4 _ := hr.mono (by decide)
    refine ⟨_, pss_cons (ps_set (i := 1) sc_readWords.nd rfl (Or.inl rfl) (pe_make T.i_Reader.M GI hr2 rfl T.g_Reader (bi_rdInit _) .nil pass0 (pa_cons (pv 0) pa_nil)))
      (pss_cons (ps_expr (pe_meth (pv 1) T.cl_Reader T.m_Reader_take.M GT hr3 (bi_take _) .nil (passes_call (W := fun cls d _ H => E cls d H) (takes_of rfl rfl rfl rfl) (fun _ _ _ _ h => h)) (pa_cons (pe_cmpR op_eq (pe_meth0 (pv 1) T.cl_Reader T.m_Reader_look.M GL hr1 (bi_look _) .nil pass0) pe_str (nomark _)) pa_nil)))
      (pss_cons (ps_set (i := 2) sc_readWords.nd rfl (Or.inl rfl) (pe_call GM hr2 rfl T.f_metre_length.g T.f_metre_length.F.kp (bi_metre _) .nil pass0 (pa_cons (pe_meth0 (pv 1) T.cl_Reader T.m_Reader_look.M GL hr1 (bi_look _) .nil pass0) pa_nil)))
      (pss_cons (ps_set (i := 3) sc_readWords.nd rfl (Or.inl rfl) (pe_meth (pv 1) T.cl_Reader T.m_Reader_take.M GT hr3 (bi_take _) .nil (passes_call (W := fun cls d _ H => E cls d H) (takes_of rfl rfl rfl rfl) (fun _ _ _ _ h => h)) (pa_cons (pe_cmpR op_notN (pv 2) pe_non (nomark _)) pa_nil)))
      (pss_cons (ps_set (i := 4) sc_readWords.nd rfl (Or.inl rfl) (pe_call GK hr4 rfl T.f_read_key.g T.f_read_key.F.kp (bi_readKey _) .nil (passes_call (W := fun cls d _ H => E cls d H) (takes_of rfl rfl rfl rfl) (fun _ _ _ _ h => h)) (pa_cons (pv 1) pa_nil)))
      (pss_cons (ps_set (i := 5) sc_readWords.nd rfl (Or.inl rfl) (pe_lst (pa_cons (pe_call GV hr rfl T.f_read_voice.g T.f_read_voice.F.kp (bi_readVoice _) .nil (passes_call (W := fun cls d _ H => E cls d H) (takes_of rfl rfl rfl rfl) (fun _ _ _ _ h => h)) (pa_cons (pv 1) (pa_cons (pe_lst pa_nil) pa_nil))) pa_nil)))
      (pss_cons (ps_while (passes_of rfl) (pt_cmpR op_ne (pe_meth0 (pv 1) T.cl_Reader T.m_Reader_look.M GL hr1 (bi_look _) .nil pass0) pe_str (nomark _))
        (pss_one (ps_expr (pe_bm PySem.F.plainAttrs_list PySem.F.slot_list_append PySem.F.type_list_append mt_append (pv 5)
          (pa_cons (pe_call GV hr rfl T.f_read_voice.g T.f_read_voice.F.kp (bi_readVoice _) .nil (passes_call (W := fun cls d _ H => E cls d H) (takes_of rfl rfl rfl rfl) (fun _ _ _ _ h => h)) (pa_cons (pv 1) (pa_cons
            (pe_lc (own := [("voice", 6)]) (g := gName 6) (tt := tYes) (te := tFld K (tVar 6) "name") rfl sc_readWords.nd (pi_list (pv 5)) (blkOk_by (own := [("voice", 6)]) (N := ["words", "reader", "full", "metre", "key", "voices", "voice"]) (sc := defScope (top 54)) (by decide +kernel))
              (fun _ _ _ _ _ => pg_name (i := 6) sc_readWords.nd rfl (Or.inl rfl)) (fun _ _ _ _ _ => pts_nil) (fun _ _ _ _ _ => pe_fld (pv 6) rfl)) pa_nil))) pa_nil)))))
      (pss_one (ps_ret (pe_make T.i_Score.M GS hr2 rfl T.g_Score (bi_score _) .nil pass0 (pa_cons (pv 3) (pa_cons (pv 2) (pa_cons (pv 4) (pa_cons (pv 5) pa_nil)))))))))))))
      , ?_⟩
    refine ⟨_, rfl, fun r dxr nr ndr nrd => ⟨r, dxr, _, rfl, upd_same, fun H1 hrd hk1 => ⟨rfl, ?_⟩⟩⟩
    have s1 : Same H H1 := Same.made nr ndr hk1
    have R1 : RdAt T.c_Reader H1 r l e ws := ⟨dxr, ws, 0, hrd, hL.mono (WordAt.same s1) s1, Nat.zero_le _, rfl, hok⟩
    obtain ⟨dx, fs, i1, i2, i3, i4⟩ := R1.ins
    refine ⟨_, rfl, r, dx, fs, rfl, i1, i4, _, rfl, r, dx, fs, rfl, i1, i2, r, l, e, ws, rfl, R1, rfl, r, l, e, ws, decide (lkW ws = TIME), by rw [st_time, dec_str]; rfl, R1, fun z => ?_, fun z => ?_⟩
    · have h0 : ¬ lkW ws = TIME := of_decide_eq_false z
      refine falls_same (kF _ ?_) s1 (by simp)
      match ws, h0 with
      | [], _ => rfl
      | [w0], h0 => rw [parse_one, if_pos (show w0.text ≠ TIME from h0)]; rfl
      | w0 :: m :: rs, h0 => rw [parse_two, if_pos (show w0.text ≠ TIME from h0)]; rfl
    have h0 : lkW ws = TIME := of_decide_eq_true z
    obtain ⟨w0, rs1, rfl, hw⟩ := lk_ne R1.ok (by rw [h0]; decide)
    have hw0 : w0.text = TIME := hw.symm.trans h0
    refine ⟨w0, rs1, rfl, fun H2 R2 b2 => ?_⟩
    have s2 : Same H H2 := same_of s1 b2 nr
    obtain ⟨dx2, fs2, j1, j2, j3, j4⟩ := R2.ins
    refine ⟨_, rfl, r, dx2, fs2, rfl, j1, j2, r, l, e, rs1, rfl, R2, _, rfl, lk_wd R2.ok, fun H3 s23 => ?_⟩
    have R3 := R2.same s23
    have s3 := s2.trans s23
    obtain ⟨dx3, fs3, k1, k2, k3, k4⟩ := R3.ins
    refine ⟨_, rfl, r, dx3, fs3, rfl, k1, k4, _, rfl, rfl, r, l, e, rs1, (metreU (lkW rs1)).isSome, by rw [optI_non]; cases metreU (lkW rs1) <;> rfl, R3, fun z => ?_, fun z => ?_⟩
    · refine falls_same (kF _ ?_) s3 (by simp)
      cases rs1 with
      | nil => rw [parse_one, if_neg fun y => y hw0]; rfl
      | cons m rs =>
        have : metreOf m.text = none := by
          cases y : metreOf m.text with
          | none => rfl
          | some x =>
            have : metreU m.text = some (WH / x.2 * x.1) := by unfold metreU; rw [y]; rfl
            rw [show lkW (m :: rs) = m.text from rfl, this] at z; cases z
        rw [parse_two, if_neg fun y => y hw0, this]; rfl
    obtain ⟨fl, hfl⟩ := Option.isSome_iff_exists.mp z
    obtain ⟨x, hx, hflx⟩ := metreU_some hfl
    obtain ⟨m, rs2, rfl, hm⟩ := lk_ne R3.ok (by
      intro y
      rw [y, show metreOf [] = none by decide] at hx
      cases hx)
    have hm' : metreOf m.text = some x := by rw [← hm]; exact hx
    refine ⟨m, rs2, rfl, fun H4 R4 b4 => ?_⟩
    have s4 : Same H H4 := same_of s3 b4 nr
    have hpar : parse e (w0 :: m :: rs2) = parseRest e x rs2 := by rw [parse_two, if_neg fun y => y hw0, hm']
    rw [hpar, rest_key] at kF kS
    rw [hfl]
    -- the key
    refine ⟨_, rfl, r, l, e, rs2, rfl, R4, fun f hf => falls_same (kF f (by rw [hf])) s4 (by simpa using nr), ?_⟩
    rintro kt rs3 hk H5 v b5 R5 rfl
    rw [hk] at kF kS
    dsimp only at kF kS
    have s5 : Same H H5 := same_of s4 b5 nr
    have hl3 : rs3.length ≤ 1600 := by
      have h1 : rs3.length ≤ rs2.length := by
        match rs2, hk with
        | [], hk => injection hk with hk; injection hk with _ hk; rw [← hk]; exact Nat.le_refl _
        | [k0], hk =>
          by_cases c : k0.text = KEY
          · rw [readKey_end c] at hk; cases hk
          · rw [readKey_none c] at hk; injection hk with hk; injection hk with _ hk; rw [← hk]; exact Nat.le_refl _
        | k0 :: n0 :: r0, hk =>
          by_cases c : k0.text = KEY
          · rw [readKey_some c] at hk
            cases y : keyOf n0.text with
            | none => rw [y] at hk; cases hk
            | some z0 =>
              rw [y] at hk; injection hk with hk; injection hk with _ hk; rw [← hk]
              simp only [List.length_cons]; omega
          · rw [readKey_none c] at hk; injection hk with hk; injection hk with _ hk; rw [← hk]; exact Nat.le_refl _
      simp only [List.length_cons] at hcnt
      omega
    -- the first voice
    rw [vcs_step (.inr rfl) (by decide)] at kF kS
    refine ⟨_, rfl, Nat.zero_le _, fun na nna => ?_⟩
    have s5n := same_new (o := .lst []) nna
    refine ⟨r, l, na, e, rs3, [], rfl, R5.same s5n, upd_same, by omega, fun f hf => falls_same (kF f (by rw [show ([] : List Voice).reverse.map (fun v => v.name) = [] from rfl, hf])) (s5.trans s5n) (by simpa using nr), ?_⟩
    rintro v0 rs4 hv H6 vv b6 R6 ⟨a0, rfl, hV0⟩
    rw [show ([] : List Voice).reverse.map (fun v => v.name) = [] from rfl, hv] at kF kS
    dsimp only at kF kS
    have s6 : Same H H6 := same_of (s5.trans s5n) b6 nr
    have hlv : rs4.length < rs3.length := rv_less hv
    refine ⟨by show 1 ≤ sizeLine; decide, fun vl nvl => ?_⟩
    have s6n := same_new (o := .lst [.ref a0]) nvl
    obtain ⟨dx6, fs6, m1, m2, m3, m4⟩ := R6.ins
    have nvr : vl ≠ r := fun y => by rw [y, m1] at nvl; cases nvl
    have nvl0 : vl ≠ l := fun y => by
      obtain ⟨_, _, _, _, ⟨_, g, _⟩, _⟩ := R6
      rw [y, g] at nvl; cases nvl
    have nvlH : H vl = none := s6.free nvl
    refine ⟨fun mm σ' H' => ∃ (vs : List Voice) (rs : List Word), σ' = [some (.ref l), some (.ref r), some (.int fl), some (.str (S m.text)), some (.str (S kt)), some (.ref vl), none] ∧ Same H H' ∧ RdAt T.c_Reader H' r l e rs ∧ ListAt (VoiceAt T.c_Voice T.c_Bar T.c_Event) H' vl vs ∧ vs ≠ [] ∧ vs.length ≤ 4 ∧ rs.length ≤ 1600 ∧
      vcs e [v0] rs4 = vcs e vs.reverse rs ∧ mm = rs.length, ⟨_, [v0], rs4, rfl, s6.trans s6n, R6.same s6n, ⟨[a0], upd_same, .cons (hV0.same s6n) .nil⟩, by simp, (by show 1 ≤ 4; decide), by omega, rfl, rfl⟩, ?_⟩
    rintro mm σ' H7 ⟨vs, rs, rfl, s7, R7, ⟨vas, v71, v72⟩, hne, hl4, hl7, heq, rfl⟩
    obtain ⟨dx7, fs7, n1, n2, n3, n4⟩ := R7.ins
    refine ⟨_, rfl, r, dx7, fs7, rfl, n1, n2, r, l, e, rs, rfl, R7, rfl, _, rfl, ?_⟩
    rw [st_empty, dec_str]
    by_cases he : lkW rs = []
    · have hrs : rs = [] := by
        cases rs with
        | nil => rfl
        | cons w1 r1 => exact absurd he (R7.ok w1 List.mem_cons_self).2
      subst hrs
      refine if_f (by rw [decide_eq_true he]; rfl) ⟨_, rfl, _, rfl, _, rfl, _, rfl, fun xn dxn nx ndx nxd => ⟨xn, dxn, _, _, _, _, rfl, upd_same, fun H8 hx8 hk8 => ⟨rfl, ?_⟩⟩⟩
      have s8 : Same H7 H8 := Same.made nx ndx hk8
      rw [vcs_nil (by simpa using hne), List.reverse_reverse] at heq
      rw [heq] at kS
      refine kS ⟨x.1, x.2, keyVal kt, vs⟩ rfl H8 xn (s7.trans s8) ⟨dxn, vl, ?_, vas, s8 _ _ v71, v72.imp (VoiceAt.same s8)⟩
      rw [hx8]
      obtain ⟨mt, _⟩ := metreOf_iff (n := x.1) (d := x.2).mp hm'
      have ek : keyText ⟨x.1, x.2, keyVal kt, vs⟩ = kt := by
        unfold keyText keyVal
        rcases readKey_text hk with q | ⟨z0, q⟩
        · have q : kt = [] := q
          rw [q]; rfl
        · have q : keyOf kt = some z0 := q
          obtain ⟨q1, q2⟩ := key_text q
          rw [q]
          show (if z0 = 0 then [] else (if z0 < 0 then [45] else []) ++ dec z0.natAbs) = kt
          rw [if_neg q1]; exact q2.symm
      have em : metreText ⟨x.1, x.2, keyVal kt, vs⟩ = m.text := mt.symm
      rw [ek, em, hflx]; rfl
    · have hrn : rs ≠ [] := fun y => he (by rw [y]; rfl)
      have hl4' : vs.reverse.length ≤ 4 := by rw [List.length_reverse]; exact hl4
      rw [vcs_step (.inl hrn) hl4', List.reverse_reverse] at heq
      refine if_t (by rw [decide_eq_false he]; rfl) ⟨_, fun _ _ h => h, ?_⟩
      refine ⟨_, rfl, .inl ⟨rfl, _, SqL.of v71⟩, _, rfl, _, rfl, vl, rfl, ⟨_, SqL.of v71⟩, fun D nD => ?_⟩
      refine lc_list (K := K) (a := vl) (xs := vas.map V.ref) (fun i H' => Same H7 H' ∧ H' D = some (.lst (txs ((vs.take i).map fun v => v.name)))) ⟨same_new nD, upd_same⟩ (fun i H' _ h => SqL.of (h.1 _ _ v71)) ?_ ?_
      · rintro i y H' hi ⟨s8, D8⟩
        obtain ⟨a, ha, rfl⟩ := refs_get hi
        obtain ⟨vx, hvx, dxv, bsv, esv, hav, _⟩ := v72.got ha
        refine ⟨rfl, ?_⟩
        dsimp only [tYes]
        rw [if_pos rfl]
        refine ⟨_, rfl, a, _, dxv, _, _, rfl, s8 _ _ hav, T.cl_Voice, T.n_Voice_name, vF_name, _, D8, ?_, ?_, ?_⟩
        · rw [txs_len, List.length_map, List.length_take]
          exact size_lt (by omega)
        · exact fun c o hc => by rw [upd_ne (ne_of_none hc nD)]; exact s8 c o hc
        · rw [upd_same, txs_snoc, List.take_succ, hvx, List.map_append]; rfl
      · rintro H8 ⟨s8, D8⟩
        rw [List.length_map, v72.length, List.take_length] at D8
        refine ⟨r, l, D, e, rs, vs.map fun v => v.name, rfl, R7.same s8, D8, by omega, fun f hf => falls_same (kF f ?_) (s7.trans s8) (by simpa using nr), ?_⟩
        · rw [heq, hf]
        · rintro vx rs9 hvx H9 vv b9 R9 ⟨ax, rfl, hVx⟩
          rw [hvx] at heq
          have s9 : Same H H9 := same_of (s7.trans s8) b9 nr
          have v91 : H9 vl = _ := b9 _ _ (s8 _ _ v71) (by simpa using nvr)
          have v92 : AllAt (VoiceAt T.c_Voice T.c_Bar T.c_Event H9) vas vs := v72.imp fun a y hy => (hy.same s8).strange (R7.same s8).strange b9
          have st9 : Strange H9 vl := voices_strange v91 v92 hne
          have hl9 : rs9.length < rs.length := rv_less hvx
          have hvl : vs.length < 4 := by
            rcases Nat.lt_or_ge vs.length 4 with y | y
            · exact y
            · have h4 : vs.length = 4 := by omega
              exfalso
              match rs, hvx with
              | [], hvx => cases hvx
              | [w1], hvx =>
                by_cases c : w1.text = VOICE
                · rw [rv_end c] at hvx; cases hvx
                · rw [rv_word c] at hvx; cases hvx
              | w1 :: n1 :: r1, hvx =>
                by_cases c : w1.text = VOICE
                · rw [rv_name c] at hvx
                  split at hvx
                  · cases hvx
                  · rw [if_pos (.inr (by rw [List.length_map]; exact h4))] at hvx; cases hvx
                · rw [rv_word c] at hvx; cases hvx
          refine ⟨vl, _, _, rfl, rfl, v91, by rw [List.length_map, v72.length]; exact size_lt (by omega), rs9.length, hl9, vs ++ [vx], rs9, rfl, ?_, ?_, ⟨vas ++ [ax], ?_, AllAt.snoc (v92.imp fun a y hy => hy.strange st9 (But.upd (by simp))) (hVx.strange st9 (But.upd (by simp)))⟩, by simp, ?_, by omega, ?_, rfl⟩
          · exact fun c o hc => by rw [upd_ne (ne_of_none hc nvlH)]; exact s9 _ _ hc
          · exact R9.keep (M := [vl]) (But.upd (by simp)) (by simpa using Ne.symm nvr) (by simpa using Ne.symm nvl0) (fun a ha xs hx => by rw [List.mem_singleton.mp ha, v91] at hx; cases hx)
          · rw [upd_same, List.map_append]; rfl
          · rw [List.length_append, List.length_cons, List.length_nil]; omega
          · rw [heq, List.reverse_append]; rfl
end
end Sco
namespace Sco
open PySem PySem.Spec PyProof.Rows L2 Sx62
def tabOf (l : List Nat) : List (Key × V) := l.map fun (c : Nat) => (Sum.inl (c : Int), V.str (S [c]))
theorem val_tab (c : Nat) : ∀ (l : List Nat), valV (tabOf l) (Sum.inl (c : Int)) = if c ∈ l then some (V.str (S [c])) else none
  | [] => rfl
  | q :: l => by
    have ih := val_tab c l
    unfold valV tabOf at ih ⊢
    rw [List.map_cons, List.find?_cons]
    by_cases e : q = c
    · subst e
      rw [decide_eq_true rfl, if_pos List.mem_cons_self]; rfl
    · have hd : decide ((Sum.inl (q : Int), V.str (S [q])).fst = (Sum.inl (c : Int) : Key)) = false := decide_eq_false fun z => e (Int.ofNat.inj (Sum.inl.inj z))
      rw [hd]
      show Option.map _ _ = _
      rw [ih]
      by_cases m : c ∈ l
      · rw [if_pos m, if_pos (List.mem_cons_of_mem _ m)]
      · rw [if_neg m, if_neg fun z => (List.mem_cons.mp z).elim (fun y => e y.symm) m]
theorem SIG_nodup : SIG.Nodup := by decide
theorem SIG_str : (Str.ofString "abcdefghijklmnopqrstuvwxyz0123456789/.~#[]{}:|-").cps.toList = SIG := by decide +kernel
section
variable {P : Program} {w : World} {K : PySem.W.Frag} {mg : Str → Option Value} {base : Heap}
/-! ### sign_table -/
def spTable : Sp := fun vs H Q _ => vs = [] ∧ ∀ H' d, Same H H' → H' d = some (.dK (tabOf SIG)) → Q (.ref d) H'
theorem sc_table : FnScope ["table", "sign"] [] (defScope (top 79)) := ⟨rfl, rfl, rfl, by decide +kernel, rfl, by decide +kernel, by decide +kernel⟩
theorem bi_table (D : DefAt K mg "sign_table" (top 79)) : Binds K D.fd [] [] := D.F.binds fun _ _ _ _ _ _ us hl => match us, hl with | [], _ => rfl
theorem ok_table (T : Tx w K mg) : FnOk P w K mg base CX0 1 T.f_sign_table.f T.f_sign_table.fd [] spTable := by
  refine T.f_sign_table.F.ok sc_table (fun vs H Q E h => ?_) (fun cdv A outer s H vs Q E hr h => ?_)
  · rw [h.1]; rfl
  · obtain ⟨rfl, q⟩ := h
    have hu := hu_of hr
    refine ⟨_, pss_cons (ps_set (i := 0) sc_table.nd rfl (Or.inl rfl) pe_dnewK)
      (pss_cons (ps_for PassesOwn.never rfl (pi_str (pe_ks T.k_SIGNS)) (pg_name (i := 1) sc_table.nd rfl (Or.inl rfl))
        (pss_one (ps_dput hu (pv 0) (pe_callB call_ord (by rfl) T.b_ord (by decide +kernel) (pa_cons (pv 1) pa_nil)) (pv 1) rfl)))
      (pss_one (ps_ret (pv 0)))), ?_⟩
    intro d nd
    refine ⟨_, rfl, for_it walk_str (fun i σ' H' => ∃ x, σ' = [some (.ref d), x] ∧ Same H H' ∧ H' d = some (.dK (tabOf (SIG.take i)))) ⟨none, rfl, same_new nd, upd_same⟩ (fun _ _ _ _ _ => trivial) ?_ ?_⟩
    · rintro i x σ' H1 H2 hi ⟨y, rfl, s1, d1⟩ ⟨rfl, c, hc, rfl⟩
      have hc2 : SIG[i]? = some c := by rw [← SIG_str, Array.getElem?_toList]; exact hc
      have hnew : c ∉ SIG.take i := fun z => by
        obtain ⟨j, hj⟩ := List.getElem?_of_mem z
        have hj2 : j < i := by
          have := (List.getElem?_eq_some_iff.mp hj).1
          rw [List.length_take] at this; omega
        rw [List.getElem?_take_of_lt hj2] at hj
        have := (List.nodup_iff_pairwise_ne.mp SIG_nodup)
        have h1 := List.getElem?_eq_some_iff.mp hj
        have h2 := List.getElem?_eq_some_iff.mp hc2
        have := List.pairwise_iff_getElem.mp this j i h1.1 h2.1 hj2
        exact this (h1.2.trans h2.2.symm)
      refine ⟨_, rfl, _, rfl, _, rfl, _, rfl, rfl, d, _, rfl, DPut.k (k := Sum.inl (c : Int)) d1 ?_, _, rfl, ?_, ?_⟩
      · unfold tabOf
        rw [List.length_map, List.length_take]
        exact size_lt (by have : SIG.length = 47 := rfl; omega)
      · exact fun a o ha => by rw [upd_ne (ne_of_none ha nd)]; exact s1 _ _ ha
      · rw [upd_same, putK_new _ (by rw [val_tab, if_neg hnew]), List.take_succ, hc2]
        unfold tabOf
        rw [List.map_append]; rfl
    · rintro σ' H' ⟨y, rfl, s1, d1⟩
      refine ⟨_, rfl, q H' d s1 ?_⟩
      have : (Str.ofString "abcdefghijklmnopqrstuvwxyz0123456789/.~#[]{}:|-").cps.size = SIG.length := by rw [← SIG_str, Array.length_toList]
      rw [this, List.take_length] at d1
      exact d1
/-! ### check_bytes -/
def nats (t : Bytes) : List V := t.map fun (c : Nat) => V.int (c : Int)
theorem nats_get {t : Bytes} {i : Nat} {y : V} (h : (nats t)[i]? = some y) : ∃ c, t[i]? = some c ∧ y = .int c := by
  unfold nats at h
  rw [List.getElem?_map] at h
  cases e : t[i]? with
  | none => rw [e] at h; cases h
  | some a => rw [e] at h; exact ⟨a, rfl, (Option.some.inj h).symm⟩
def spCheckB (cF : Addr) : Sp := fun vs H Q E => ∃ (a : Addr) (t : Bytes), vs = [.ref a] ∧ H a = some (.lst (nats t)) ∧ (∀ i, t.findIdx? (fun c => !okByte c) = some i → Falls cF [] H ⟨1, i⟩ E) ∧ (t.findIdx? (fun c => !okByte c) = none → ∀ H', Same H H' → Q .non H')
theorem sc_checkB : FnScope ["text", "place", "byte"] ["text"] (defScope (top 77)) := ⟨rfl, rfl, rfl, by decide +kernel, rfl, by decide +kernel, by decide +kernel⟩
theorem bi_checkB (D : DefAt K mg "check_bytes" (top 77)) : Binds K D.fd ["text"] [] := D.F.binds fun _ _ _ _ _ _ us hl => match us, hl with | [_], _ => rfl
theorem ok_checkB (T : Tx w K mg) : FnOk P w K mg base (L2.CX P w) 3 T.f_check_bytes.f T.f_check_bytes.fd ["text"] (spCheckB T.c_Fault) := by
  refine T.f_check_bytes.F.okX sc_checkB (fun vs H Q E h => ?_) (fun cdv A outer s H vs Q E hr h => ?_)
  · obtain ⟨a, t, rfl, _⟩ := h
    rfl
  · obtain ⟨a, t, rfl, hA, kF, kS⟩ := h
    refine ⟨_, pss_one (ps_for (passes_of rfl) rfl (pi_enum (by rfl) T.b_enumerate (pa_cons (pv 0) pa_nil)) (pg_tup rfl (pgs_cons (pg_name (i := 1) sc_checkB.nd rfl (Or.inl rfl)) (pgs_cons (pg_name (i := 2) sc_checkB.nd rfl (Or.inl rfl)) pgs_nil)))
      (pss_one (ps_if (pt_join (PW.pt (pw_and (pt_cmpR op_ne (pv 2) (pe_ki T.k_LINE_END) (nomark _)) (pw_and1 (pt_not (pt_chain op_le op_le (pe_ki T.k_BLANK) (pv 2) (pe_ki T.k_LAST_BYTE)))))))
        (pss_one (ps_raiseF (W := fun cls d _ H => E cls d H) rfl T.x_Fault hr (takes_of rfl rfl rfl rfl) (by exact (pa_cons (pe_ki T.k_BAD_BYTE) (pa_cons (pv 1) pa_nil))))) pss_nil))), ?_⟩
    refine ⟨_, rfl, a, _, rfl, SqL.of hA, for_it walk_enum (fun i σ' H' => ∃ x y, σ' = [some (.ref a), x, y] ∧ Same H H' ∧ ∀ j c, j < i → t[j]? = some c → okByte c = true) ⟨none, none, rfl, Same.refl _, fun j c hj => absurd hj (Nat.not_lt_zero _)⟩ (fun i σ' H' _ ⟨_, _, _, s1, _⟩ => SqL.of (s1 _ _ hA)) ?_ ?_⟩
    · rintro i v σ' H1 H2 hi ⟨x, y, rfl, s1, hall⟩ ⟨Tt, v1, v2, rfl, nT, rfl, e1, e2⟩
      have e1 : V.int (i : Nat) = v1 := Option.some.inj e1
      subst e1
      obtain ⟨c, hc, rfl⟩ := nats_get e2
      have s2 : Same H (upd H1 Tt (.tup [.int (i : Nat), .int c])) := s1.trans (same_new nT)
      refine ⟨Tt, _, rfl, SqT.of upd_same, rfl, _, _, rfl, _, _, rfl, rfl, ?_⟩
      refine ⟨fun bb Hx => Hx = upd H1 Tt (.tup [.int (i : Nat), .int c]) ∧ bb = !okByte c, ?_, ?_⟩
      · refine ⟨_, rfl, rfl, _, rfl, ?_⟩
        unfold okByte
        by_cases h10 : c = 10
        · subst h10
          exact if_f rfl ⟨rfl, rfl⟩
        · refine if_t (by rw [show decide (V.int (c : Int) = V.int 10) = false from decide_eq_false fun z => h10 (by have := V.int.inj z; omega)]; rfl) ⟨_, rfl, _, _, rfl, rfl, _, rfl, ?_⟩
          have hb : (c == 10) = false := beq_eq_false_iff_ne.mpr h10
          rw [hb]
          by_cases h32 : 32 ≤ c
          · refine if_t (decide_eq_true (by omega)) ⟨_, _, rfl, rfl, _, rfl, rfl, ?_⟩
            rw [decide_eq_true h32]
            by_cases h126 : c ≤ 126
            · rw [decide_eq_true h126, decide_eq_true (show (c : Int) ≤ 126 by omega)]; rfl
            · rw [decide_eq_false h126, decide_eq_false (show ¬ (c : Int) ≤ 126 by omega)]; rfl
          · refine if_f (decide_eq_false (by omega)) ⟨_, rfl, rfl, ?_⟩
            rw [decide_eq_false h32]; rfl
      · rintro bb Hx ⟨rfl, rfl⟩
        cases ho : okByte c with
        | true =>
          refine if_f rfl ⟨_, _, rfl, s2, fun j c' hj hc' => ?_⟩
          rcases Nat.lt_or_ge j i with z | z
          · exact hall j c' z hc'
          · have : j = i := by omega
            subst this
            rw [hc] at hc'
            injection hc' with hc'
            rw [← hc']; exact ho
        | false =>
          refine if_t rfl ⟨_, rfl, _, _, rfl, fun d nd => ?_⟩
          refine kF i ?_ _ d (But.of (s2.trans (same_new nd))) upd_same
          rw [List.findIdx?_eq_some_iff_getElem]
          obtain ⟨h1, h2⟩ := List.getElem?_eq_some_iff.mp hc
          refine ⟨h1, by rw [h2, ho]; rfl, fun j hj => ?_⟩
          have := hall j t[j] hj (List.getElem?_eq_getElem (by omega))
          rw [this]; decide
    · rintro σ' H' ⟨x, y, rfl, s1, hall⟩
      refine kS ?_ H' s1
      rw [List.findIdx?_eq_none_iff]
      intro c hc
      obtain ⟨j, hj⟩ := List.getElem?_of_mem hc
      have hlt := (List.getElem?_eq_some_iff.mp hj).1
      rw [hall j c (by show j < (nats t).length; unfold nats; rw [List.length_map]; exact hlt) hj]; rfl
/-! ### words_of -/
def spWordsOf : Sp := fun vs H Q _ => ∃ (a : Addr) (t : Bytes), vs = [.ref a] ∧ H a = some (.lst (nats t)) ∧ t.length ≤ 1500 ∧ (∀ c ∈ t, c ≤ 255) ∧ ∀ H' p, Same H H' → ListAt WordAt H' p (ents ((words t).map cw) t.length) → Q (.ref p) H'
theorem sc_wordsOf : FnScope ["text", "signs", "words", "word", "place", "byte"] ["text"] (defScope (top 78)) := ⟨rfl, rfl, rfl, by decide +kernel, rfl, by decide +kernel, by decide +kernel⟩
theorem bi_wordsOf (D : DefAt K mg "words_of" (top 78)) : Binds K D.fd ["text"] [] := D.F.binds fun _ _ _ _ _ _ us hl => match us, hl with | [_], _ => rfl
def wPairs (ws : List Word) : List (Bytes × Nat) := ws.map fun w => (w.text, w.place)
theorem wAt_len (l : List Nat) : ∀ i, (wAt l i).1.length ≤ i ∧ (wAt l i).2.length ≤ i
  | 0 => ⟨Nat.le_refl _, Nat.le_refl _⟩
  | i + 1 => by
    have ih := wAt_len l i
    show (match l[i]? with | some c => wStep (wAt l i) i c | none => wAt l i).1.length ≤ i + 1 ∧ _
    cases h : l[i]? with
    | none =>
      have : wAt l (i + 1) = wAt l i := by
        show (match l[i]? with | some c => wStep (wAt l i) i c | none => wAt l i) = _
        rw [h]
      rw [this]
      exact ⟨by dsimp only; omega, by omega⟩
    | some c =>
      rw [wAt_succ h]
      dsimp only
      unfold wStep
      split
      · exact ⟨by dsimp only; omega, by rw [List.length_append, List.length_cons, List.length_nil]; omega⟩
      · split
        · exact ⟨by rw [List.length_append, List.length_cons, List.length_nil]; omega, Nat.zero_le _⟩
        · exact ⟨by omega, by omega⟩
theorem none_back {H H' : Hp} (s : Same H H') {a : Addr} (h : H' a = none) : H a = none := by
  cases e : H a with
  | none => rfl
  | some o => rw [s _ _ e] at h; cases h
theorem ok_wordsOf (T : Tx w K mg) : FnOk P w K mg base CX0 2 T.f_words_of.f T.f_words_of.fd ["text"] spWordsOf := by
  have GT : FnOk P w K mg base CX0 1 _ _ _ spTable := ok_table T
  refine T.f_words_of.F.ok sc_wordsOf (fun vs H Q E h => ?_) (fun cdv A outer s H vs Q E hr h => ?_)
  · obtain ⟨a, t, rfl, _⟩ := h
    rfl
  · obtain ⟨a, t, rfl, hA, hlen, hby, kQ⟩ := h
    have hu := hu_of hr
    refine ⟨_, pss_cons (ps_set (i := 1) sc_wordsOf.nd rfl (Or.inl rfl) (pe_call0 GT hr rfl T.f_sign_table.g T.f_sign_table.F.kp (bi_table _) .nil pass0))
      (pss_cons (ps_set (i := 2) sc_wordsOf.nd rfl (Or.inl rfl) (pe_lst pa_nil))
      (pss_cons (ps_set (i := 3) sc_wordsOf.nd rfl (Or.inl rfl) pe_str)
      (pss_cons (ps_for PassesOwn.never rfl (pi_enum (by rfl) T.b_enumerate (pa_cons (pe_op op_cat (pv 0) (pe_lst (pa_cons (pe_ki T.k_BLANK) pa_nil))) pa_nil)) (pg_tup rfl (pgs_cons (pg_name (i := 4) sc_wordsOf.nd rfl (Or.inl rfl)) (pgs_cons (pg_name (i := 5) sc_wordsOf.nd rfl (Or.inl rfl)) pgs_nil)))
        (pss_one (ps_if (pt_join (PW.pt (pw_and (pt_cmpR op_ne (pv 5) (pe_ki T.k_BLANK) (nomark _)) (pw_and1 (pt_cmpR op_ne (pv 5) (pe_ki T.k_LINE_END) (nomark _))))))
          (pss_one (ps_aug (i := 3) sc_wordsOf.nd rfl (Or.inl rfl) (pe_dget2 hu (pv 1) (pv 5) (pe_ks T.k_OTHER) ⟨rfl, rfl, rfl, rfl⟩) iop_add_str))
          (pss_one (ps_if (pt_cmpR op_ne (pv 3) pe_str (nomark _))
            (pss_cons (ps_expr (pe_bm PySem.F.plainAttrs_list PySem.F.slot_list_append PySem.F.type_list_append mt_append (pv 2) (pa_cons (pe_tup (pa_cons (pv 3) (pa_cons (pe_op op_sub (pv 4) (pe_callB call_len_str (by rfl) T.b_len PySem.boot_len (pa_cons (pv 3) pa_nil))) pa_nil))) pa_nil)))
            (pss_one (ps_set (i := 3) sc_wordsOf.nd rfl (Or.inl rfl) pe_str))) pss_nil)))))
      (pss_cons (ps_expr (pe_bm PySem.F.plainAttrs_list PySem.F.slot_list_append PySem.F.type_list_append mt_append (pv 2) (pa_cons (pe_tup (pa_cons pe_str (pa_cons (pe_callB call_len_seq (by rfl) T.b_len PySem.boot_len (pa_cons (pv 0) pa_nil)) pa_nil))) pa_nil)))
      (pss_one (ps_ret (pv 2))))))), ?_⟩
    refine ⟨rfl, fun H1 dt s1 hT => ?_⟩
    refine ⟨Nat.zero_le _, fun p np => ?_⟩
    have hnp : H p = none := none_back s1 np
    have ndp : dt ≠ p := ne_of_none hT np
    have sp : Same H (upd H1 p (.lst [])) := s1.trans (same_new np)
    refine ⟨_, rfl, Nat.le_of_lt (size_lt (by decide)), fun b nb => ?_⟩
    have nbp : p ≠ b := ne_of_none upd_same nb
    have sb : Same H (upd (upd H1 p (.lst [])) b (.lst [.int 32])) := sp.trans (same_new nb)
    refine ⟨_, _, _, _, rfl, rfl, sb _ _ hA, upd_same, Nat.le_of_lt (size_lt (by rw [show (nats t).length = t.length from List.length_map ..]; show t.length + 1 ≤ _; omega)), fun q nq => ?_⟩
    have hq : nats t ++ [.int 32] = nats (t ++ [32]) := by unfold nats; rw [List.map_append]; rfl
    rw [hq]
    have hp2 : (upd (upd H1 p (.lst [])) b (.lst [.int 32])) p = some (.lst []) := by rw [upd_ne nbp]; exact upd_same
    have npq : p ≠ q := ne_of_none hp2 nq
    have hT2 : (upd (upd H1 p (.lst [])) b (.lst [.int 32])) dt = some (.dK (tabOf SIG)) := by
      refine same_new nb _ _ ?_
      exact same_new np _ _ hT
    refine ⟨q, _, rfl, SqL.of upd_same, for_it walk_enum (fun i σ' H' => ∃ x y, σ' = [some (.ref a), some (.ref dt), some (.ref p), some (.str (S (wAt (t ++ [32]) i).2)), x, y] ∧ Same H H' ∧ H' q = some (.lst (nats (t ++ [32]))) ∧ H' dt = some (.dK (tabOf SIG)) ∧ ListAt WordAt H' p (wPairs (wAt (t ++ [32]) i).1)) ?_ (fun i σ' H' _ ⟨_, _, _, s1, hq, _⟩ => SqL.of hq) ?_ ?_⟩
    · exact ⟨none, none, rfl, sb.trans (same_new nq), upd_same, same_new nq _ _ hT2, [], same_new nq _ _ hp2, .nil⟩
    · rintro i v σ' H2 H3 hi ⟨x, y, rfl, s2, h2q, h2d, as, a1, a2⟩ ⟨Tt, v1, v2, rfl, nT, rfl, e1, e2⟩
      have e1 : V.int (i : Nat) = v1 := Option.some.inj e1
      subst e1
      obtain ⟨c, hc, rfl⟩ := nats_get e2
      have sT := same_new (o := .tup [.int (i : Nat), .int c]) nT
      have hL := wAt_len (t ++ [32]) i
      have hi2 : i ≤ 1501 := by
        have := (List.getElem?_eq_some_iff.mp hc).1
        rw [List.length_append, List.length_cons, List.length_nil] at this; omega
      refine ⟨Tt, _, rfl, SqT.of upd_same, rfl, _, _, rfl, _, _, rfl, rfl, ?_⟩
      refine ⟨fun bb Hx => Hx = upd H2 Tt (.tup [.int (i : Nat), .int c]) ∧ bb = decide (c ≠ 32 ∧ c ≠ 10), ?_, ?_⟩
      · refine ⟨_, rfl, rfl, _, rfl, ?_⟩
        by_cases h32 : c = 32
        · subst h32
          exact if_f rfl ⟨rfl, rfl⟩
        · refine if_t (by rw [show decide (V.int (c : Int) = V.int 32) = false from decide_eq_false fun z => h32 (by have := V.int.inj z; omega)]; rfl) ⟨_, rfl, rfl, _, rfl, rfl, ?_⟩
          by_cases h10 : c = 10
          · subst h10; rfl
          · rw [show decide (V.int (c : Int) = V.int 10) = false from decide_eq_false fun z => h10 (by have := V.int.inj z; omega), decide_eq_true ⟨h32, h10⟩]; rfl
      · rintro bb Hx ⟨rfl, rfl⟩
        by_cases hcc : c ≠ 32 ∧ c ≠ 10
        · refine if_t (decide_eq_true hcc) ⟨_, rfl, _, rfl, dt, rfl, (.inl ⟨_, .inl (sT _ _ h2d)⟩), _, rfl, _, DGet.k (k := Sum.inl (c : Int)) (sT _ _ h2d), S (wAt (t ++ [32]) i).2, S [cl c], rfl, ?_, ?_, ?_⟩
          · rw [val_tab]
            unfold cl
            split <;> rfl
          · exact Nat.le_of_lt (size_lt (by show (wAt (t ++ [32]) i).2.length + 1 ≤ _; omega))
          · rw [S_app]
            have : wAt (t ++ [32]) (i + 1) = ((wAt (t ++ [32]) i).1, (wAt (t ++ [32]) i).2 ++ [cl c]) := by
              rw [wAt_succ hc]; unfold wStep; rw [if_pos hcc]
            rw [this]
            exact ⟨_, _, rfl, s2.trans sT, sT _ _ h2q, sT _ _ h2d, as, sT _ _ a1, a2.imp (WordAt.same sT)⟩
        · refine if_f (decide_eq_false hcc) ⟨_, rfl, rfl, _, rfl, ?_⟩
          have hst : wAt (t ++ [32]) (i + 1) = if (wAt (t ++ [32]) i).2 ≠ [] then ((wAt (t ++ [32]) i).1 ++ [⟨i - (wAt (t ++ [32]) i).2.length, (wAt (t ++ [32]) i).2⟩], []) else wAt (t ++ [32]) i := by
            rw [wAt_succ hc]; unfold wStep; rw [if_neg hcc]
          by_cases hw : (wAt (t ++ [32]) i).2 = []
          · rw [if_neg (fun z => z hw)] at hst
            rw [hst]
            refine if_f (by rw [hw]; rfl) ?_
            exact ⟨_, _, rfl, s2.trans sT, sT _ _ h2q, sT _ _ h2d, as, sT _ _ a1, a2.imp (WordAt.same sT)⟩
          · rw [if_pos hw] at hst
            rw [hst]
            refine if_t (by rw [show (V.str (Str.ofString "") : V) = .str (S []) from rfl, dec_str, decide_eq_false hw]; rfl) ?_
            refine ⟨_, rfl, .inl ⟨rfl, _, SqL.of (sT _ _ a1)⟩, _, rfl, _, rfl, _, rfl, _, rfl, Nat.le_of_lt (size_lt (by show (wAt (t ++ [32]) i).2.length ≤ _; omega)), _, _, rfl, rfl, Nat.le_of_lt (size_lt (show 2 ≤ 4000 by decide)), fun tp ntp => ?_⟩
            have sU := same_new (o := .tup [.str (S (wAt (t ++ [32]) i).2), .int ((i : Int) - ((wAt (t ++ [32]) i).2.length : Nat))]) ntp
            have a3 := sU _ _ (sT _ _ a1)
            have sx : Same H2 (upd (upd H2 Tt (.tup [.int (i : Nat), .int c])) tp (.tup [.str (S (wAt (t ++ [32]) i).2), .int ((i : Int) - ((wAt (t ++ [32]) i).2.length : Nat))])) := sT.trans sU
            refine ⟨p, _, _, rfl, rfl, a3, ?_, ?_⟩
            · rw [List.length_map, a2.length]
              unfold wPairs
              rw [List.length_map]
              exact size_lt (by omega)
            · refine ⟨_, _, rfl, fun z o hz => ?_, ?_, ?_, as ++ [tp], ?_, ?_⟩
              · rw [upd_ne (ne_of_none hz hnp)]
                exact (s2.trans sx) _ _ hz
              · rw [upd_ne (fun z => npq z.symm)]
                exact sx _ _ h2q
              · rw [upd_ne ndp]
                exact sx _ _ h2d
              · rw [upd_same, List.map_append]; rfl
              · have e3 : wPairs ((wAt (t ++ [32]) i).1 ++ [⟨i - (wAt (t ++ [32]) i).2.length, (wAt (t ++ [32]) i).2⟩]) = wPairs (wAt (t ++ [32]) i).1 ++ [((wAt (t ++ [32]) i).2, i - (wAt (t ++ [32]) i).2.length)] := by
                  unfold wPairs; rw [List.map_append]; rfl
                dsimp only
                rw [e3]
                refine AllAt.snoc (a2.imp fun z o hz => ?_) ?_
                · have h1 : WordAt _ z o := WordAt.same sx _ _ hz
                  unfold WordAt at h1 ⊢
                  rw [upd_ne (fun zz => by rw [zz, a3] at h1; cases h1)]
                  exact h1
                · show upd _ p _ tp = _
                  rw [upd_ne (fun zz => by rw [zz, sT _ _ a1] at ntp; cases ntp), upd_same]
                  show some (HO.tup [.str (S (wAt (t ++ [32]) i).2), .int ((i : Int) - ((wAt (t ++ [32]) i).2.length : Nat))]) = some (HO.tup [.str (S (wAt (t ++ [32]) i).2), .int ((i - (wAt (t ++ [32]) i).2.length : Nat) : Int)])
                  rw [show ((i : Int) - ((wAt (t ++ [32]) i).2.length : Nat)) = ((i - (wAt (t ++ [32]) i).2.length : Nat) : Int) by omega]
    · rintro σ' H' ⟨x, y, rfl, s2, h2q, h2d, as, a1, a2⟩
      have hn : (nats (t ++ [32])).length = t.length + 1 := by unfold nats; rw [List.length_map, List.length_append]; rfl
      rw [hn, wAt_all] at a2
      refine ⟨_, rfl, .inl ⟨rfl, _, SqL.of a1⟩, _, rfl, _, _, rfl, .inl (SqL.of (s2 _ _ hA)), Nat.le_of_lt (size_lt (show 2 ≤ 4000 by decide)), fun tp ntp => ?_⟩
      have sU := same_new (o := .tup [.str (S []), .int ((nats t).length : Nat)]) ntp
      have a3 := sU _ _ a1
      refine ⟨p, _, _, rfl, rfl, a3, ?_, _, rfl, kQ _ p ?_ ⟨as ++ [tp], ?_, ?_⟩⟩
      · rw [List.length_map, a2.length]
        unfold wPairs
        rw [List.length_map, List.length_map]
        have := wordsFrom_count t 0 0 []
        exact size_lt (by show (words t).length ≤ _; unfold words; omega)
      · intro z o hz
        rw [upd_ne (ne_of_none hz hnp)]
        exact (s2.trans sU) _ _ hz
      · rw [upd_same, List.map_append]; rfl
      · refine AllAt.snoc (a2.imp fun z o hz => ?_) ?_
        · have h1 : WordAt _ z o := WordAt.same sU _ _ hz
          unfold WordAt at h1 ⊢
          rw [upd_ne (fun zz => by rw [zz, a3] at h1; cases h1)]
          exact h1
        · show upd _ p _ tp = _
          rw [upd_ne (fun zz => by rw [zz, a1] at ntp; cases ntp), upd_same]
          show some (HO.tup [.str (S []), .int ((nats t).length : Nat)]) = some (HO.tup [.str (S []), .int (t.length : Nat)])
          rw [show (nats t).length = t.length from List.length_map ..]
end
end Sco
namespace Sco
open PySem PySem.Spec PyProof.Rows L2 Sx62
section
variable {P : Program} {w : World} {K : PySem.W.Frag} {mg : Str → Option Value} {base : Heap}
/-! ### check_lengths -/
def spLengths (cV cB cE cF : Addr) : Sp := fun vs H Q E => ∃ (a : Addr) (v : Voice) (fl : Nat), vs = [.ref a, .int fl] ∧ VoiceAt cV cB cE H a v ∧
  (∀ b, v.bars.find? (fun b => !right fl b) = some b → Falls cF [] H ⟨5, b.place⟩ E) ∧ (v.bars.find? (fun b => !right fl b) = none → Q .non H)
theorem sc_lengths : FnScope ["voice", "full", "bar", "right"] ["voice", "full"] (defScope (top 11)) := ⟨rfl, rfl, rfl, by decide +kernel, rfl, by decide +kernel, by decide +kernel⟩
theorem bi_lengths (D : DefAt K mg "check_lengths" (top 11)) : Binds K D.fd ["voice", "full"] [] := D.F.binds fun _ _ _ _ _ _ us hl => match us, hl with | [_, _], _ => rfl
theorem dec_nat {a b : Nat} : (a == b) = decide (V.int (a : Int) = V.int (b : Int)) := by
  by_cases h : a = b
  · subst h; simp
  · rw [show decide (V.int (a : Int) = V.int (b : Int)) = false from decide_eq_false fun z => h (Int.ofNat.inj (V.int.inj z))]; exact beq_eq_false_iff_ne.mpr h
theorem find_at {α : Type} {p : α → Bool} {l : List α} {i : Nat} {b : α} (hb : l[i]? = some b) (hp : p b = true) (h : ∀ j c, j < i → l[j]? = some c → p c = false) : l.find? p = some b := by
  obtain ⟨h1, h2⟩ := List.getElem?_eq_some_iff.mp hb
  rw [List.find?_eq_some_iff_getElem]
  refine ⟨hp, i, h1, h2, fun j hj => ?_⟩
  rw [h j l[j] hj (List.getElem?_eq_getElem (by omega))]; rfl
theorem find_no {α : Type} {p : α → Bool} {l : List α} {n : Nat} (hn : l.length ≤ n) (h : ∀ j c, j < n → l[j]? = some c → p c = false) : l.find? p = none := by
  rw [List.find?_eq_none]
  intro x hx
  obtain ⟨j, hj⟩ := List.getElem?_of_mem hx
  rw [h j x (by have := (List.getElem?_eq_some_iff.mp hj).1; omega) hj]
  decide
theorem all_step {α : Type} {q : α → Prop} {l : List α} {i : Nat} {b : α} (hb : l[i]? = some b) (hp : q b) (h : ∀ j c, j < i → l[j]? = some c → q c) : ∀ j c, j < i + 1 → l[j]? = some c → q c := fun j c hj hc => by
  rcases Nat.lt_or_ge j i with z | z
  · exact h j c z hc
  · have : j = i := by omega
    subst this
    rw [hb] at hc
    injection hc with hc
    rw [← hc]; exact hp
theorem ok_lengths (T : Tx w K mg) : FnOk P w K mg base (L2.CX P w) 3 T.f_check_lengths.f T.f_check_lengths.fd ["voice", "full"] (spLengths T.c_Voice T.c_Bar T.c_Event T.c_Fault) := by
  refine T.f_check_lengths.F.okX sc_lengths (fun vs H Q E h => ?_) (fun cdv A outer s H vs Q E hr h => ?_)
  · obtain ⟨a, v, fl, rfl, _⟩ := h
    rfl
  · obtain ⟨a, v, fl, rfl, ⟨dx, bs, es, hv, ⟨as, hb, hbs⟩, _⟩, kF, kS⟩ := h
    refine ⟨_, pss_one (ps_for (passes_of rfl) rfl (pi_list (pe_fld (pv 0) rfl)) (pg_name (i := 2) sc_lengths.nd rfl (Or.inl rfl))
      (pss_mid (ps_set (i := 3) sc_lengths.nd rfl (Or.inl rfl) (pe_ifExp (pt_val (pe_fld (pv 2) rfl)) (pe_cmpR op_lt (pe_fld (pv 2) rfl) (pv 1) (nomark _)) (pe_cmpR op_eq (pe_fld (pv 2) rfl) (pv 1) (nomark _))))
      (pss_one (ps_if (pt_not (pt_val (pv 3)))
        (pss_one (ps_raiseF (W := fun cls d _ H => E cls d H) rfl T.x_Fault hr (takes_of rfl rfl rfl rfl) (by exact (pa_cons (pe_ki T.k_BAD_LENGTH) (pa_cons (pe_fld (pv 2) rfl) pa_nil))))) pss_nil)))), ?_⟩
    refine ⟨_, rfl, a, _, dx, _, _, rfl, hv, T.cl_Voice, T.n_Voice_bars, vF_bars, bs, rfl, ⟨_, SqL.of hb⟩, for_list (K := K) (a := bs) (xs := as.map V.ref) (fun i σ H' => ∃ x y, σ = [some (.ref a), some (.int fl), x, y] ∧ H' = H ∧ ∀ j c, j < i → v.bars[j]? = some c → (!right fl c) = false) ⟨none, none, rfl, rfl, fun j c hj => absurd hj (Nat.not_lt_zero _)⟩ ?_ ?_ ?_⟩
    · rintro i σ H' hi ⟨x, y, rfl, rfl, _⟩
      exact SqL.of hb
    · rintro i y σ H' hi ⟨x, y, rfl, rfl, hall⟩
      obtain ⟨b, hb1, rfl⟩ := refs_get hi
      obtain ⟨bar, e1, dxb, lw, e2, e3⟩ := hbs.got hb1
      refine ⟨fun σ' Hx => σ' = [some (.ref a), some (.int fl), some (.ref b), some (.bl (right fl bar))] ∧ Hx = H', ?_, ?_⟩
      · refine ⟨_, rfl, b, _, dxb, _, _, rfl, e2, T.cl_Bar, T.n_Bar_short, bF_short, _, rfl, ?_⟩
        unfold right
        cases bar.short with
        | true =>
          refine if_t rfl ⟨_, rfl, b, _, dxb, _, _, rfl, e2, T.cl_Bar, T.n_Bar_length, bF_length, _, rfl, _, _, rfl, rfl, ?_⟩
          refine ⟨?_, rfl⟩
          rw [if_pos rfl, show decide (barLen bar < fl) = decide ((barLen bar : Int) < (fl : Int)) from decide_eq_decide.mpr (by omega)]; rfl
        | false =>
          refine if_f rfl ⟨_, rfl, b, _, dxb, _, _, rfl, e2, T.cl_Bar, T.n_Bar_length, bF_length, _, rfl, rfl, ?_⟩
          refine ⟨?_, rfl⟩
          rw [if_neg (by decide), dec_nat]; rfl
      · rintro σ' Hx ⟨rfl, rfl⟩
        refine ⟨_, rfl, _, rfl, ?_⟩
        cases hR : right fl bar with
        | true =>
          refine if_f rfl ?_
          exact ⟨_, _, rfl, rfl, all_step e1 (by rw [hR]; rfl) hall⟩
        | false =>
          refine if_t rfl ⟨_, rfl, b, _, dxb, _, _, rfl, e2, T.cl_Bar, T.n_Bar_place, bF_place, _, _, rfl, fun d nd => ?_⟩
          exact kF bar (find_at e1 (by rw [hR]; rfl) hall) _ d (But.of (same_new nd)) upd_same
    · rintro σ H' ⟨x, y, rfl, rfl, hall⟩
      refine kS (find_no (n := (as.map V.ref).length) (by rw [List.length_map, hbs.length]; exact Nat.le_refl _) hall)
/-! ### check_fit -/
def spFit (cV cB cE cF : Addr) : Sp := fun vs H Q E => ∃ (a f : Addr) (v u : Voice), vs = [.ref a, .ref f] ∧ VoiceAt cV cB cE H a v ∧ VoiceAt cV cB cE H f u ∧
  (∀ p, againstE v.place u.bars v.bars = some p → Falls cF [] H ⟨7, p⟩ E) ∧ (againstE v.place u.bars v.bars = none → ∀ H', Same H H' → Q .non H')
theorem sc_fit : FnScope ["voice", "first", "at", "bar"] ["voice", "first"] (defScope (top 13)) := ⟨rfl, rfl, rfl, by decide +kernel, rfl, by decide +kernel, by decide +kernel⟩
theorem bi_fit (D : DefAt K mg "check_fit" (top 13)) : Binds K D.fd ["voice", "first"] [] := D.F.binds fun _ _ _ _ _ _ us hl => match us, hl with | [_, _], _ => rfl
theorem ok_fit (T : Tx w K mg) : FnOk P w K mg base (L2.CX P w) 3 T.f_check_fit.f T.f_check_fit.fd ["voice", "first"] (spFit T.c_Voice T.c_Bar T.c_Event T.c_Fault) := by
  refine T.f_check_fit.F.okX sc_fit (fun vs H Q E h => ?_) (fun cdv A outer s H vs Q E hr h => ?_)
  · obtain ⟨a, f, v, u, rfl, _⟩ := h
    rfl
  · obtain ⟨a, f, v, u, rfl, ⟨dx, bs, es, hv, ⟨as, hb, hbs⟩, _⟩, ⟨dxf, fs, ef, hf, ⟨fas, hfb, hfs⟩, _⟩, kF, kS⟩ := h
    refine ⟨_, pss_cons (ps_for (passes_of rfl) rfl (pi_enum (by rfl) T.b_enumerate (pa_cons (pe_fld (pv 0) rfl) pa_nil)) (pg_tup rfl (pgs_cons (pg_name (i := 2) sc_fit.nd rfl (Or.inl rfl)) (pgs_cons (pg_name (i := 3) sc_fit.nd rfl (Or.inl rfl)) pgs_nil)))
      (pss_one (ps_if (pt_join (PW.pt (pw_or (pt_cmpR op_ge (pv 2) (pe_callB call_len_seq (by rfl) T.b_len PySem.boot_len (pa_cons (pe_fld (pv 1) rfl) pa_nil)) (nomark _)) (pw_or1 (pt_cmpR op_ne (pe_fld (pv 3) rfl) (pe_fld (pe_ix ix_list (pe_fld (pv 1) rfl) (pv 2) (fun _ _ => rfl)) rfl) (nomark _))))))
        (pss_one (ps_raiseF (W := fun cls d _ H => E cls d H) rfl T.x_Fault hr (takes_of rfl rfl rfl rfl) (by exact (pa_cons (pe_ki T.k_UNLIKE_BAR) (pa_cons (pe_fld (pv 3) rfl) pa_nil))))) pss_nil)))
      (pss_one (ps_if (pt_cmpR op_lt (pe_callB call_len_seq (by rfl) T.b_len PySem.boot_len (pa_cons (pe_fld (pv 0) rfl) pa_nil)) (pe_callB call_len_seq (by rfl) T.b_len PySem.boot_len (pa_cons (pe_fld (pv 1) rfl) pa_nil)) (nomark _))
        (pss_one (ps_raiseF (W := fun cls d _ H => E cls d H) rfl T.x_Fault hr (takes_of rfl rfl rfl rfl) (by exact (pa_cons (pe_ki T.k_UNLIKE_BAR) (pa_cons (pe_fld (pv 0) rfl) pa_nil))))) pss_nil)), ?_⟩
    refine ⟨_, rfl, a, _, dx, _, _, rfl, hv, T.cl_Voice, T.n_Voice_bars, vF_bars, bs, _, rfl, SqL.of hb, for_it walk_enum (fun i σ H' => ∃ x y, σ = [some (.ref a), some (.ref f), x, y] ∧ Same H H' ∧ i ≤ u.bars.length ∧ againstE v.place u.bars v.bars = againstE v.place (u.bars.drop i) (v.bars.drop i)) ⟨none, none, rfl, Same.refl _, Nat.zero_le _, rfl⟩ (fun i σ' H' _ ⟨_, _, _, s1, _⟩ => SqL.of (s1 _ _ hb)) ?_ ?_⟩
    · rintro i vv σ' H1 H2 hi ⟨x, y, rfl, s1, hle, hag⟩ ⟨Tt, v1, v2, rfl, nT, rfl, q1, q2⟩
      have q1 : V.int (i : Nat) = v1 := Option.some.inj q1
      subst q1
      obtain ⟨b, hb1, rfl⟩ := refs_get q2
      obtain ⟨bar, e1, dxb, lw, e2, e3⟩ := hbs.got hb1
      have s2 : Same H (upd H1 Tt (.tup [.int (i : Nat), .ref b])) := s1.trans (same_new nT)
      have hb9 := List.getElem?_eq_some_iff.mp e1
      have hd : v.bars.drop i = bar :: v.bars.drop (i + 1) := by rw [List.drop_eq_getElem_cons hb9.1, hb9.2]
      rw [hd] at hag
      refine ⟨Tt, _, rfl, SqT.of upd_same, rfl, _, _, rfl, _, _, rfl, rfl, ?_⟩
      refine ⟨fun bb Hx => Hx = upd H1 Tt (.tup [.int (i : Nat), .ref b]) ∧ (bb = true → againstE v.place u.bars v.bars = some bar.place) ∧ (bb = false → i < u.bars.length ∧ againstE v.place u.bars v.bars = againstE v.place (u.bars.drop (i + 1)) (v.bars.drop (i + 1))), ?_, ?_⟩
      · refine ⟨_, rfl, _, rfl, f, _, dxf, _, _, rfl, s2 _ _ hf, T.cl_Voice, T.n_Voice_bars, vF_bars, fs, _, rfl, .inl (SqL.of (s2 _ _ hfb)), _, _, rfl, rfl, _, rfl, ?_⟩
        rw [List.length_map, hfs.length]
        by_cases hlt : i < u.bars.length
        · have hdu : u.bars.drop i = u.bars[i] :: u.bars.drop (i + 1) := List.drop_eq_getElem_cons hlt
          rw [hdu] at hag
          obtain ⟨fb, g1, dxg, lg, g2, g3⟩ := hfs.get (List.getElem?_eq_getElem hlt)
          refine if_f (decide_eq_false (by omega)) ⟨_, rfl, b, _, dxb, _, _, rfl, s2 _ _ e2, T.cl_Bar, T.n_Bar_length, bF_length, _, rfl, f, _, dxf, _, _, rfl, s2 _ _ hf, T.cl_Voice, T.n_Voice_bars, vF_bars, _, rfl, fs, _, _, _, rfl, rfl, SqL.of (s2 _ _ hfb), atI_nat (by rw [List.getElem?_map, g1]; rfl), fb, _, dxg, _, _, rfl, s2 _ _ g2, T.cl_Bar, T.n_Bar_length, bF_length, rfl, _, rfl, ?_⟩
          have e9 : againstE v.place (u.bars[i] :: u.bars.drop (i + 1)) (bar :: v.bars.drop (i + 1)) = if barLen u.bars[i] == barLen bar then againstE v.place (u.bars.drop (i + 1)) (v.bars.drop (i + 1)) else some bar.place := rfl
          rw [e9] at hag
          by_cases hq : barLen bar = barLen u.bars[i]
          · rw [hq, if_pos (beq_iff_eq.mpr rfl)] at hag
            rw [hq]
            refine ⟨rfl, fun z => ?_, fun _ => ⟨hlt, hag⟩⟩
            rw [decide_eq_true rfl] at z; cases z
          · rw [if_neg (fun z => hq (beq_iff_eq.mp z).symm)] at hag
            refine ⟨rfl, fun _ => hag, fun z => ?_⟩
            rw [show decide (V.int (barLen bar : Int) = V.int (barLen u.bars[i] : Int)) = false from decide_eq_false fun z => hq (Int.ofNat.inj (V.int.inj z))] at z; cases z
        · have : u.bars.drop i = [] := List.drop_of_length_le (by omega)
          rw [this] at hag
          refine if_t (decide_eq_true (by omega)) ⟨rfl, fun _ => hag, fun z => by cases z⟩
      · rintro bb Hx ⟨rfl, hT, hN⟩
        cases bb with
        | true =>
          refine if_t rfl ⟨_, rfl, b, _, dxb, _, _, rfl, s2 _ _ e2, T.cl_Bar, T.n_Bar_place, bF_place, _, _, rfl, fun d nd => ?_⟩
          exact kF _ (hT rfl) _ d (But.of (s2.trans (same_new nd))) upd_same
        | false =>
          exact if_f rfl ⟨_, _, rfl, s2, (hN rfl).1, (hN rfl).2⟩
    · rintro σ H' ⟨x, y, rfl, s1, hle, hag⟩
      rw [List.length_map, hbs.length] at hle hag
      rw [List.drop_length] at hag
      refine ⟨_, rfl, a, _, dx, _, _, rfl, s1 _ _ hv, T.cl_Voice, T.n_Voice_bars, vF_bars, bs, _, rfl, .inl (SqL.of (s1 _ _ hb)), _, rfl, f, _, dxf, _, _, rfl, s1 _ _ hf, T.cl_Voice, T.n_Voice_bars, vF_bars, fs, _, rfl, .inl (SqL.of (s1 _ _ hfb)), _, _, rfl, rfl, _, rfl, ?_⟩
      rw [List.length_map, hbs.length, List.length_map, hfs.length]
      by_cases hlt : v.bars.length < u.bars.length
      · refine if_t (decide_eq_true (by omega)) ⟨_, rfl, a, _, dx, _, _, rfl, s1 _ _ hv, T.cl_Voice, T.n_Voice_end, vF_end, _, _, rfl, fun d nd => ?_⟩
        rw [List.drop_eq_getElem_cons hlt] at hag
        exact kF _ hag _ d (But.of (s1.trans (same_new nd))) upd_same
      · refine if_f (decide_eq_false (by omega)) ?_
        rw [List.drop_of_length_le (by omega)] at hag
        exact kS hag _ s1
end
end Sco
namespace Sco
open PySem PySem.Spec PyProof.Rows L2 Sx62
/-! ### a pitch in a list of pitches -/
def pD (p : Pitch) : PyData := .tuple [.int p.octave, .int p.letter, .int p.sign]
theorem pD_lay (p : Pitch) : (pD p).canLay0 = true := by simp [pD, PyData.canLay0, PyData.canLayAll0]
theorem pD_depth (p : Pitch) : (pD p).depth = 1 := by simp [pD, PyData.depth, PyData.depthAll]
theorem pDs_lay : ∀ ps : List Pitch, PyData.canLayAll0 (ps.map pD) = true
  | [] => by simp [PyData.canLayAll0]
  | p :: ps => by simp [PyData.canLayAll0, pD_lay p, pDs_lay ps]
theorem pDs_depth : ∀ ps : List Pitch, PyData.depthAll (ps.map pD) ≤ 1
  | [] => by simp [PyData.depthAll]
  | p :: ps => by
    have := pDs_depth ps
    simp [PyData.depthAll, pD_depth p]; omega
theorem pD_eqv (p q : Pitch) : PyData.eqv (pD p) (pD q) = decide (p = q) := by
  obtain ⟨a, b, c⟩ := p
  obtain ⟨d, e, f⟩ := q
  have h : PyData.eqv (pD ⟨a, b, c⟩) (pD ⟨d, e, f⟩) = ((c : Int) == f && ((a : Int) == d && ((b : Int) == e && true))) := by
    simp [pD, PyData.eqv, PyData.eqvAll]
  rw [h]
  by_cases h1 : c = f
  · by_cases h2 : a = d
    · by_cases h3 : b = e
      · subst h1 h2 h3; simp
      · rw [decide_eq_false fun z => h3 (Pitch.mk.inj z).2.1, show ((b : Int) == e) = false from beq_eq_false_iff_ne.mpr (by omega)]; simp
    · rw [decide_eq_false fun z => h2 (Pitch.mk.inj z).1, show ((a : Int) == d) = false from beq_eq_false_iff_ne.mpr (by omega)]; simp
  · rw [decide_eq_false fun z => h1 (Pitch.mk.inj z).2.2, show ((c : Int) == f) = false from beq_eq_false_iff_ne.mpr (by omega)]; simp
theorem any_pD (p : Pitch) : ∀ ps : List Pitch, ((ps.map pD).any fun z => PyData.eqv z (pD p)) = ps.contains p
  | [] => rfl
  | q :: ps => by
    rw [List.map_cons, List.any_cons, any_pD p ps, pD_eqv, List.contains_cons]
    congr 1
    by_cases h : q = p
    · subst h; simp
    · rw [decide_eq_false h]; exact (beq_eq_false_iff_ne.mpr fun z => h z.symm).symm
section
variable {P : Program} {w : World} {K : PySem.W.Frag} {mg : Str → Option Value} {base : Heap}
theorem dp_pitch {H : Hp} {a : Addr} {p : Pitch} (h : PitchAt H a p) : Dp K H (.ref a) (pD p) := .tup (SqT.of h) (.cons (.int _) (.cons (.int _) (.cons (.int _) .nil)))
theorem dp_all {H : Hp} : ∀ {as : List Addr} {ps : List Pitch}, AllAt (PitchAt H) as ps → DpAll K H (as.map V.ref) (ps.map pD)
  | _, _, .nil => .nil
  | _, _, .cons r t => .cons (dp_pitch r) (dp_all t)
theorem dp_pitches {H : Hp} {l : Addr} {ps : List Pitch} (h : ListAt PitchAt H l ps) : Dp K H (.ref l) (.list (ps.map pD)) := by
  obtain ⟨as, h1, h2⟩ := h
  exact .lst (SqL.of h1) (dp_all h2)
theorem sh_pitch (p : Pitch) : SeqAt.shaped (pD p) = true := by
  unfold SeqAt.shaped
  rw [pD_lay, pD_depth]; rfl
theorem sh_pitches (ps : List Pitch) : SeqAt.shaped (.list (ps.map pD)) = true := by
  unfold SeqAt.shaped
  have h1 : PyData.canLay0 (.list (ps.map pD)) = true := pDs_lay ps
  have h2 : PyData.depth (.list (ps.map pD)) ≤ 64 := by
    have := pDs_depth ps
    simp only [PyData.depth]; omega
  rw [h1, decide_eq_true h2]; rfl
theorem in_pitches {H : Hp} {a l : Addr} {p : Pitch} {ps : List Pitch} (h1 : PitchAt H a p) (h2 : ListAt PitchAt H l ps) {Q : VK} (q : Q (.bl (ps.contains p)) H) : rInD K (.ref a) (.ref l) H Q :=
  ⟨pD p, ps.map pD, dp_pitch h1, dp_pitches h2, sh_pitch p, sh_pitches ps, by rw [any_pD]; exact q⟩
theorem notin_pitches {H : Hp} {a l : Addr} {p : Pitch} {ps : List Pitch} (h1 : PitchAt H a p) (h2 : ListAt PitchAt H l ps) {Q : VK} (q : Q (.bl (!ps.contains p)) H) : rNotInD K (.ref a) (.ref l) H Q :=
  ⟨pD p, ps.map pD, dp_pitch h1, dp_pitches h2, sh_pitch p, sh_pitches ps, by rw [any_pD]; exact q⟩
theorem hu65 {A : Around} {k : Nat} (hr : Room k A) : A.units + 65 < cLine := by have := hr.un; omega
end
end Sco
namespace Sco
open PySem PySem.Spec PyProof.Rows L2 Sx62
section
variable {P : Program} {w : World} {K : PySem.W.Frag} {mg : Str → Option Value} {base : Heap}
/-! ### check_ties -/
def spTies (cV cB cE cF : Addr) : Sp := fun vs H Q E => ∃ (a : Addr) (v : Voice), vs = [.ref a] ∧ VoiceAt cV cB cE H a v ∧ (voiceEvs v).length ≤ 3000 ∧ (∀ e ∈ voiceEvs v, e.ps.length ≤ 3000) ∧
  (∀ n, looseE (voiceEvs v) = some n → Falls cF [] H ⟨6, n.place⟩ E) ∧ (looseE (voiceEvs v) = none → ∀ H', Same H H' → Q .non H')
theorem sc_ties : FnScope ["voice", "followers", "event", "follower", "pitch"] ["voice"] (defScope (top 12)) := ⟨rfl, rfl, rfl, by decide +kernel, rfl, by decide +kernel, by decide +kernel⟩
theorem bi_ties (D : DefAt K mg "check_ties" (top 12)) : Binds K D.fd ["voice"] [] := D.F.binds fun _ _ _ _ _ _ us hl => match us, hl with | [_], _ => rfl
theorem cutV1 (xs : List V) : cutV xs (some 1) none = xs.drop 1 := by
  unfold cutV
  rw [show HT.sIx xs.length 0 (some 1) = min 1 xs.length from HT.sIx_nat _ _ 1, HT.sIx_none]
  cases xs with
  | nil => rfl
  | cons a l =>
    rw [List.length_cons, show min 1 (l.length + 1) = 1 by omega]
    exact List.take_of_length_le (by rw [List.length_drop, List.length_cons]; exact Nat.le_refl _)
theorem fol_at {l : List Ev} {i : Nat} (h : i < l.length) : ((l.drop 1).map Ev.ps ++ [[]])[i]? = some (folOf (l.drop (i + 1))) := by
  by_cases h1 : i + 1 < l.length
  · rw [List.getElem?_append_left (by rw [List.length_map, List.length_drop]; omega), List.getElem?_map, List.getElem?_drop, show 1 + i = i + 1 by omega, List.getElem?_eq_getElem h1, List.drop_eq_getElem_cons h1]; rfl
  · rw [List.getElem?_append_right (by rw [List.length_map, List.length_drop]; omega), List.length_map, List.length_drop, show i - (l.length - 1) = 0 by omega, List.drop_of_length_le (by omega)]; rfl
theorem ok_ties (T : Tx w K mg) : FnOk P w K mg base (L2.CX P w) 3 T.f_check_ties.f T.f_check_ties.fd ["voice"] (spTies T.c_Voice T.c_Bar T.c_Event T.c_Fault) := by
  refine T.f_check_ties.F.okX sc_ties (fun vs H Q E h => ?_) (fun cdv A outer s H vs Q E hr h => ?_)
  · obtain ⟨a, v, rfl, _⟩ := h
    rfl
  · obtain ⟨a, v, rfl, ⟨dx, bs, es, hv, _, ⟨as, hb, hbs⟩⟩, hl1, hl2, kF, kS⟩ := h
    have hu := hu65 hr
    refine ⟨_, pss_cons (ps_set (i := 1) sc_ties.nd rfl (Or.inl rfl) (pe_op op_cat
        (pe_lc (own := [("event", 2)]) (g := gName 2) (tt := tYes) (te := tFld K (tVar 2) "pitches") rfl sc_ties.nd (pi_list (pe_slice sl_list (pe_fld (pv 0) rfl) (po_some pe_int) po_none)) (blkOk_by (own := [("event", 2)]) (N := ["voice", "followers", "event", "follower", "pitch"]) (sc := defScope (top 12)) (by decide +kernel))
              (fun _ _ _ _ _ => pg_name (i := 2) sc_ties.nd rfl (Or.inl rfl)) (fun _ _ _ _ _ => pts_nil) (fun _ _ _ _ _ => pe_fld (pv 2) rfl))
        (pe_lst (pa_cons (pe_lst pa_nil) pa_nil))))
      (pss_one (ps_for (passes_of rfl) rfl (pi_zip (by rfl) T.b_zip (pa_cons (pe_fld (pv 0) rfl) (pa_cons (pv 1) pa_nil))) (pg_tup rfl (pgs_cons (pg_name (i := 2) sc_ties.nd rfl (Or.inl rfl)) (pgs_cons (pg_name (i := 3) sc_ties.nd rfl (Or.inr rfl)) pgs_nil)))
        (pss_one (ps_if (pt_join (PW.pt (pw_and (pt_val (pe_fld (pv 2) rfl)) (pw_and1 (pt_not (pt_val (pe_callB (cr_all rfl) (by rfl) T.b_all (by decide +kernel) (pa_cons
            (pe_lc (own := [("pitch", 4)]) (g := gName 4) (tt := tYes) (te := tOp (rInD K) (tVar 4) (tVar 3)) rfl sc_ties.nd (pi_list (pe_fld (pv 2) rfl)) (blkOk_by (own := [("pitch", 4)]) (N := ["voice", "followers", "event", "follower", "pitch"]) (sc := defScope (top 12)) (by decide +kernel))
              (fun _ _ _ _ _ => pg_name (i := 4) sc_ties.nd rfl (Or.inl rfl)) (fun _ _ _ _ _ => pts_nil) (fun _ _ _ _ _ => pe_cmpR (op_inD hu) (pv 4) (pv 3) rfl)) pa_nil))))))))
          (pss_one (ps_raiseF (W := fun cls d _ H => E cls d H) rfl T.x_Fault hr (takes_of rfl rfl rfl rfl) (by exact (pa_cons (pe_ki T.k_BAD_TIE) (pa_cons (pe_fld (pv 2) rfl) pa_nil))))) pss_nil)))), ?_⟩
    refine ⟨_, rfl, a, _, dx, _, _, rfl, hv, T.cl_Voice, T.n_Voice_events, vF_events, _, rfl, es, _, rfl, SqL.of hb, fun c1 n1 => ?_⟩
    rw [cutV1]
    have sc := same_new (o := .lst ((as.map V.ref).drop 1)) n1
    generalize hHc : upd H c1 (.lst ((as.map V.ref).drop 1)) = Hc at sc
    have hc1 : Hc c1 = some (.lst ((as.map V.ref).drop 1)) := by rw [← hHc]; exact upd_same
    refine ⟨c1, rfl, ⟨_, SqL.of hc1⟩, fun D nD => ?_⟩
    refine lc_list (K := K) (a := c1) (xs := (as.map V.ref).drop 1) (fun i H' => Same Hc H' ∧ ∃ qs, H' D = some (.lst (qs.map V.ref)) ∧ AllAt (ListAt PitchAt Hc) qs (((voiceEvs v).drop 1).take i |>.map Ev.ps)) ⟨same_new nD, [], upd_same, .nil⟩ ?_ ?_ ?_
    · rintro i H' hi ⟨s1, _⟩
      exact SqL.of (s1 _ _ hc1)
    · rintro i y H' hi ⟨s1, qs, hD, hqs⟩
      rw [List.getElem?_drop] at hi
      obtain ⟨b, hb1, rfl⟩ := refs_get hi
      obtain ⟨ev, e1, dxe, qp, e2, e3⟩ := hbs.got hb1
      refine ⟨rfl, ?_⟩
      dsimp only [tYes]
      rw [if_pos rfl]
      refine ⟨_, rfl, b, _, dxe, _, _, rfl, s1 _ _ (sc _ _ e2), T.cl_Event, T.n_Event_pitches, eF_pitches, _, hD, ?_, ?_, qs ++ [qp], ?_, ?_⟩
      · rw [List.length_map, hqs.length, List.length_map, List.length_take, List.length_drop]
        exact size_lt (by omega)
      · exact fun z o hz => by rw [upd_ne (ne_of_none hz nD)]; exact s1 _ _ hz
      · rw [upd_same, List.map_append]; rfl
      · have e4 : ((voiceEvs v).drop 1)[i]? = some ev := by rw [List.getElem?_drop]; exact e1
        rw [List.take_succ, e4, List.map_append]
        exact AllAt.snoc hqs (e3.mono (PitchAt.same sc) sc)
    · rintro H3 ⟨s1, qs, hD, hqs⟩
      rw [List.length_drop, List.length_map, hbs.length, ← List.length_drop, List.take_length] at hqs
      refine ⟨Nat.zero_le _, fun E1 nE => ⟨Nat.le_of_lt (size_lt (show 1 ≤ 4000 by decide)), fun O nO => ?_⟩⟩
      have s2 : Same Hc (upd H3 E1 (.lst [])) := s1.trans (same_new nE)
      have s3 : Same Hc (upd (upd H3 E1 (.lst [])) O (.lst [.ref E1])) := s2.trans (same_new nO)
      have hD2 := same_new nO (o := .lst [.ref E1]) _ _ (same_new nE (o := .lst []) _ _ hD)
      have hE2 := same_new nO (o := .lst [.ref E1]) _ _ (upd_same (H := H3) (a := E1) (o := .lst []))
      have hql : qs.length = (voiceEvs v).length - 1 := by rw [hqs.length, List.length_map, List.length_drop]
      generalize hH4 : upd (upd H3 E1 (.lst [])) O (.lst [.ref E1]) = H4 at s3 hD2 hE2
      have hO : H4 O = some (.lst [.ref E1]) := by rw [← hH4]; exact upd_same
      refine ⟨_, _, _, _, rfl, rfl, hD2, hO, Nat.le_of_lt (size_lt (by rw [List.length_map, hql]; show _ + 1 ≤ _; omega)), fun F nF => ?_⟩
      have e5 : qs.map V.ref ++ [V.ref E1] = (qs ++ [E1]).map V.ref := by rw [List.map_append]; rfl
      rw [e5]
      have s4 : Same H (upd H4 F (.lst ((qs ++ [E1]).map V.ref))) := (sc.trans s3).trans (same_new nF)
      have s4c : Same Hc (upd H4 F (.lst ((qs ++ [E1]).map V.ref))) := s3.trans (same_new nF)
      have hE3 := same_new nF (o := .lst ((qs ++ [E1]).map V.ref)) _ _ hE2
      generalize hH5 : upd H4 F (.lst ((qs ++ [E1]).map V.ref)) = H5 at s4 s4c hE3
      have hF : H5 F = some (.lst ((qs ++ [E1]).map V.ref)) := by rw [← hH5]; exact upd_same
      have hfol : AllAt (ListAt PitchAt H5) (qs ++ [E1]) (((voiceEvs v).drop 1).map Ev.ps ++ [[]]) := AllAt.snoc (hqs.imp fun z o hz => hz.mono (PitchAt.same s4c) s4c) ⟨[], hE3, .nil⟩
      have hbs5 : AllAt (EvAt T.c_Event H5) as (voiceEvs v) := hbs.imp (EvAt.same s4)
      refine ⟨_, rfl, a, _, dx, _, _, rfl, s4 _ _ hv, T.cl_Voice, T.n_Voice_events, vF_events, _, rfl, es, F, _, _, rfl, SqL.of (s4 _ _ hb), SqL.of hF, for_it (walk_zip (n := (voiceEvs v).length) (by rw [List.length_map, List.length_map, hbs.length, List.length_append, hql]; show _ = min _ (_ + 1); omega)) (fun i σ H' => ∃ x y, σ = [some (.ref a), some (.ref F), x, y, none] ∧ Same H5 H' ∧ looseE (voiceEvs v) = looseE ((voiceEvs v).drop i)) ⟨none, none, rfl, Same.refl _, rfl⟩ (fun i σ' H' _ ⟨_, _, _, s1, _⟩ => ⟨SqL.of (s1 _ _ (s4 _ _ hb)), SqL.of (s1 _ _ hF)⟩) ?_ ?_⟩
      · rintro i vv σ' H6 H7 hi ⟨x, y, rfl, s6, hlo⟩ ⟨Tt, v1, v2, rfl, nT, rfl, q1, q2⟩
        obtain ⟨b, hb1, rfl⟩ := refs_get q1
        obtain ⟨fo, hf1, rfl⟩ := refs_get q2
        obtain ⟨ev, e1, dxe, qp, e2, pas, p1, p2⟩ := hbs5.got hb1
        obtain ⟨fps, f1, f2⟩ := hfol.got hf1
        rw [fol_at hi] at f1
        have f1 := Option.some.inj f1
        subst f1
        have hb9 := List.getElem?_eq_some_iff.mp e1
        have hd : (voiceEvs v).drop i = ev :: (voiceEvs v).drop (i + 1) := by rw [List.drop_eq_getElem_cons hb9.1, hb9.2]
        rw [hd] at hlo
        have s7 : Same H5 (upd H6 Tt (.tup [.ref b, .ref fo])) := s6.trans (same_new nT)
        generalize hH7 : upd H6 Tt (.tup [.ref b, .ref fo]) = H7 at s7 ⊢
        have hTt : H7 Tt = some (.tup [.ref b, .ref fo]) := by rw [← hH7]; exact upd_same
        refine ⟨Tt, _, rfl, SqT.of hTt, rfl, _, _, rfl, _, _, rfl, rfl, ?_⟩
        refine ⟨fun bb Hx => Same H7 Hx ∧ bb = (ev.tie && !(ev.ps.all fun p => (folOf ((voiceEvs v).drop (i + 1))).contains p)), ?_, ?_⟩
        · refine ⟨_, rfl, b, _, dxe, _, _, rfl, s7 _ _ e2, T.cl_Event, T.n_Event_tied, eF_tied, _, rfl, ?_⟩
          cases ev.tie with
          | false => exact if_f rfl ⟨Same.refl _, rfl⟩
          | true =>
            refine if_t rfl ?_
            refine ⟨_, rfl, b, _, dxe, _, _, rfl, s7 _ _ e2, T.cl_Event, T.n_Event_pitches, eF_pitches, qp, rfl, ⟨_, SqL.of (s7 _ _ p1)⟩, fun D2 nD2 => ?_⟩
            refine lc_list (K := K) (a := qp) (xs := pas.map V.ref) (fun j H' => Same H7 H' ∧ H' D2 = some (.lst ((ev.ps.take j).map fun p => V.bl ((folOf ((voiceEvs v).drop (i + 1))).contains p)))) ⟨same_new nD2, upd_same⟩ ?_ ?_ ?_
            · rintro j H' hj ⟨s8, _⟩
              exact SqL.of (s8 _ _ (s7 _ _ p1))
            · rintro j y H' hj ⟨s8, h8⟩
              obtain ⟨pa, hpa, rfl⟩ := refs_get hj
              obtain ⟨pt, g1, g2⟩ := p2.got hpa
              have s9 := s7.trans s8
              refine ⟨rfl, ?_⟩
              dsimp only [tYes]
              rw [if_pos rfl]
              refine ⟨_, rfl, _, rfl, in_pitches (PitchAt.same s9 _ _ g2) (f2.mono (PitchAt.same s9) s9) ⟨_, h8, ?_, ?_, ?_⟩⟩
              · rw [List.length_map, List.length_take]
                have := hl2 ev (List.mem_of_getElem? e1)
                exact size_lt (by omega)
              · exact fun z o hz => by rw [upd_ne (ne_of_none hz nD2)]; exact s8 _ _ hz
              · rw [upd_same, List.take_succ, g1, List.map_append]; rfl
            · rintro H' ⟨s8, h8⟩
              rw [List.length_map, p2.length, List.take_length] at h8
              refine ⟨D2, ev.ps.map fun p => (folOf ((voiceEvs v).drop (i + 1))).contains p, rfl, SqL.of (by rw [h8, List.map_map]; rfl), _, rfl, s8, ?_⟩
              rw [List.all_map]; rfl
        · rintro bb Hx ⟨s8, rfl⟩
          have s9 := s7.trans s8
          have hlo2 : looseE (ev :: (voiceEvs v).drop (i + 1)) = if ev.tie = true ∧ (ev.ps.all fun p => (folOf ((voiceEvs v).drop (i + 1))).contains p) = false then some ev else looseE ((voiceEvs v).drop (i + 1)) := rfl
          rw [hlo2] at hlo
          by_cases hc : ev.tie = true ∧ (ev.ps.all fun p => (folOf ((voiceEvs v).drop (i + 1))).contains p) = false
          · rw [if_pos hc] at hlo
            refine if_t (by rw [hc.1, hc.2]; rfl) ⟨_, rfl, b, _, dxe, _, _, rfl, s9 _ _ e2, T.cl_Event, T.n_Event_place, eF_place, _, _, rfl, fun d nd => ?_⟩
            exact kF _ hlo _ d (But.of ((s4.trans s9).trans (same_new nd))) upd_same
          · rw [if_neg hc] at hlo
            refine if_f ?_ ⟨_, _, rfl, s9, hlo⟩
            cases ht : ev.tie with
            | false => rfl
            | true =>
              cases ha : (ev.ps.all fun p => (folOf ((voiceEvs v).drop (i + 1))).contains p) with
              | true => rfl
              | false => exact absurd ⟨ht, ha⟩ hc
      · rintro σ H' ⟨x, y, rfl, s6, hlo⟩
        rw [List.drop_length] at hlo
        exact kS hlo _ (s4.trans s6)
end
end Sco
namespace Sco
open PySem PySem.Spec PyProof.Rows L2 Sx62
/-- no greater than what is read -/
def Small (s : Score) : Prop := s.voices.length ≤ 3000 ∧ ∀ v ∈ s.voices, v.bars.length ≤ 3000 ∧ (voiceEvs v).length ≤ 3000 ∧ ∀ e ∈ voiceEvs v, e.ps.length ≤ 3000
section
variable {P : Program} {w : World} {K : PySem.W.Frag} {mg : Str → Option Value} {base : Heap}
/-! ### check_score -/
def spCheck (cS cV cB cE cF : Addr) : Sp := fun vs H Q E => ∃ (a : Addr) (s : Score), vs = [.ref a] ∧ ScoreAt cS cV cB cE H a s ∧ Small s ∧
  (∀ f, s.voices.findSome? (faultE (full s) (firstBars s)) = some f → Falls cF [] H f E) ∧ (s.voices.findSome? (faultE (full s) (firstBars s)) = none → ∀ H', Same H H' → Q .non H')
theorem sc_check : FnScope ["score", "voice"] ["score"] (defScope (top 10)) := ⟨rfl, rfl, rfl, by decide +kernel, rfl, by decide +kernel, by decide +kernel⟩
theorem bi_check (D : DefAt K mg "check_score" (top 10)) : Binds K D.fd ["score"] [] := D.F.binds fun _ _ _ _ _ _ us hl => match us, hl with | [_], _ => rfl
theorem ok_check (T : Tx w K mg) : FnOk P w K mg base (L2.CX P w) 4 T.f_check_score.f T.f_check_score.fd ["score"] (spCheck T.c_Score T.c_Voice T.c_Bar T.c_Event T.c_Fault) := by
  have GL : FnOk P w K mg base (L2.CX P w) 3 _ _ _ (spLengths T.c_Voice T.c_Bar T.c_Event T.c_Fault) := ok_lengths T
  have GT : FnOk P w K mg base (L2.CX P w) 3 _ _ _ (spTies T.c_Voice T.c_Bar T.c_Event T.c_Fault) := ok_ties T
  have GF : FnOk P w K mg base (L2.CX P w) 3 _ _ _ (spFit T.c_Voice T.c_Bar T.c_Event T.c_Fault) := ok_fit T
  refine T.f_check_score.F.okX sc_check (fun vs H Q E h => ?_) (fun cdv A outer s H vs Q E hr h => ?_)
  · obtain ⟨a, s, rfl, _⟩ := h
    rfl
  · obtain ⟨a, s, rfl, ⟨dx, vl, hs, as, hv, hvs⟩, hsm, kF, kS⟩ := h
    have hr3 : Room 3 _ := hr.mono (by decide)
    refine ⟨_, pss_one (ps_for (passes_of rfl) rfl (pi_list (pe_fld (pv 0) rfl)) (pg_name (i := 1) sc_check.nd rfl (Or.inl rfl))
      (pss_cons (ps_expr (pe_call GL hr3 rfl T.f_check_lengths.g T.f_check_lengths.F.kp (bi_lengths _) .nil (passes_call (W := fun cls d _ H => E cls d H) (takes_of rfl rfl rfl rfl) (fun _ _ _ _ h => h)) (pa_cons (pv 1) (pa_cons (pe_fld (pv 0) rfl) pa_nil))))
      (pss_cons (ps_expr (pe_call GT hr3 rfl T.f_check_ties.g T.f_check_ties.F.kp (bi_ties _) .nil (passes_call (W := fun cls d _ H => E cls d H) (takes_of rfl rfl rfl rfl) (fun _ _ _ _ h => h)) (pa_cons (pv 1) pa_nil)))
      (pss_one (ps_expr (pe_call GF hr3 rfl T.f_check_fit.g T.f_check_fit.F.kp (bi_fit _) .nil (passes_call (W := fun cls d _ H => E cls d H) (takes_of rfl rfl rfl rfl) (fun _ _ _ _ h => h)) (pa_cons (pv 1) (pa_cons (pe_ix ix_list (pe_fld (pv 0) rfl) pe_int (fun _ _ => rfl)) pa_nil)))))))), ?_⟩
    refine ⟨_, rfl, a, _, dx, _, _, rfl, hs, T.cl_Score, T.n_Score_voices, sF_voices, vl, rfl, ⟨_, SqL.of hv⟩, for_list (K := K) (a := vl) (xs := as.map V.ref) (fun i σ H' => ∃ x, σ = [some (.ref a), x] ∧ Same H H' ∧ s.voices.findSome? (faultE (full s) (firstBars s)) = (s.voices.drop i).findSome? (faultE (full s) (firstBars s))) ⟨none, rfl, Same.refl _, rfl⟩ ?_ ?_ ?_⟩
    · rintro i σ H' hi ⟨x, rfl, s1, _⟩
      exact SqL.of (s1 _ _ hv)
    · rintro i y σ H' hi ⟨x, rfl, s1, hfs⟩
      obtain ⟨b, hb1, rfl⟩ := refs_get hi
      obtain ⟨v, e1, e2⟩ := hvs.got hb1
      have hb9 := List.getElem?_eq_some_iff.mp e1
      have hd : s.voices.drop i = v :: s.voices.drop (i + 1) := by rw [List.drop_eq_getElem_cons hb9.1, hb9.2]
      rw [hd, List.findSome?_cons] at hfs
      obtain ⟨m1, m2, m3⟩ := hsm.2 v (List.mem_of_getElem? e1)
      have e3 := VoiceAt.same s1 _ _ e2
      refine ⟨_, rfl, _, rfl, a, _, dx, _, _, rfl, s1 _ _ hs, T.cl_Score, T.n_Score_full, sF_full, b, v, full s, rfl, e3, fun bar hbar => ?_, fun hno => ?_⟩
      · have : faultE (full s) (firstBars s) v = some ⟨5, bar.place⟩ := by unfold faultE; rw [hbar]
        rw [this] at hfs
        exact (kF _ hfs).but (But.of s1) (by simp)
      · refine ⟨_, rfl, b, v, rfl, e3, m2, m3, fun n hn => ?_, fun hno2 H2 s2 => ?_⟩
        · have : faultE (full s) (firstBars s) v = some ⟨6, n.place⟩ := by unfold faultE; rw [hno]; dsimp only; rw [hn]
          rw [this] at hfs
          exact (kF _ hfs).but (But.of s1) (by simp)
        · have s3 := s1.trans s2
          have hlt : 0 < s.voices.length := Nat.lt_of_le_of_lt (Nat.zero_le _) hb9.1
          obtain ⟨fa, g1, g2⟩ := hvs.get (List.getElem?_eq_getElem hlt)
          have hfb : firstBars s = s.voices[0].bars := by
            unfold firstBars
            rw [List.head?_eq_getElem?, List.getElem?_eq_getElem hlt]; rfl
          have hag : faultE (full s) (firstBars s) v = (againstE v.place s.voices[0].bars v.bars).map fun p => ⟨7, p⟩ := by
            unfold faultE; rw [hno]; dsimp only; rw [hno2, hfb]
          rw [hag] at hfs
          refine ⟨_, rfl, _, rfl, a, _, dx, _, _, rfl, s3 _ _ hs, T.cl_Score, T.n_Score_voices, sF_voices, vl, _, 0, _, rfl, rfl, SqL.of (s3 _ _ hv), atI_nat (j := 0) (by rw [List.getElem?_map, g1]; rfl), b, fa, v, s.voices[0], rfl, VoiceAt.same s3 _ _ e2, VoiceAt.same s3 _ _ g2, fun p hp => ?_, fun hno3 H4 s4 => ?_⟩
          · rw [hp] at hfs
            exact (kF _ hfs).but (But.of s3) (by simp)
          · rw [hno3] at hfs
            exact ⟨_, rfl, s3.trans s4, hfs⟩
    · rintro σ H' ⟨x, rfl, s1, hfs⟩
      rw [List.length_map, hvs.length, List.drop_length] at hfs
      exact kS hfs _ s1
end
end Sco
namespace Sco
open PySem PySem.Spec PyProof.Rows L2 Sx62
def lasts : List Ev → List Nat
  | [] => []
  | x :: l => lastE (x :: l) :: lasts l
def natV (l : List Nat) : List V := l.map fun (n : Nat) => V.int (n : Int)
theorem lasts_len : ∀ l : List Ev, (lasts l).length = l.length
  | [] => rfl
  | x :: l => congrArg (· + 1) (lasts_len l)
section
variable {P : Program} {w : World} {K : PySem.W.Frag} {mg : Str → Option Value} {base : Heap}
/-! ### lasting_lengths -/
def spLasting (cE : Addr) : Sp := fun vs H Q _ => ∃ (a : Addr) (l : List Ev), vs = [.ref a] ∧ ListAt (EvAt cE) H a l ∧ l.length ≤ 3000 ∧ ∀ H' p, Same H H' → H' p = some (.lst (natV (lasts l))) → H p = none → Q (.ref p) H'
theorem sc_lasting : FnScope ["events", "lengths", "lasting", "event"] ["events"] (defScope (top 67)) := ⟨rfl, rfl, rfl, by decide +kernel, rfl, by decide +kernel, by decide +kernel⟩
theorem bi_lasting (D : DefAt K mg "lasting_lengths" (top 67)) : Binds K D.fd ["events"] [] := D.F.binds fun _ _ _ _ _ _ us hl => match us, hl with | [_], _ => rfl
theorem ok_lasting (T : Tx w K mg) : FnOk P w K mg base CX0 1 T.f_lasting_lengths.f T.f_lasting_lengths.fd ["events"] (spLasting T.c_Event) := by
  refine T.f_lasting_lengths.F.ok sc_lasting (fun vs H Q E h => ?_) (fun cdv A outer s H vs Q E hr h => ?_)
  · obtain ⟨a, l, rfl, _⟩ := h
    rfl
  · obtain ⟨a, l, rfl, ⟨as, hb, hbs⟩, hl, kS⟩ := h
    refine ⟨_, pss_cons (ps_set (i := 1) sc_lasting.nd rfl (Or.inl rfl) (pe_lst pa_nil))
      (pss_cons (ps_set (i := 2) sc_lasting.nd rfl (Or.inl rfl) pe_int)
      (pss_cons (ps_for PassesOwn.never rfl (pi_reversed (by rfl) T.b_reversed (pa_cons (pv 0) pa_nil)) (pg_name (i := 3) sc_lasting.nd rfl (Or.inl rfl))
        (pss_mid (ps_set (i := 2) sc_lasting.nd rfl (Or.inl rfl) (pe_op op_add (pe_fld (pv 3) rfl) (pe_ifExp (pt_val (pe_fld (pv 3) rfl)) (pv 2) pe_int)))
        (pss_one (ps_expr (pe_bm PySem.F.plainAttrs_list PySem.F.slot_list_append PySem.F.type_list_append mt_append (pv 1) (pa_cons (pv 2) pa_nil))))))
      (pss_cons (ps_expr (pe_bm0 PySem.F.plainAttrs_list PySem.F.slot_list_reverse PySem.F.type_list_reverse mt_reverse (pv 1)))
      (pss_one (ps_ret (pv 1)))))), ?_⟩
    refine ⟨Nat.zero_le _, fun p np => ?_⟩
    have s0 := same_new (o := .lst []) np
    refine ⟨_, rfl, a, _, rfl, SqL.of (s0 _ _ hb), for_it walk_rev (fun i σ H' => i ≤ l.length ∧ ∃ x, σ = [some (.ref a), some (.ref p), some (.int (lastE (l.drop (l.length - i)) : Nat)), x] ∧ Same H H' ∧ H' p = some (.lst (natV (lasts (l.drop (l.length - i)))).reverse)) ?_ (fun i σ' H' _ ⟨_, _, _, s1, _⟩ => SqL.of (s1 _ _ hb)) ?_ ?_⟩
    · refine ⟨Nat.zero_le _, none, ?_, s0, ?_⟩
      · rw [Nat.sub_zero, List.drop_length]; rfl
      · rw [Nat.sub_zero, List.drop_length]; exact upd_same
    · rintro i v σ' H1 H2 hi ⟨hle, x, rfl, s1, h1⟩ ⟨rfl, e0⟩
      rw [List.length_map, hbs.length] at hi e0
      obtain ⟨b, hb1, rfl⟩ := refs_get e0
      obtain ⟨ev, e1, dxe, qp, e2, e3⟩ := hbs.got hb1
      have hb9 := List.getElem?_eq_some_iff.mp e1
      have hd : l.drop (l.length - (i + 1)) = ev :: l.drop (l.length - i) := by
        have : l.length - (i + 1) = l.length - 1 - i := by omega
        rw [this, List.drop_eq_getElem_cons hb9.1, hb9.2, show l.length - 1 - i + 1 = l.length - i by omega]
      rw [hd]
      refine ⟨fun σ' Hx => σ' = [some (.ref a), some (.ref p), some (.int (lastE (ev :: l.drop (l.length - i)) : Nat)), some (.ref b)] ∧ Hx = H2, ?_, ?_⟩
      · refine ⟨_, rfl, b, _, dxe, _, _, rfl, s1 _ _ e2, T.cl_Event, T.n_Event_length, eF_length, _, rfl, b, _, dxe, _, _, rfl, s1 _ _ e2, T.cl_Event, T.n_Event_tied, eF_tied, _, rfl, ?_⟩
        have hla : lastE (ev :: l.drop (l.length - i)) = ev.len + (if ev.tie = true then lastE (l.drop (l.length - i)) else 0) := rfl
        rw [hla]
        cases ev.tie with
        | true =>
          refine if_t rfl ⟨_, rfl, _, _, rfl, rfl, ?_, rfl⟩
          rw [if_pos rfl, Int.natCast_add]; rfl
        | false =>
          refine if_f rfl ⟨_, _, rfl, rfl, ?_, rfl⟩
          rw [if_neg (by decide), Int.natCast_add]; rfl
      · rintro σ' Hx ⟨rfl, rfl⟩
        refine ⟨_, rfl, .inl ⟨rfl, _, SqL.of h1⟩, _, rfl, p, _, _, rfl, rfl, h1, ?_, ?_⟩
        · unfold natV
          rw [List.length_reverse, List.length_map, lasts_len, List.length_drop]
          exact size_lt (by omega)
        · refine ⟨hi, _, rfl, ?_, ?_⟩
          · exact fun z o hz => by rw [upd_ne (ne_of_none hz np)]; exact s1 _ _ hz
          · rw [upd_same]
            show _ = some (HO.lst (natV (lastE (ev :: l.drop (l.length - i)) :: lasts (l.drop (l.length - i)))).reverse)
            unfold natV
            rw [List.map_cons, List.reverse_cons]
    · rintro σ H' ⟨hle, x, rfl, s1, h1⟩
      rw [List.length_map, hbs.length, Nat.sub_self, List.drop_zero] at h1
      refine ⟨_, rfl, .inl ⟨rfl, _, SqL.of h1⟩, p, _, rfl, rfl, h1, _, rfl, kS _ p ?_ ?_ np⟩
      · exact fun z o hz => by rw [upd_ne (ne_of_none hz np)]; exact s1 _ _ hz
      · rw [upd_same, List.reverse_reverse]
end
end Sco
namespace Sco
open PySem PySem.Spec PyProof.Rows L2 Sx62
section
variable {P : Program} {w : World} {K : PySem.W.Frag} {mg : Str → Option Value} {base : Heap}
/-! ### voice_counts -/
def struckE (l : List Ev) : List Ev := l.filter fun e => !e.ps.isEmpty
def countsV (v : Voice) : List V := [.int (v.bars.length : Nat), .int ((voiceEvs v).length : Nat), .int ((struckE (voiceEvs v)).length : Nat)]
def tHas (K : PySem.W.Frag) : TT := fun σ H Q => tFld K (tVar 2) "pitches" σ H fun x H' => ∃ k, TruV K x H' k ∧ Q k H'
def spCounts (cV cB cE : Addr) : Sp := fun vs H Q _ => ∃ (a : Addr) (v : Voice), vs = [.ref a] ∧ VoiceAt cV cB cE H a v ∧ (voiceEvs v).length ≤ 3000 ∧ ∀ H' p, Same H H' → H' p = some (.lst (countsV v)) → H p = none → Q (.ref p) H'
theorem sc_counts : FnScope ["voice", "struck", "event"] ["voice"] (defScope (top 65)) := ⟨rfl, rfl, rfl, by decide +kernel, rfl, by decide +kernel, by decide +kernel⟩
theorem bi_counts (D : DefAt K mg "voice_counts" (top 65)) : Binds K D.fd ["voice"] [] := D.F.binds fun _ _ _ _ _ _ us hl => match us, hl with | [_], _ => rfl
theorem ok_counts (T : Tx w K mg) : FnOk P w K mg base CX0 1 T.f_voice_counts.f T.f_voice_counts.fd ["voice"] (spCounts T.c_Voice T.c_Bar T.c_Event) := by
  refine T.f_voice_counts.F.ok sc_counts (fun vs H Q E h => ?_) (fun cdv A outer s H vs Q E hr h => ?_)
  · obtain ⟨a, v, rfl, _⟩ := h
    rfl
  · obtain ⟨a, v, rfl, ⟨dx, bl, el, hv, ⟨bas, hb1, hb2⟩, ⟨as, hb, hbs⟩⟩, hl, kS⟩ := h
    refine ⟨_, pss_cons (ps_setLc (i := 1) (own := [("event", 2)]) (g := gName 2) (tt := tHas K) (te := tVar 2) rfl sc_counts.nd rfl rfl (sw_true rfl rfl rfl (by decide +kernel)) (pi_list (pe_fld (pv 0) rfl)) (blkOk_by (own := [("event", 2)]) (N := ["voice", "struck", "event"]) (sc := defScope (top 65)) (by decide +kernel))
          (fun _ _ _ _ _ => pg_name (i := 2) sc_counts.nd rfl (Or.inl rfl)) (fun _ _ _ _ _ => pts_one (pt_truth (pe_fld (pv 2) rfl) (by intro _; rfl))) (fun _ _ _ _ _ => pv 2))
      (pss_one (ps_ret (pe_lst (pa_cons (pe_callB call_len_seq (by rfl) T.b_len PySem.boot_len (pa_cons (pe_fld (pv 0) rfl) pa_nil)) (pa_cons (pe_callB call_len_seq (by rfl) T.b_len PySem.boot_len (pa_cons (pe_fld (pv 0) rfl) pa_nil)) (pa_cons (pe_callB call_len_seq (by rfl) T.b_len PySem.boot_len (pa_cons (pv 1) pa_nil)) pa_nil)))))), ?_⟩
    refine ⟨_, rfl, a, _, dx, _, _, rfl, hv, T.cl_Voice, T.n_Voice_events, vF_events, el, rfl, ⟨_, SqL.of hb⟩, fun D nD => ?_⟩
    refine lc_list (g := gName 2) (tt := tHas K) (te := tVar 2) (K := K) (a := el) (xs := as.map V.ref) (fun i H' => Same H H' ∧ ∃ qs : List V, H' D = some (.lst qs) ∧ qs.length = (struckE ((voiceEvs v).take i)).length) ⟨same_new nD, [], upd_same, rfl⟩ ?_ ?_ ?_
    · rintro i H' hi ⟨s1, _⟩
      exact SqL.of (s1 _ _ hb)
    · rintro i y H' hi ⟨s1, qs, h1, h2⟩
      obtain ⟨b, hb3, rfl⟩ := refs_get hi
      obtain ⟨ev, e1, dxe, qp, e2, pas, p1, p2⟩ := hbs.got hb3
      have hst : struckE ((voiceEvs v).take (i + 1)) = struckE ((voiceEvs v).take i) ++ (if (!ev.ps.isEmpty) = true then [ev] else []) := by
        unfold struckE
        rw [List.take_succ, e1]
        show ((voiceEvs v).take i ++ [ev]).filter _ = _
        rw [List.filter_append, List.filter_cons, List.filter_nil]
      have hpe : (pas.map V.ref).isEmpty = ev.ps.isEmpty := by
        have := p2.length
        cases pas <;> cases hh : ev.ps <;> simp_all
      refine ⟨rfl, ?_⟩
      refine ⟨_, rfl, b, _, dxe, _, _, rfl, s1 _ _ e2, T.cl_Event, T.n_Event_pitches, eF_pitches, _, .inl ⟨_, SqL.of (s1 _ _ p1), rfl⟩, ?_⟩
      rw [hst, hpe]
      cases ev.ps.isEmpty with
      | true =>
        refine if_f rfl ⟨s1, qs, h1, ?_⟩
        rw [h2]; simp
      | false =>
        refine if_t rfl ⟨_, rfl, qs, h1, ?_, ?_, qs ++ [.ref b], upd_same, ?_⟩
        · rw [h2]
          have : (struckE ((voiceEvs v).take i)).length ≤ ((voiceEvs v).take i).length := List.length_filter_le ..
          rw [List.length_take] at this
          exact size_lt (by omega)
        · exact fun z o hz => by rw [upd_ne (ne_of_none hz nD)]; exact s1 _ _ hz
        · rw [List.length_append, h2]; simp
    · rintro H' ⟨s1, qs, h1, h2⟩
      rw [List.length_map, hbs.length, List.take_length] at h2
      refine ⟨_, rfl, a, _, dx, _, _, rfl, s1 _ _ hv, T.cl_Voice, T.n_Voice_bars, vF_bars, bl, _, rfl, .inl (SqL.of (s1 _ _ hb1)), _, rfl, a, _, dx, _, _, rfl, s1 _ _ hv, T.cl_Voice, T.n_Voice_events, vF_events, el, _, rfl, .inl (SqL.of (s1 _ _ hb)), _, rfl, D, _, rfl, .inl (SqL.of h1), Nat.le_of_lt (size_lt (show 3 ≤ 4000 by decide)), fun p np => ?_⟩
      refine kS _ p (s1.trans (same_new np)) ?_ (none_back s1 np)
      rw [upd_same, List.length_map, List.length_map, hb2.length, hbs.length, h2]
      rfl
end
end Sco
namespace Sco
open PySem PySem.Spec PyProof.Rows L2 Sx62
theorem foldl_add (l : List Nat) : ∀ a : Nat, l.foldl (· + ·) a = a + l.foldl (· + ·) 0 := by
  induction l with
  | nil => intro a; rfl
  | cons b l ih =>
    intro a
    rw [List.foldl_cons, List.foldl_cons, ih (a + b), ih (0 + b)]; omega
theorem tot_cons (a : Nat) (l : List Nat) : tot (a :: l) = a + tot l := by
  unfold tot
  rw [List.foldl_cons, foldl_add]; omega
theorem tot_app : ∀ (l r : List Nat), tot (l ++ r) = tot l + tot r
  | [], r => (Nat.zero_add _).symm
  | a :: l, r => by rw [List.cons_append, tot_cons, tot_cons, tot_app l r]; omega
theorem lens_app (l r : List Ev) : lens (l ++ r) = lens l ++ lens r := List.map_append ..
theorem lastE_le : ∀ l : List Ev, lastE l ≤ tot (lens l)
  | [] => Nat.zero_le _
  | x :: l => by
    have := lastE_le l
    show x.len + (if x.tie = true then lastE l else 0) ≤ tot (x.len :: lens l)
    rw [tot_cons]
    split <;> omega
theorem lasts_at : ∀ (l : List Ev) (i : Nat), i < l.length → (lasts l)[i]? = some (lastE (l.drop i))
  | [], i, h => absurd h (Nat.not_lt_zero _)
  | x :: l, 0, _ => rfl
  | x :: l, i + 1, h => lasts_at l i (Nat.lt_of_succ_lt_succ h)
/-- what a sound is told by -/
def sndV (x : Pitch × Nat × Nat) : List V := [.int x.1.letter, .int x.1.sign, .int x.1.octave, .int ((fr x.2.1).num : Nat), .int ((fr x.2.1).den : Nat), .int ((fr x.2.2).num : Nat), .int ((fr x.2.2).den : Nat)]
def RowAt (p : Addr) (H : Hp) (a : Addr) (x : Pitch × Nat × Nat) : Prop := a ≠ p ∧ H a = some (.lst (sndV x))
theorem RowAt.same {p : Addr} {H H' : Hp} (s : Same H H') (a : Addr) (x : Pitch × Nat × Nat) (h : RowAt p H a x) : RowAt p H' a x := ⟨h.1, s _ _ h.2⟩
theorem pitches_upd {H : Hp} {p q : Addr} {xs : List V} {o : HO} {ps : List Pitch} (h : ListAt PitchAt H q ps) (hp : H p = some (.lst xs)) (hq : q ≠ p) : ListAt PitchAt (upd H p o) q ps := by
  obtain ⟨as, h1, h2⟩ := h
  refine ⟨as, by rw [upd_ne hq]; exact h1, h2.imp fun a x hx => ?_⟩
  unfold PitchAt at hx ⊢
  rw [upd_ne (fun z => by rw [z, hp] at hx; cases hx)]
  exact hx
section
variable {P : Program} {w : World} {K : PySem.W.Frag} {mg : Str → Option Value} {base : Heap}
/-! ### voice_sounds -/
def spSounds (cV cB cE : Addr) : Sp := fun vs H Q _ => ∃ (a : Addr) (v : Voice), vs = [.ref a] ∧ VoiceAt cV cB cE H a v ∧ (voiceEvs v).length ≤ 3000 ∧ (sndE 0 [] (voiceEvs v)).length ≤ 3000 ∧ tot (lens (voiceEvs v)) < 2 ^ 64 ∧
  ∀ H' p, Same H H' → ListAt (RowAt p) H' p (sndE 0 [] (voiceEvs v)) → Q (.ref p) H'
theorem sc_sounds : FnScope ["voice", "sounds", "time", "tied_on", "event", "lasting", "pitch"] ["voice"] (defScope (top 66)) := ⟨rfl, rfl, rfl, by decide +kernel, rfl, by decide +kernel, by decide +kernel⟩
theorem bi_sounds (D : DefAt K mg "voice_sounds" (top 66)) : Binds K D.fd ["voice"] [] := D.F.binds fun _ _ _ _ _ _ us hl => match us, hl with | [_], _ => rfl
theorem ok_sounds (T : Tx w K mg) : FnOk P w K mg base CX0 4 T.f_voice_sounds.f T.f_voice_sounds.fd ["voice"] (spSounds T.c_Voice T.c_Bar T.c_Event) := by
  have GL : FnOk P w K mg base CX0 1 _ _ _ (spLasting T.c_Event) := ok_lasting T
  have GF : FnOk P w K mg base CX0 3 _ _ _ spFrac := ok_frac T
  refine T.f_voice_sounds.F.ok sc_sounds (fun vs H Q E h => ?_) (fun cdv A outer s H vs Q E hr h => ?_)
  · obtain ⟨a, v, rfl, _⟩ := h
    rfl
  · obtain ⟨a, v, rfl, ⟨dx, bl, el, hv, _, ⟨as, hb, hbs⟩⟩, hl, hcnt, htot, kS⟩ := h
    have hu := hu65 hr
    have hr1 : Room 1 _ := hr.mono (by decide)
    have hr3 : Room 3 _ := hr.mono (by decide)
    refine ⟨_, pss_cons (ps_set (i := 1) sc_sounds.nd rfl (Or.inl rfl) (pe_lst pa_nil))
      (pss_cons (ps_set (i := 2) sc_sounds.nd rfl (Or.inl rfl) pe_int)
      (pss_cons (ps_set (i := 3) sc_sounds.nd rfl (Or.inl rfl) (pe_lst pa_nil))
      (pss_cons (ps_for PassesOwn.never rfl (pi_zip (by rfl) T.b_zip (pa_cons (pe_fld (pv 0) rfl) (pa_cons (pe_call GL hr1 rfl T.f_lasting_lengths.g T.f_lasting_lengths.F.kp (bi_lasting _) .nil pass0 (pa_cons (pe_fld (pv 0) rfl) pa_nil)) pa_nil)))
          (pg_tup rfl (pgs_cons (pg_name (i := 4) sc_sounds.nd rfl (Or.inl rfl)) (pgs_cons (pg_name (i := 5) sc_sounds.nd rfl (Or.inl rfl)) pgs_nil)))
        (pss_cons (ps_for PassesOwn.never rfl (pi_list (pe_fld (pv 4) rfl)) (pg_name (i := 6) sc_sounds.nd rfl (Or.inl rfl))
          (pss_one (ps_if (pt_cmpR (op_notInD hu) (pv 6) (pv 3) rfl)
            (pss_one (ps_expr (pe_bm PySem.F.plainAttrs_list PySem.F.slot_list_append PySem.F.type_list_append mt_append (pv 1) (pa_cons
              (pe_op op_cat (pe_op op_cat (pe_lst (pa_cons (pe_ix ix_tup (pv 6) pe_int (fun _ _ => rfl)) (pa_cons (pe_ix ix_tup (pv 6) pe_int (fun _ _ => rfl)) (pa_cons (pe_ix ix_tup (pv 6) pe_int (fun _ _ => rfl)) pa_nil))))
                (pe_call GF hr3 rfl T.f_fraction.g T.f_fraction.F.kp (bi_frac _) .nil pass0 (pa_cons (pv 2) pa_nil)))
                (pe_call GF hr3 rfl T.f_fraction.g T.f_fraction.F.kp (bi_frac _) .nil pass0 (pa_cons (pv 5) pa_nil))) pa_nil)))) pss_nil)))
        (pss_cons (ps_aug (i := 2) sc_sounds.nd rfl (Or.inl rfl) (pe_fld (pv 4) rfl) iop_add)
        (pss_one (ps_set (i := 3) sc_sounds.nd rfl (Or.inl rfl) (pe_ifExp (pt_val (pe_fld (pv 4) rfl)) (pe_fld (pv 4) rfl) (pe_lst pa_nil)))))))
      (pss_one (ps_ret (pv 1)))))), ?_⟩
    refine ⟨Nat.zero_le _, fun p np => ?_⟩
    refine ⟨Nat.zero_le _, fun t0 nt0 => ?_⟩
    have s0 : Same H (upd (upd H p (.lst [])) t0 (.lst [])) := (same_new np).trans (same_new nt0)
    have h0p := same_new nt0 (o := .lst []) _ _ (upd_same (H := H) (a := p) (o := .lst []))
    have ht0 : upd (upd H p (.lst [])) t0 (.lst []) t0 = some (.lst []) := upd_same
    have t0p : t0 ≠ p := fun z => by rw [z, upd_same] at nt0; cases nt0
    generalize upd (upd H p (.lst [])) t0 (.lst []) = H0 at s0 h0p ht0 ⊢
    refine ⟨_, rfl, a, _, dx, _, _, rfl, s0 _ _ hv, T.cl_Voice, T.n_Voice_events, vF_events, _, rfl, a, _, dx, _, _, rfl, s0 _ _ hv, T.cl_Voice, T.n_Voice_events, vF_events, el, _, rfl, ⟨as, s0 _ _ hb, hbs.imp (EvAt.same s0)⟩, hl, fun H1 ll s1 hll nll => ?_⟩
    have s01 := s0.trans s1
    have llp : p ≠ ll := ne_of_none h0p nll
    have hlen : (voiceEvs v).length = min (as.map V.ref).length (natV (lasts (voiceEvs v))).length := by
      unfold natV
      rw [List.length_map, List.length_map, lasts_len, hbs.length]; omega
    refine ⟨el, ll, _, _, rfl, SqL.of (s01 _ _ hb), SqL.of hll, for_it (walk_zip (n := (voiceEvs v).length) hlen) (fun i σ H' => ∃ x y z tq tied sofar rs, σ = [some (.ref a), some (.ref p), some (.int (tot (lens ((voiceEvs v).take i)) : Nat)), some (.ref tq), x, y, z] ∧ Same H H' ∧ H' ll = some (.lst (natV (lasts (voiceEvs v)))) ∧ H' p = some (.lst (rs.map V.ref)) ∧ AllAt (RowAt p H') rs sofar ∧ tq ≠ p ∧ ListAt PitchAt H' tq tied ∧ sndE 0 [] (voiceEvs v) = sofar ++ sndE (tot (lens ((voiceEvs v).take i))) tied ((voiceEvs v).drop i)) ?_ (fun i σ' H' _ ⟨_, _, _, _, _, _, _, _, s2, h2, _⟩ => ⟨SqL.of (s2 _ _ hb), SqL.of h2⟩) ?_ ?_⟩
    · exact ⟨none, none, none, t0, [], [], [], rfl, s01, hll, s1 _ _ h0p, .nil, t0p, ⟨[], s1 _ _ ht0, .nil⟩, rfl⟩
    · rintro i vv σ' H2 H3 hi ⟨x, y, z, tq, tied, sofar, rs, rfl, s2, h2l, h2p, hrs, tqp, htq, hsnd⟩ ⟨Tt, v1, v2, rfl, nT, rfl, q1, q2⟩
      obtain ⟨b, hb1, rfl⟩ := refs_get q1
      obtain ⟨ev, e1, dxe, qp, e2, pas, p1, p2⟩ := hbs.got hb1
      have q3 : v2 = .int (lastE ((voiceEvs v).drop i) : Nat) := by
        unfold natV at q2
        dsimp only at q2
        rw [List.getElem?_map, lasts_at _ _ hi] at q2
        exact (Option.some.inj q2).symm
      subst q3
      have hb9 := List.getElem?_eq_some_iff.mp e1
      have hd : (voiceEvs v).drop i = ev :: (voiceEvs v).drop (i + 1) := by rw [List.drop_eq_getElem_cons hb9.1, hb9.2]
      have hsp : tot (lens (voiceEvs v)) = tot (lens ((voiceEvs v).take i)) + tot (lens ((voiceEvs v).drop i)) := by
        rw [← tot_app, ← lens_app, List.take_append_drop]
      have hla := lastE_le ((voiceEvs v).drop i)
      have sT := same_new (o := .tup [.ref b, .int (lastE ((voiceEvs v).drop i) : Nat)]) nT
      have hTt : upd H2 Tt (.tup [.ref b, .int (lastE ((voiceEvs v).drop i) : Nat)]) Tt = some (.tup [.ref b, .int (lastE ((voiceEvs v).drop i) : Nat)]) := upd_same
      generalize upd H2 Tt (.tup [.ref b, .int (lastE ((voiceEvs v).drop i) : Nat)]) = H3 at sT hTt ⊢
      have s3 := s2.trans sT
      have h3l := sT _ _ h2l
      have h3p := sT _ _ h2p
      have hrs3 := hrs.imp (RowAt.same sT)
      have htq3 := htq.mono (PitchAt.same sT) sT
      generalize ht : tot (lens ((voiceEvs v).take i)) = tm at hsp hsnd ⊢
      generalize hL : lastE ((voiceEvs v).drop i) = la at hla hTt ⊢
      refine ⟨Tt, _, rfl, SqT.of hTt, rfl, _, _, rfl, _, _, rfl, rfl, ?_⟩
      refine ⟨_, rfl, b, _, dxe, _, _, rfl, s3 _ _ e2, T.cl_Event, T.n_Event_pitches, eF_pitches, qp, rfl, ⟨_, SqL.of (s3 _ _ p1)⟩, for_list (K := K) (a := qp) (xs := pas.map V.ref) (fun j σ H' => ∃ z rs, σ = [some (.ref a), some (.ref p), some (.int (tm : Nat)), some (.ref tq), some (.ref b), some (.int (la : Nat)), z] ∧ Same H H' ∧ H' ll = some (.lst (natV (lasts (voiceEvs v)))) ∧ H' p = some (.lst (rs.map V.ref)) ∧ AllAt (RowAt p H') rs (sofar ++ ((ev.ps.take j).filter fun q => !tied.contains q).map fun q => (q, tm, la)) ∧ ListAt PitchAt H' tq tied) ?_ ?_ ?_ ?_⟩
      · exact ⟨_, rs, rfl, s3, h3l, h3p, by rw [List.take_zero]; show AllAt _ _ (sofar ++ []); rw [List.append_nil]; exact hrs3, htq3⟩
      · rintro j σ H' hj ⟨_, _, _, s4, _⟩
        exact SqL.of (s4 _ _ p1)
      · rintro j yy σ H4 hj ⟨z, rs, rfl, s4, h4l, h4p, hrs4, htq4⟩
        obtain ⟨pa, hpa, rfl⟩ := refs_get hj
        obtain ⟨pt, g1, g2⟩ := p2.got hpa
        have g4 := PitchAt.same s4 _ _ g2
        have hst : sofar ++ ((ev.ps.take (j + 1)).filter fun q => !tied.contains q).map (fun q => (q, tm, la)) = (sofar ++ ((ev.ps.take j).filter fun q => !tied.contains q).map fun q => (q, tm, la)) ++ (if (!tied.contains pt) = true then [(pt, tm, la)] else []) := by
          rw [List.take_succ, g1]
          show sofar ++ ((ev.ps.take j ++ [pt]).filter _).map _ = _
          rw [List.filter_append, List.filter_cons, List.filter_nil, List.map_append, List.append_assoc]
          congr 2
          split <;> rfl
        refine ⟨_, rfl, _, rfl, notin_pitches g4 htq4 ⟨_, rfl, ?_⟩⟩
        cases hct : tied.contains pt with
        | true =>
          rw [hct, if_neg (by decide), List.append_nil] at hst
          refine if_f rfl ⟨_, rs, rfl, s4, h4l, h4p, ?_, htq4⟩
          rw [hst]
          exact hrs4
        | false =>
          rw [hct, if_pos (by decide)] at hst
          refine if_t rfl ?_
          refine ⟨_, rfl, .inl ⟨rfl, _, SqL.of h4p⟩, _, rfl, _, _, 1, _, rfl, rfl, SqT.of g4, rfl, _, rfl, _, _, 2, _, rfl, rfl, SqT.of g4, rfl, _, rfl, _, _, 0, _, rfl, rfl, SqT.of g4, rfl, Nat.le_of_lt (size_lt (show 3 ≤ 4000 by decide)), fun r1 n1 => ?_⟩
          refine ⟨_, rfl, tm, rfl, by omega, fun f1 nf1 => ?_⟩
          have sA := same_new n1 (o := .lst [.int pt.letter, .int pt.sign, .int pt.octave])
          have hA := upd_same (H := H4) (a := r1) (o := .lst [.int pt.letter, .int pt.sign, .int pt.octave])
          have sB := same_new nf1 (o := .lst [.int ((fr tm).num : Nat), .int ((fr tm).den : Nat)])
          refine ⟨_, _, _, _, rfl, rfl, sB _ _ hA, upd_same, Nat.le_of_lt (size_lt (show 5 ≤ 4000 by decide)), fun c1 nc1 => ?_⟩
          refine ⟨_, rfl, la, rfl, by omega, fun f2 nf2 => ?_⟩
          refine ⟨_, _, _, _, rfl, rfl, same_new nf2 _ _ upd_same, upd_same, Nat.le_of_lt (size_lt (show 7 ≤ 4000 by decide)), fun c2 nc2 => ?_⟩
          have s5 := (((sA.trans sB).trans (same_new nc1)).trans (same_new nf2)).trans (same_new nc2 (o := .lst (sndV (pt, tm, la))))
          have ec : ([.int pt.letter, .int pt.sign, .int pt.octave] ++ [.int ((fr tm).num : Nat), .int ((fr tm).den : Nat)] : List V) ++ [.int ((fr la).num : Nat), .int ((fr la).den : Nat)] = sndV (pt, tm, la) := rfl
          have c2n : H4 c2 = none := none_back (((sA.trans sB).trans (same_new nc1)).trans (same_new nf2)) nc2
          have c2p : c2 ≠ p := fun z => by rw [z, h4p] at c2n; cases c2n
          refine ⟨p, _, _, rfl, rfl, s5 _ _ h4p, ?_, _, rs ++ [c2], rfl, ?_, ?_, ?_, ?_, ?_⟩
          · rw [List.length_map, hrs4.length]
            have : (sndE 0 [] (voiceEvs v)).length = sofar.length + (ev.ps.filter fun q => !tied.contains q).length + (sndE (tm + ev.len) (if ev.tie = true then ev.ps else []) ((voiceEvs v).drop (i + 1))).length := by
              rw [hsnd, hd]
              show (sofar ++ (((ev.ps.filter fun p => !tied.contains p).map _) ++ _)).length = _
              rw [List.length_append, List.length_append, List.length_map]; omega
            have h2 : ((ev.ps.take j).filter fun q => !tied.contains q).length ≤ (ev.ps.filter fun q => !tied.contains q).length := ((List.take_sublist j ev.ps).filter _).length_le
            rw [List.length_append, List.length_map]
            exact size_lt (by omega)
          · exact fun z o hz => by rw [upd_ne (ne_of_none hz np)]; exact s5 _ _ (s4 _ _ hz)
          · rw [upd_ne (fun z => llp z.symm)]
            exact s5 _ _ h4l
          · rw [upd_same, List.map_append]; rfl
          · rw [hst]
            refine AllAt.snoc (hrs4.imp fun z o hz => ?_) ?_
            · have h1 := RowAt.same s5 _ _ hz
              exact ⟨h1.1, by rw [upd_ne h1.1]; exact h1.2⟩
            · exact ⟨c2p, by rw [upd_ne c2p]; exact upd_same⟩
          · exact pitches_upd (htq4.mono (PitchAt.same s5) s5) (s5 _ _ h4p) tqp
      · rintro σ H4 ⟨z, rs, rfl, s4, h4l, h4p, hrs4, htq4⟩
        rw [List.length_map, p2.length, List.take_length] at hrs4
        have htn : tot (lens ((voiceEvs v).take (i + 1))) = tm + ev.len := by
          rw [List.take_succ, e1, lens_app, tot_app, ht]
          show tm + tot [ev.len] = _
          rw [tot_cons]; rfl
        have hsn : sndE 0 [] (voiceEvs v) = (sofar ++ (ev.ps.filter fun q => !tied.contains q).map fun q => (q, tm, la)) ++ sndE (tm + ev.len) (if ev.tie = true then ev.ps else []) ((voiceEvs v).drop (i + 1)) := by
          rw [hsnd, hd, List.append_assoc, ← hL, hd]; rfl
        refine ⟨_, rfl, _, rfl, b, _, dxe, _, _, rfl, s4 _ _ e2, T.cl_Event, T.n_Event_length, eF_length, _, _, rfl, rfl, ?_⟩
        refine ⟨_, rfl, b, _, dxe, _, _, rfl, s4 _ _ e2, T.cl_Event, T.n_Event_tied, eF_tied, _, rfl, ?_⟩
        rw [htn]
        cases htie : ev.tie with
        | true =>
          rw [htie, if_pos rfl] at hsn
          refine if_t rfl ⟨_, rfl, b, _, dxe, _, _, rfl, s4 _ _ e2, T.cl_Event, T.n_Event_pitches, eF_pitches, ?_⟩
          exact ⟨_, _, _, qp, ev.ps, _, rs, rfl, s4, h4l, h4p, hrs4, ne_of_none p1 np, ⟨pas, s4 _ _ p1, p2.imp (PitchAt.same s4)⟩, hsn⟩
        | false =>
          rw [htie, if_neg (by decide)] at hsn
          refine if_f rfl ⟨Nat.zero_le _, fun e0 ne0 => ?_⟩
          have s6 := same_new ne0 (o := .lst [])
          exact ⟨_, _, _, e0, [], _, rs, rfl, s4.trans s6, s6 _ _ h4l, s6 _ _ h4p, hrs4.imp (RowAt.same s6), (fun z => by rw [z, h4p] at ne0; cases ne0), ⟨[], upd_same, .nil⟩, hsn⟩
    · rintro σ H2 ⟨x, y, z, tq, tied, sofar, rs, rfl, s2, h2l, h2p, hrs, tqp, htq, hsnd⟩
      rw [List.drop_length] at hsnd
      have hsnd : sndE 0 [] (voiceEvs v) = sofar := by rw [hsnd]; exact List.append_nil _
      exact ⟨_, rfl, kS _ p s2 ⟨rs, h2p, by rw [hsnd]; exact hrs⟩⟩
end
end Sco
namespace Sco
open PySem PySem.Spec PyProof.Rows L2 Sx62
theorem st_blank : Str.ofString " " = S [32] := by decide +kernel
theorem st_line : Str.ofString "\n" = S [10] := by decide +kernel
theorem st_time2 : Str.ofString "time " = S (TIME ++ [32]) := by decide +kernel
theorem st_key2 : Str.ofString "key " = S (KEY ++ [32]) := by decide +kernel
theorem st_voice2 : Str.ofString "voice " = S (VOICE ++ [32]) := by decide +kernel
theorem joinL_spaced : ∀ l : List Bytes, TL.joinL [32] l = spaced l
  | [] => rfl
  | [_] => rfl
  | a :: b :: l => by
    show a ++ ([32] ++ TL.joinL [32] (b :: l)) = a ++ 32 :: spaced (b :: l)
    rw [joinL_spaced (b :: l)]; rfl
theorem joinL_flat : ∀ l : List Bytes, TL.joinL [] l = l.flatten
  | [] => rfl
  | [a] => by simp [TL.joinL]
  | a :: b :: l => by
    show a ++ ([] ++ TL.joinL [] (b :: l)) = (a :: b :: l).flatten
    rw [joinL_flat (b :: l)]; simp
theorem join_S (a : Bytes) (l : List Bytes) : Txt.join (S a) (l.map S) = S (TL.joinL a l) := by
  rw [TL.join_eq]
  refine TL.ext_tl ?_
  rw [TL.tl_join, List.map_map]
  show TL.joinL a (l.map fun x => TL.tl (S x)) = TL.joinL a l
  congr 1
  exact List.map_id' l
theorem txs_str (l : List Bytes) : txs l = (l.map S).map V.str := by
  unfold txs; rw [List.map_map]; rfl
theorem lens_S (l : List Bytes) : ((l.map S).map (·.length)).sum = (l.map List.length).sum := by
  rw [List.map_map]; rfl
theorem spaced_len : ∀ l : List Bytes, l ≠ [] → (spaced l).length + 1 = (l.map List.length).sum + l.length
  | [], h => absurd rfl h
  | [a], _ => by simp [spaced]
  | a :: b :: l, _ => by
    have := spaced_len (b :: l) (by simp)
    rw [spaced_cons (by simp), List.length_append, List.length_cons, List.map_cons, List.sum_cons, List.length_cons (a := a)]
    omega
theorem flat_len (l : List Bytes) : (l.flatMap fun x => x ++ [10]).length = (l.map List.length).sum + l.length := by
  induction l with
  | nil => rfl
  | cons a l ih => rw [List.flatMap_cons, List.length_append, ih, List.length_append, List.map_cons, List.sum_cons, List.length_cons, List.length_cons, List.length_nil]; omega
def vLines (v : Voice) : List Bytes := [VOICE ++ 32 :: v.name] ++ v.bars.map (fun b => spaced (barWords b)) ++ [END]
def L12 (s : Score) : List Bytes := [TIME ++ 32 :: metreText s] ++ (if s.key = 0 then [] else [KEY ++ 32 :: keyText s])
theorem formLines_eq (s : Score) : formLines s = L12 s ++ s.voices.flatMap vLines := by
  have : formLines s = [TIME ++ 32 :: (dec s.beats ++ 47 :: dec s.unit)] ++ (if s.key = 0 then [] else [KEY ++ 32 :: ((if s.key < 0 then [45] else []) ++ dec s.key.natAbs)]) ++ s.voices.flatMap vLines := rfl
  rw [this]
  unfold L12 metreText keyText
  by_cases hk : s.key = 0
  · rw [if_pos hk, if_pos hk]
  · rw [if_neg hk, if_neg hk, if_neg hk]
theorem size_leM {n : Nat} (h : n ≤ 2000000) : n ≤ sizeLine := Nat.le_trans h (by decide)
theorem size_lt2 {n : Nat} (h : n ≤ 2000000) : n < sizeLine := Nat.lt_of_le_of_lt h (by decide)
theorem dec_ne (n : Nat) : dec n ≠ [] := by
  show (if n < 10 then [48 + n] else digits 3 (n / 10) ++ [48 + n % 10]) ≠ []
  split <;> simp
theorem txs_get {l : List Bytes} {i : Nat} {y : V} (h : (txs l)[i]? = some y) : ∃ x, l[i]? = some x ∧ y = .str (S x) := by
  unfold txs at h
  rw [List.getElem?_map] at h
  cases e : l[i]? with
  | none => rw [e] at h; cases h
  | some a => rw [e] at h; exact ⟨a, rfl, (Option.some.inj h).symm⟩
theorem sum_le {l : List Bytes} {a : Bytes} (h : a ∈ l) : a.length ≤ (l.map List.length).sum := by
  induction l with
  | nil => cases h
  | cons b l ih =>
    rw [List.map_cons, List.sum_cons]
    rcases List.mem_cons.mp h with e | e
    · subst e; omega
    · have := ih e; omega
section
variable {P : Program} {w : World} {K : PySem.W.Frag} {mg : Str → Option Value} {base : Heap}
/-! ### one_form -/
def tJn (K : PySem.W.Frag) (to te : TE) : TE := tM1 (fun x xs H Q => ∃ a p, ∃ ys : List Str, x = .str a ∧ xs = [.ref p] ∧ (SqL K H p (ys.map V.str) ∨ SqT K H p (ys.map V.str)) ∧ (ys.map (·.length)).sum + ys.length * a.length ≤ 16777216 ∧ Q (.str (Txt.join a ys)) H) to te
def spForm (cS cV cB cE : Addr) : Sp := fun vs H Q _ => ∃ (a : Addr) (s : Score), vs = [.ref a] ∧ ScoreAt cS cV cB cE H a s ∧ s.form.length ≤ 1000000 ∧ ∀ H' p, Same H H' → H' p = some (.lst (nats s.form)) → H p = none → Q (.ref p) H'
theorem sc_form : FnScope ["score", "lines", "voice", "bar", "line", "sign"] ["score"] (defScope (top 64)) := ⟨rfl, rfl, rfl, by decide +kernel, rfl, by decide +kernel, by decide +kernel⟩
theorem bi_form (D : DefAt K mg "one_form" (top 64)) : Binds K D.fd ["score"] [] := D.F.binds fun _ _ _ _ _ _ us hl => match us, hl with | [_], _ => rfl
theorem ok_form (T : Tx w K mg) : FnOk P w K mg base CX0 1 T.f_one_form.f T.f_one_form.fd ["score"] (spForm T.c_Score T.c_Voice T.c_Bar T.c_Event) := by
  refine T.f_one_form.F.ok sc_form (fun vs H Q E h => ?_) (fun cdv A outer s H vs Q E hr h => ?_)
  · obtain ⟨a, s, rfl, _⟩ := h
    rfl
  · obtain ⟨a, s, rfl, ⟨dx, vl, hs, as, hv, hvs⟩, hsz, kS⟩ := h
    refine ⟨_, pss_cons (ps_set (i := 1) sc_form.nd rfl (Or.inl rfl) (pe_lst (pa_cons (pe_op op_add_str pe_str (pe_fld (pv 0) rfl)) pa_nil)))
      (pss_mid (ps_if (pt_cmpR op_ne (pe_fld (pv 0) rfl) pe_str (nomark _))
          (pss_one (ps_expr (pe_bm PySem.F.plainAttrs_list PySem.F.slot_list_append PySem.F.type_list_append mt_append (pv 1) (pa_cons (pe_op op_add_str pe_str (pe_fld (pv 0) rfl)) pa_nil)))) pss_nil)
      (pss_cons (ps_for PassesOwn.never rfl (pi_list (pe_fld (pv 0) rfl)) (pg_name (i := 2) sc_form.nd rfl (Or.inl rfl))
        (pss_cons (ps_expr (pe_bm PySem.F.plainAttrs_list PySem.F.slot_list_append PySem.F.type_list_append mt_append (pv 1) (pa_cons (pe_op op_add_str pe_str (pe_fld (pv 2) rfl)) pa_nil)))
        (pss_cons (ps_expr (pe_bm PySem.F.plainAttrs_list PySem.F.slot_list_extend PySem.F.type_list_extend mt_extend (pv 1) (pa_cons
            (pe_lc (own := [("bar", 3)]) (g := gName 3) (tt := tYes) (te := tJn K (tC (.str (Str.ofString " "))) (tFld K (tVar 3) "words")) rfl sc_form.nd (pi_list (pe_fld (pv 2) rfl)) (blkOk_by (own := [("bar", 3)]) (N := ["score", "lines", "voice", "bar", "line", "sign"]) (sc := defScope (top 64)) (by decide +kernel))
              (fun _ _ _ _ _ => pg_name (i := 3) sc_form.nd rfl (Or.inl rfl)) (fun _ _ _ _ _ => pts_nil) (fun _ _ _ _ _ => pe_join pe_str (pe_fld (pv 3) rfl))) pa_nil)))
        (pss_one (ps_expr (pe_bm PySem.F.plainAttrs_list PySem.F.slot_list_append PySem.F.type_list_append mt_append (pv 1) (pa_cons pe_str pa_nil)))))))
      (pss_one (ps_ret
        (pe_lc (own := [("sign", 5)]) (g := gName 5) (tt := tYes) rfl sc_form.nd (pi_str (pe_join pe_str
            (pe_lc (own := [("line", 4)]) (g := gName 4) (tt := tYes) rfl sc_form.nd (pi_list (pv 1)) (blkOk_by (own := [("line", 4)]) (N := ["score", "lines", "voice", "bar", "line", "sign"]) (sc := defScope (top 64)) (by decide +kernel))
              (fun _ _ _ _ _ => pg_name (i := 4) sc_form.nd rfl (Or.inl rfl)) (fun _ _ _ _ _ => pts_nil) (fun _ _ _ _ _ => pe_op op_add_str (pv 4) pe_str)))) (blkOk_by (own := [("sign", 5)]) (N := ["score", "lines", "voice", "bar", "line", "sign"]) (sc := defScope (top 64)) (by decide +kernel))
              (fun _ _ _ _ _ => pg_name (i := 5) sc_form.nd rfl (Or.inl rfl)) (fun _ _ _ _ _ => pts_nil) (fun _ _ _ _ _ => pe_callB call_ord (by rfl) T.b_ord (by decide +kernel) (pa_cons (pv 5) pa_nil))))))), ?_⟩
    have hfl := form_lines s
    have hlen : ((formLines s).map List.length).sum + (formLines s).length ≤ 1000000 := by
      rw [hfl, flat_len] at hsz; exact hsz
    have hL : formLines s = L12 s ++ s.voices.flatMap vLines := formLines_eq s
    have hcnt : (L12 s).length + (s.voices.flatMap vLines).length ≤ 1000000 := by
      rw [hL, List.length_append] at hlen; omega
    have hin : ∀ x ∈ formLines s, x.length ≤ 1000000 := fun x hx => by have := sum_le hx; omega
    refine ⟨_, rfl, a, _, dx, _, _, rfl, hs, T.cl_Score, T.n_Score_metre, sF_metre, _, _, rfl, rfl, ?_, ?_⟩
    · have h1 := hin (TIME ++ 32 :: metreText s) (by rw [hL]; unfold L12; simp)
      rw [st_time2, len_S, len_S, List.length_append]
      rw [List.length_append, List.length_cons] at h1
      exact size_leM (by simp; omega)
    rw [st_time2, S_app]
    refine ⟨Nat.le_of_lt (size_lt (show 1 ≤ 4000 by decide)), fun l nl => ?_⟩
    have e0 : TIME ++ [32] ++ metreText s = TIME ++ 32 :: metreText s := by simp
    rw [e0]
    have s0 := same_new nl (o := .lst [.str (S (TIME ++ 32 :: metreText s))])
    have h0 : upd H l (.lst [.str (S (TIME ++ 32 :: metreText s))]) l = some (.lst (txs [TIME ++ 32 :: metreText s])) := upd_same
    generalize upd H l (.lst [.str (S (TIME ++ 32 :: metreText s))]) = H0 at s0 h0 ⊢
    refine ⟨fun σ' H' => σ' = [some (.ref a), some (.ref l), none, none, none, none] ∧ Same H H' ∧ H' l = some (.lst (txs (L12 s))), ?_, ?_⟩
    · refine ⟨_, rfl, a, _, dx, _, _, rfl, s0 _ _ hs, T.cl_Score, T.n_Score_key, sF_key, rfl, _, rfl, ?_⟩
      rw [st_empty, dec_str]
      by_cases hk : s.key = 0
      · have hkt : keyText s = [] := by unfold keyText; rw [if_pos hk]
        rw [hkt]
        refine if_f rfl ⟨rfl, s0, ?_⟩
        rw [h0]; unfold L12; rw [if_pos hk]; rfl
      · have hkt : keyText s ≠ [] := by
          unfold keyText
          rw [if_neg hk]
          intro z
          exact dec_ne _ (List.append_eq_nil_iff.mp z).2
        refine if_t (by rw [decide_eq_false hkt]; rfl) ⟨_, rfl, .inl ⟨rfl, _, SqL.of h0⟩, _, rfl, a, _, dx, _, _, rfl, s0 _ _ hs, T.cl_Score, T.n_Score_key, sF_key, _, _, rfl, rfl, ?_, ?_⟩
        · have h1 := hin (KEY ++ 32 :: keyText s) (by rw [hL]; unfold L12; rw [if_neg hk]; simp)
          rw [st_key2, len_S, len_S, List.length_append]
          rw [List.length_append, List.length_cons] at h1
          exact size_leM (by simp; omega)
        rw [st_key2, S_app]
        have e1 : KEY ++ [32] ++ keyText s = KEY ++ 32 :: keyText s := by simp
        rw [e1]
        refine ⟨l, _, _, rfl, rfl, h0, size_lt (show 1 ≤ 4000 by decide), rfl, ?_, ?_⟩
        · exact fun z o hz => by rw [upd_ne (ne_of_none hz nl)]; exact s0 _ _ hz
        · rw [upd_same]; unfold L12; rw [if_neg hk]; rfl
    · rintro σ' H1 ⟨rfl, s1, h1⟩
      refine ⟨_, rfl, a, _, dx, _, _, rfl, s1 _ _ hs, T.cl_Score, T.n_Score_voices, sF_voices, vl, rfl, ⟨_, SqL.of (s1 _ _ hv)⟩, for_list (K := K) (a := vl) (xs := as.map V.ref) (fun i σ H' => ∃ x, σ = [some (.ref a), some (.ref l), x, none, none, none] ∧ Same H H' ∧ H' l = some (.lst (txs (L12 s ++ (s.voices.take i).flatMap vLines)))) ⟨none, rfl, s1, by rw [List.take_zero]; show _ = some (HO.lst (txs (L12 s ++ []))); rw [List.append_nil]; exact h1⟩ ?_ ?_ ?_⟩
      · rintro i σ H' hi ⟨_, _, s2, _⟩
        exact SqL.of (s2 _ _ hv)
      · rintro i yy σ H2 hi ⟨x, rfl, s2, h2⟩
        obtain ⟨b, hb1, rfl⟩ := refs_get hi
        obtain ⟨v, e1, dxv, bl, el, e2, ⟨bas, b1, b2⟩, _⟩ := hvs.got hb1
        have hmem := List.mem_of_getElem? e1
        have htk : s.voices.take (i + 1) = s.voices.take i ++ [v] := by rw [List.take_succ, e1]; rfl
        have hle : (L12 s ++ (s.voices.take (i + 1)).flatMap vLines).length ≤ 1000000 := by
          have h9 : ((s.voices.take (i + 1)).flatMap vLines).length ≤ (s.voices.flatMap vLines).length := by
            conv => rhs; rw [← List.take_append_drop (i + 1) s.voices, List.flatMap_append, List.length_append]
            omega
          rw [List.length_append]; omega
        rw [htk, List.flatMap_append, ← List.append_assoc, List.flatMap_cons, List.flatMap_nil, List.append_nil]
        rw [htk, List.flatMap_append, ← List.append_assoc, List.flatMap_cons, List.flatMap_nil, List.append_nil, List.length_append] at hle
        generalize L12 s ++ (s.voices.take i).flatMap vLines = pre at h2 hle ⊢
        have hvl : (vLines v).length = v.bars.length + 2 := by
          unfold vLines
          rw [List.length_append, List.length_append, List.length_map]; simp; omega
        have hin2 : ∀ x ∈ vLines v, x.length ≤ 1000000 := fun x hx => hin x (by rw [hL]; exact List.mem_append_right _ (List.mem_flatMap.mpr ⟨v, hmem, hx⟩))
        refine ⟨_, rfl, .inl ⟨rfl, _, SqL.of h2⟩, _, rfl, b, _, dxv, _, _, rfl, s2 _ _ e2, T.cl_Voice, T.n_Voice_name, vF_name, _, _, rfl, rfl, ?_, ?_⟩
        · have h9 := hin2 (VOICE ++ 32 :: v.name) (by unfold vLines; simp)
          rw [st_voice2, len_S, len_S, List.length_append]
          rw [List.length_append, List.length_cons] at h9
          exact size_leM (by simp; omega)
        rw [st_voice2, S_app]
        have e3 : VOICE ++ [32] ++ v.name = VOICE ++ 32 :: v.name := by simp
        rw [e3]
        refine ⟨l, _, _, rfl, rfl, h2, by rw [txs_len]; exact size_lt2 (by omega), ?_⟩
        rw [txs_snoc]
        have s3 : Same H (upd H2 l (.lst (txs (pre ++ [VOICE ++ 32 :: v.name])))) := fun z o hz => by rw [upd_ne (ne_of_none hz nl)]; exact s2 _ _ hz
        have h3 : upd H2 l (.lst (txs (pre ++ [VOICE ++ 32 :: v.name]))) l = some (.lst (txs (pre ++ [VOICE ++ 32 :: v.name]))) := upd_same
        generalize upd H2 l (.lst (txs (pre ++ [VOICE ++ 32 :: v.name]))) = H3 at s3 h3 ⊢
        refine ⟨_, rfl, .inl ⟨rfl, _, SqL.of h3⟩, _, rfl, b, _, dxv, _, _, rfl, s3 _ _ e2, T.cl_Voice, T.n_Voice_bars, vF_bars, bl, rfl, ⟨_, SqL.of (s3 _ _ b1)⟩, fun D nD => ?_⟩
        refine lc_list (K := K) (a := bl) (xs := bas.map V.ref) (fun j H' => Same H3 H' ∧ H' D = some (.lst (txs ((v.bars.take j).map fun b => spaced (barWords b))))) ⟨same_new nD, upd_same⟩ ?_ ?_ ?_
        · rintro j H' hj ⟨s4, _⟩
          exact SqL.of (s4 _ _ (s3 _ _ b1))
        · rintro j y H4 hj ⟨s4, h4⟩
          obtain ⟨ba, hba, rfl⟩ := refs_get hj
          obtain ⟨bar, g1, dxb, lw, g2, g3⟩ := b2.got hba
          have s34 := s3.trans s4
          have hbm := List.mem_of_getElem? g1
          have hbt : v.bars.take (j + 1) = v.bars.take j ++ [bar] := by rw [List.take_succ, g1]; rfl
          refine ⟨rfl, ?_⟩
          dsimp only [tYes]
          rw [if_pos rfl]
          refine ⟨⟨_, rfl⟩, _, rfl, ba, _, dxb, _, _, rfl, s34 _ _ g2, T.cl_Bar, T.n_Bar_words, bF_words, _, lw, (barWords bar).map S, rfl, rfl, .inl (SqL.of (by rw [← txs_str]; exact s34 _ _ g3)), ?_, _, h4, ?_, ?_, ?_⟩
          · rw [lens_S, st_blank, len_S, List.length_map]
            have h9 := hin2 (spaced (barWords bar)) (by unfold vLines; simp only [List.mem_append, List.mem_map]; exact .inl (.inr ⟨bar, hbm, rfl⟩))
            have h8 := spaced_len (barWords bar) (by unfold barWords; simp)
            show _ + _ * 1 ≤ _
            omega
          · rw [txs_len, List.length_map, List.length_take]
            exact size_lt2 (by omega)
          · exact fun z o hz => by rw [upd_ne (ne_of_none hz nD)]; exact s4 _ _ hz
          · rw [upd_same, st_blank, join_S, joinL_spaced, txs_snoc, hbt, List.map_append]; rfl
        · rintro H4 ⟨s4, h4⟩
          rw [List.length_map, b2.length, List.take_length] at h4
          refine ⟨l, D, _, _, rfl, rfl, s4 _ _ h3, h4, by rw [txs_len, txs_len, List.length_append, List.length_map]; exact size_leM (by simp; omega), ?_⟩
          rw [txs_app]
          have s5 : Same H (upd H4 l (.lst (txs (pre ++ [VOICE ++ 32 :: v.name] ++ v.bars.map fun b => spaced (barWords b))))) := fun z o hz => by rw [upd_ne (ne_of_none hz nl)]; exact s4 _ _ (s3 _ _ hz)
          have h5 : upd H4 l (.lst (txs (pre ++ [VOICE ++ 32 :: v.name] ++ v.bars.map fun b => spaced (barWords b)))) l = some (.lst (txs (pre ++ [VOICE ++ 32 :: v.name] ++ v.bars.map fun b => spaced (barWords b)))) := upd_same
          generalize upd H4 l (.lst (txs (pre ++ [VOICE ++ 32 :: v.name] ++ v.bars.map fun b => spaced (barWords b)))) = H5 at s5 h5 ⊢
          refine ⟨_, rfl, .inl ⟨rfl, _, SqL.of h5⟩, l, _, _, rfl, rfl, h5, by rw [txs_len, List.length_append, List.length_append, List.length_map]; exact size_lt2 (by simp; omega), _, rfl, ?_, ?_⟩
          · exact fun z o hz => by rw [upd_ne (ne_of_none hz nl)]; exact s5 _ _ hz
          · rw [upd_same, st_end, txs_snoc]
            unfold vLines
            simp only [List.append_assoc]
      · rintro σ H2 ⟨x, rfl, s2, h2⟩
        rw [List.length_map, hvs.length, List.take_length, ← hL] at h2
        refine ⟨⟨_, rfl⟩, _, rfl, l, rfl, ⟨_, SqL.of h2⟩, fun D nD => ?_⟩
        refine lc_list (K := K) (a := l) (xs := txs (formLines s)) (fun j H' => Same H2 H' ∧ H' D = some (.lst (txs (((formLines s).take j).map fun x => x ++ [10])))) ⟨same_new nD, upd_same⟩ ?_ ?_ ?_
        · rintro j H' hj ⟨s4, _⟩
          exact SqL.of (s4 _ _ h2)
        · rintro j y H4 hj ⟨s4, h4⟩
          obtain ⟨ln, g1, rfl⟩ := txs_get hj
          have hlt : (formLines s).take (j + 1) = (formLines s).take j ++ [ln] := by rw [List.take_succ, g1]; rfl
          have h9 := hin ln (List.mem_of_getElem? g1)
          refine ⟨rfl, ?_⟩
          dsimp only [tYes]
          rw [if_pos rfl]
          refine ⟨_, rfl, _, _, rfl, rfl, ?_, _, h4, ?_, ?_, ?_⟩
          · rw [st_line, len_S, len_S]; exact size_leM (by show ln.length + 1 ≤ _; omega)
          · rw [txs_len, List.length_map, List.length_take]
            exact size_lt2 (by omega)
          · exact fun z o hz => by rw [upd_ne (ne_of_none hz nD)]; exact s4 _ _ hz
          · rw [upd_same, st_line, S_app, txs_snoc, hlt, List.map_append]; rfl
        · rintro H4 ⟨s4, h4⟩
          rw [txs_len, List.take_length] at h4
          have hff : (((formLines s).map fun x => x ++ [10]).flatten) = s.form := by rw [hfl]; exact (List.flatMap_def).symm
          have hlf : ((((formLines s).map fun x => x ++ [10]).map List.length).sum) = s.form.length := by
            rw [← hff, List.length_flatten]
          refine ⟨_, D, ((formLines s).map fun x => x ++ [10]).map S, rfl, rfl, .inl (SqL.of (by rw [← txs_str]; exact h4)), ?_, ?_⟩
          · rw [lens_S, hlf, st_empty, len_S]
            show _ + _ * 0 ≤ _
            omega
          rw [st_empty, join_S, joinL_flat, hff]
          refine ⟨_, rfl, fun D2 nD2 => ?_⟩
          have s24 := s2.trans s4
          refine lc_it walk_str (fun j H' => Same H4 H' ∧ H' D2 = some (.lst (nats (s.form.take j)))) ⟨same_new nD2, upd_same⟩ (fun _ _ _ _ => trivial) ?_ ?_
          · rintro j y H5 H6 hj ⟨s5, h5⟩ ⟨rfl, c, hc, rfl⟩
            have hc2 : s.form[j]? = some c := by
              have : (S s.form).cps.toList[j]? = some c := by rw [Array.getElem?_toList]; exact hc
              rw [cps_S] at this; exact this
            refine ⟨rfl, ?_⟩
            dsimp only [tYes]
            rw [if_pos rfl]
            refine ⟨_, rfl, _, rfl, rfl, _, h5, ?_, ?_, ?_⟩
            · unfold nats
              rw [List.length_map, List.length_take]
              exact size_lt2 (by omega)
            · exact fun z o hz => by rw [upd_ne (ne_of_none hz nD2)]; exact s5 _ _ hz
            · rw [upd_same, List.take_succ, hc2]
              unfold nats
              rw [List.map_append]; rfl
          · rintro H5 ⟨s5, h5⟩
            have : (S s.form).cps.size = s.form.length := rfl
            rw [this, List.take_length] at h5
            exact kS _ D2 (s24.trans s5) h5 (none_back s24 nD2)
end
end Sco
namespace Sco
open Sx62
def psum (l : List Ev) : Nat := (l.map fun e => e.ps.length).sum
theorem psum_app (l r : List Ev) : psum (l ++ r) = psum l + psum r := by unfold psum; rw [List.map_append, List.sum_append]
theorem pw_note (p k d : Nat) (t : Bool) (ps : List Pitch) : 1 ≤ pw (.note p ps k d t) ∧ ps.length ≤ pw (.note p ps k d t) := by
  match ps with
  | [] => exact ⟨Nat.le_refl _, Nat.zero_le _⟩
  | [a] => exact ⟨Nat.le_refl _, Nat.le_refl _⟩
  | a :: b :: r =>
    rw [pw_chord (by simp)]
    exact ⟨by omega, by omega⟩
theorem evs_size : ∀ (l : List Piece) (st : List (Nat × Nat)), (evsOf st l).length ≤ pws l ∧ psum (evsOf st l) ≤ pws l
  | [], st => ⟨Nat.le_refl _, Nat.le_refl _⟩
  | x :: l, st => by
    obtain ⟨h1, h2⟩ := evs_size l (stStep st x)
    have hx : (evStep st x).length ≤ pw x ∧ psum (evStep st x) ≤ pw x := by
      cases x with
      | opens n m => exact ⟨Nat.zero_le _, Nat.zero_le _⟩
      | closes => exact ⟨Nat.zero_le _, Nat.zero_le _⟩
      | note p ps k d t =>
        obtain ⟨a, b⟩ := pw_note p k d t ps
        refine ⟨a, ?_⟩
        show ps.length + 0 ≤ _
        omega
    show (evStep st x ++ evsOf (stStep st x) l).length ≤ _ ∧ psum (evStep st x ++ evsOf (stStep st x) l) ≤ _
    rw [List.length_append, psum_app, pws_cons]
    omega
theorem bars_size : ∀ bs : List Bar, (bs.flatMap barEvs).length ≤ bws bs ∧ psum (bs.flatMap barEvs) ≤ bws bs ∧ bs.length ≤ bws bs
  | [] => ⟨Nat.le_refl _, Nat.le_refl _, Nat.le_refl _⟩
  | b :: bs => by
    obtain ⟨h1, h2, h3⟩ := bars_size bs
    obtain ⟨a1, a2⟩ := evs_size b.pieces []
    have hb := bw_eq b
    rw [List.flatMap_cons, List.length_append, psum_app, bws_cons, List.length_cons]
    have e1 : barEvs b = evsOf [] b.pieces := rfl
    rw [e1]
    omega
theorem vw_mem {v : Voice} : ∀ {l : List Voice}, v ∈ l → vw v ≤ vws l
  | a :: l, h => by
    rw [vws_cons]
    rcases List.mem_cons.mp h with e | e
    · subst e; omega
    · have := vw_mem e; omega
theorem voices_size : ∀ l : List Voice, l.length ≤ vws l
  | [] => Nat.le_refl _
  | a :: l => by
    have := voices_size l
    rw [vws_cons, List.length_cons]
    unfold vw
    omega
theorem psum_mem {e : Ev} : ∀ {l : List Ev}, e ∈ l → e.ps.length ≤ psum l
  | a :: l, h => by
    have hs : psum (a :: l) = a.ps.length + psum l := rfl
    rw [hs]
    rcases List.mem_cons.mp h with q | q
    · subst q; omega
    · have := psum_mem q; omega
theorem snd_size : ∀ (l : List Ev) (t : Nat) (tied : List Pitch), (sndE t tied l).length ≤ psum l
  | [], t, tied => Nat.zero_le _
  | x :: l, t, tied => by
    have h1 := snd_size l (t + x.len) (if x.tie = true then x.ps else [])
    show (((x.ps.filter fun p => !tied.contains p).map fun p => (p, t, lastE (x :: l))) ++ sndE (t + x.len) (if x.tie = true then x.ps else []) l).length ≤ x.ps.length + psum l
    rw [List.length_append, List.length_map]
    have h2 : (x.ps.filter fun p => !tied.contains p).length ≤ x.ps.length := List.length_filter_le ..
    omega
theorem small_of {s : Score} (h : vws s.voices ≤ 1600) : Small s ∧ ∀ v ∈ s.voices, (sndE 0 [] (voiceEvs v)).length ≤ 3000 := by
  have key : ∀ v ∈ s.voices, bws v.bars ≤ 1600 := fun v hv => by
    have h1 := vw_mem hv
    have h2 : vw v = 3 + bws v.bars := rfl
    omega
  refine ⟨⟨by have := voices_size s.voices; omega, fun v hv => ?_⟩, fun v hv => ?_⟩
  · have hk := key v hv
    obtain ⟨a, b, c⟩ := bars_size v.bars
    have e1 : voiceEvs v = v.bars.flatMap barEvs := rfl
    rw [e1]
    refine ⟨by omega, by omega, fun e he => ?_⟩
    have := psum_mem he
    omega
  · have hk := key v hv
    obtain ⟨a, b, c⟩ := bars_size v.bars
    have := snd_size (voiceEvs v) 0 []
    have e1 : voiceEvs v = v.bars.flatMap barEvs := rfl
    rw [e1] at this ⊢
    omega
/-! the text -/
theorem dec_len (n : Nat) : (dec n).length ≤ 4 := by
  have : ∀ k n, (digits k n).length ≤ k := by
    intro k
    induction k with
    | zero => intro n; exact Nat.le_refl _
    | succ k ih =>
      intro n
      show (if n < 10 then [48 + n] else digits k (n / 10) ++ [48 + n % 10]).length ≤ k + 1
      split
      · simp
      · rw [List.length_append]
        have := ih (n / 10)
        simp; omega
  exact this 4 n
theorem sign_len (n : Nat) : (signText n).length ≤ 2 := by
  unfold signText
  match n with
  | 0 => decide
  | 1 => decide
  | 2 => decide
  | 3 => decide
  | 4 => decide
  | n + 5 => simp [List.getD]
theorem pitch_len (p : Pitch) : (pitchText p).length ≤ 7 := by
  unfold pitchText
  have h1 := sign_len p.sign
  have h2 := dec_len p.octave
  rw [List.length_append, List.length_cons]; omega
theorem long_len {k d : Nat} {t : Bool} (h : d < 3) : (longText k d t).length ≤ 8 := by
  unfold longText
  have h2 := dec_len k
  rw [List.length_append, List.length_append, List.length_cons, List.length_replicate]
  have : (if t = true then [126] else ([] : Bytes)).length ≤ 1 := by split <;> simp
  omega
theorem piece_word {st : List (Nat × Nat)} {x : Piece} (h : PieceOk st x) : ∀ y ∈ pieceWords x, y.length ≤ 15 := by
  intro y hy
  match x, h, hy with
  | .opens n m, _, hy =>
    rw [List.mem_singleton.mp hy]
    have h1 := dec_len n
    have h2 := dec_len m
    rw [List.length_append, List.length_cons, List.length_cons]; omega
  | .closes, _, hy => rw [List.mem_singleton.mp hy]; decide
  | .note p [] k d t, h, hy =>
    rw [List.mem_singleton.mp hy]
    have := long_len (k := k) (t := t) h.2.1
    rw [List.length_cons]; omega
  | .note p [q] k d t, h, hy =>
    rw [List.mem_singleton.mp hy]
    have := long_len (k := k) (t := t) h.2.1
    have := pitch_len q
    rw [List.length_append]; omega
  | .note p (a :: b :: r) k d t, h, hy =>
    have hl := long_len (k := k) (t := t) h.2.1
    have hy : y ∈ [91] :: ((a :: b :: r).map pitchText ++ [93 :: longText k d t]) := hy
    rcases List.mem_cons.mp hy with e | e
    · rw [e]; decide
    · rcases List.mem_append.mp e with e | e
      · obtain ⟨q, _, rfl⟩ := List.mem_map.mp e
        have := pitch_len q; omega
      · rw [List.mem_singleton.mp e, List.length_cons]; omega
theorem pieces_word : ∀ {l : List Piece} {st : List (Nat × Nat)}, PsOk st l → ∀ y ∈ l.flatMap pieceWords, y.length ≤ 15
  | [], _, _, y, h => by cases h
  | x :: l, st, ⟨h1, h2⟩, y, h => by
    rw [List.flatMap_cons] at h
    rcases List.mem_append.mp h with e | e
    · exact piece_word h1 y e
    · exact pieces_word h2 y e
theorem bar_word {b : Bar} (h : BarOk b) : ∀ y ∈ barWords b, y.length ≤ 15 := by
  intro y hy
  unfold barWords at hy
  rcases List.mem_append.mp hy with e | e
  · rcases List.mem_append.mp e with e | e
    · split at e
      · rw [List.mem_singleton.mp e]; decide
      · cases e
    · exact pieces_word h y e
  · rw [List.mem_singleton.mp e]; decide
theorem sum_le15 : ∀ {l : List Bytes}, (∀ y ∈ l, y.length ≤ 15) → (l.map List.length).sum ≤ 15 * l.length
  | [], _ => Nat.zero_le _
  | a :: l, h => by
    have h1 := h a List.mem_cons_self
    have h2 := sum_le15 fun y hy => h y (List.mem_cons_of_mem _ hy)
    rw [List.map_cons, List.sum_cons, List.length_cons]; omega
theorem bar_line_len {b : Bar} (h : BarOk b) : (spaced (barWords b)).length + 1 ≤ 16 * bw b := by
  rw [spaced_len _ (by unfold barWords; simp)]
  have := sum_le15 (bar_word h)
  unfold bw
  omega
theorem barl_sum : ∀ {bs : List Bar}, (∀ b ∈ bs, BarOk b) → ((bs.map fun b => spaced (barWords b)).map List.length).sum + bs.length ≤ 16 * bws bs
  | [], _ => Nat.zero_le _
  | b :: bs, h => by
    have h1 := bar_line_len (h b List.mem_cons_self)
    have h2 := barl_sum fun x hx => h x (List.mem_cons_of_mem _ hx)
    rw [List.map_cons, List.map_cons, List.sum_cons, List.length_cons, bws_cons]; omega
theorem vlines_len {v : Voice} (h : VoiceOk v) (hn : v.name.length ≤ 8) : ((vLines v).map List.length).sum + (vLines v).length ≤ 16 * vw v := by
  have h1 := barl_sum h.1
  unfold vLines
  have h2 : vw v = 3 + bws v.bars := rfl
  rw [List.map_append, List.map_append, List.sum_append, List.sum_append, List.length_append, List.length_append, h2]
  have e1 : (([VOICE ++ 32 :: v.name] : List Bytes).map List.length).sum = 5 + (v.name.length + 1) := by
    simp [VOICE]; omega
  have e2 : (([END] : List Bytes).map List.length).sum = 3 := by decide
  have e3 : ([VOICE ++ 32 :: v.name] : List Bytes).length = 1 := rfl
  have e4 : ([END] : List Bytes).length = 1 := rfl
  rw [e1, e2, e3, e4, List.length_map]
  omega
theorem vlines_sum : ∀ {vs : List Voice}, (∀ v ∈ vs, VoiceOk v) → (∀ v ∈ vs, v.name.length ≤ 8) → ((vs.flatMap vLines).map List.length).sum + (vs.flatMap vLines).length ≤ 16 * vws vs
  | [], _, _ => Nat.zero_le _
  | v :: vs, h, hn => by
    have h1 := vlines_len (h v List.mem_cons_self) (hn v List.mem_cons_self)
    have h2 := vlines_sum (fun x hx => h x (List.mem_cons_of_mem _ hx)) (fun x hx => hn x (List.mem_cons_of_mem _ hx))
    rw [List.flatMap_cons, List.map_append, List.sum_append, List.length_append, vws_cons]; omega
theorem form_len {s : Score} (h : ScoreOk s) (hn : ∀ v ∈ s.voices, v.name.length ≤ 8) (hw : vws s.voices ≤ 1600) : s.form.length ≤ 30000 := by
  rw [form_lines, flat_len, formLines_eq, List.map_append, List.sum_append, List.length_append]
  have h1 := vlines_sum h.voices hn
  have d1 := dec_len s.beats
  have d2 := dec_len s.unit
  have d3 := dec_len s.key.natAbs
  have h2 : ((L12 s).map List.length).sum + (L12 s).length ≤ 50 := by
    unfold L12
    have e1 : (TIME ++ 32 :: metreText s).length ≤ 20 := by
      unfold metreText
      rw [List.length_append, List.length_cons, List.length_append, List.length_cons]
      have : TIME.length = 4 := rfl
      omega
    have e2 : (KEY ++ 32 :: keyText s).length ≤ 20 := by
      have : (keyText s).length ≤ 5 := by
        unfold keyText
        split
        · simp
        · rw [List.length_append]
          have : (if s.key < 0 then [45] else ([] : Bytes)).length ≤ 1 := by split <;> simp
          omega
      rw [List.length_append, List.length_cons]
      have : KEY.length = 3 := rfl
      omega
    split
    · rw [List.append_nil, List.map_cons, List.sum_cons, List.length_cons]; simp at *; omega
    · rw [List.map_append, List.sum_append, List.length_append, List.map_cons, List.sum_cons, List.map_cons, List.sum_cons]; simp at *; omega
  omega
/-! time -/
theorem bar_right {fl : Nat} {b : Bar} (h : right fl b = true) : barLen b ≤ fl := by
  unfold right at h
  split at h
  · have := of_decide_eq_true h; omega
  · have := beq_iff_eq.mp h; omega
theorem bars_tot : ∀ {bs : List Bar} {fl : Nat}, (∀ b ∈ bs, barLen b ≤ fl) → tot (lens (bs.flatMap barEvs)) ≤ bs.length * fl
  | [], fl, _ => Nat.zero_le _
  | b :: bs, fl, h => by
    have h1 := h b List.mem_cons_self
    have h2 := bars_tot fun x hx => h x (List.mem_cons_of_mem _ hx)
    rw [List.flatMap_cons, lens_app, tot_app, List.length_cons, Nat.add_mul, Nat.one_mul]
    have e1 : barLen b = tot (lens (barEvs b)) := rfl
    omega
theorem full_le {s : Score} (h : ScoreOk s) : full s ≤ 32 * WH := by
  unfold full
  have h1 : WH / s.unit ≤ WH := Nat.div_le_self ..
  have h2 := h.beats.2
  calc WH / s.unit * s.beats ≤ WH * 32 := Nat.mul_le_mul h1 h2
    _ = 32 * WH := Nat.mul_comm ..
theorem voice_tot {s : Score} {v : Voice} (h : ScoreOk s) (hf : s.fault = none) (hv : v ∈ s.voices) (hw : vws s.voices ≤ 1600) : tot (lens (voiceEvs v)) < 2 ^ 62 := by
  rw [score_fault h] at hf
  have hq := List.findSome?_eq_none_iff.mp hf v hv
  have hall : ∀ b ∈ v.bars, barLen b ≤ full s := fun b hb => by
    unfold faultE at hq
    cases hfd : v.bars.find? (fun b => !right (full s) b) with
    | some c => rw [hfd] at hq; cases hq
    | none =>
      have := List.find?_eq_none.mp hfd b hb
      refine bar_right (fl := full s) ?_
      simpa using this
  have h1 := bars_tot hall
  have h2 : bws v.bars ≤ 1600 := by
    have h1 := vw_mem hv
    have h2 : vw v = 3 + bws v.bars := rfl
    omega
  have h3 := (bars_size v.bars).2.2
  have h4 := full_le h
  have h5 : v.bars.length * full s ≤ 1600 * (32 * WH) := Nat.mul_le_mul (by omega) h4
  have h6 : 1600 * (32 * WH) < 2 ^ 62 := by decide
  have e1 : voiceEvs v = v.bars.flatMap barEvs := rfl
  rw [e1]
  omega
end Sco
namespace Sco
open PySem PySem.Spec PyProof.Rows L2 Sx62
theorem wordsFrom_len : ∀ (t : Bytes) (i s : Nat) (w : Bytes), ∀ x ∈ wordsFrom i s w t, x.text.length ≤ w.length + t.length
  | [], i, s, w, x, h => by
    change x ∈ (if w = [] then [] else [⟨s, w.reverse⟩]) at h
    split at h
    · cases h
    · rw [List.mem_singleton.mp h]
      show w.reverse.length ≤ _
      rw [List.length_reverse]; exact Nat.le_add_right ..
  | c :: t, i, s, w, x, h => by
    by_cases hc : c ≠ 32 ∧ c ≠ 10
    · rw [wordsFrom_ne hc] at h
      have := wordsFrom_len t _ _ _ x h
      rw [List.length_cons] at this ⊢; omega
    · rw [wordsFrom_eq hc] at h
      rcases List.mem_append.mp h with h | h
      · split at h
        · cases h
        · rw [List.mem_singleton.mp h]
          show w.reverse.length ≤ _
          rw [List.length_reverse]; exact Nat.le_add_right ..
      · have := wordsFrom_len t _ _ _ x h
        rw [List.length_nil] at this
        rw [List.length_cons]; omega
theorem words_ok {t : Bytes} (h : t.length ≤ 1500) : WsOk ((words t).map cw) := by
  intro w hw
  obtain ⟨x, hx, rfl⟩ := List.mem_map.mp hw
  have h1 := wordsFrom_len t 0 0 [] x hx
  have h2 := wordsFrom_nonempty t 0 0 [] x hx
  refine ⟨⟨fun c hc => ?_, ?_⟩, ?_⟩
  · obtain ⟨d, _, rfl⟩ := List.mem_map.mp (show c ∈ x.text.map cl from hc)
    exact cl_ascii d
  · show (x.text.map cl).length ≤ 2000
    rw [List.length_map]
    rw [List.length_nil] at h1
    omega
  · show x.text.map cl ≠ []
    intro z
    exact h2 (List.map_eq_nil_iff.mp z)
structure Good (s : Score) : Prop where
  ok : ScoreOk s
  sound : s.fault = none
  size : vws s.voices ≤ 1600
  names : ∀ v ∈ s.voices, v.name.length ≤ 8
theorem words_cnt {t : Bytes} (h : t.length ≤ 1500) : (words t).length ≤ 1501 := by
  have := wordsFrom_count t 0 0 []
  unfold words; omega
theorem parse_small {t : Bytes} {s : Score} (h : t.length ≤ 1500) (hp : parse t.length (words t) = .ok s) : ScoreOk s ∧ vws s.voices ≤ 1600 ∧ ∀ v ∈ s.voices, v.name.length ≤ 8 := by
  obtain ⟨a, b⟩ := mz_parse hp
  have := words_cnt h
  exact ⟨parse_ok hp, by omega, b⟩
theorem read_good {t : Bytes} {s : Score} (h : t.length ≤ 1500) (hr : Sx62.read t = .ok s) : Good s := by
  unfold Sx62.read at hr
  split at hr
  · cases hr
  · split at hr
    · cases hr
    · rename_i y hy
      split at hr
      · cases hr
      · rename_i hf
        injection hr with hr
        subst hr
        obtain ⟨a, b, c⟩ := parse_small h hy
        exact ⟨a, hf, b, c⟩
section
variable {P : Program} {w : World} {K : PySem.W.Frag} {mg : Str → Option Value} {base : Heap}
/-! ### score_of -/
def spOf (cS cV cB cE cF : Addr) : Sp := fun vs H Q E => ∃ (a : Addr) (t : Bytes), vs = [.ref a] ∧ H a = some (.lst (nats t)) ∧ t.length ≤ 1500 ∧
  (∀ f, Sx62.read t = .error f → Falls cF [] H f E) ∧ ∀ s, Sx62.read t = .ok s → ∀ H' p, Same H H' → ScoreAt cS cV cB cE H' p s → Q (.ref p) H'
theorem sc_of : FnScope ["text", "score"] ["text"] (defScope (top 99)) := ⟨rfl, rfl, rfl, by decide +kernel, rfl, by decide +kernel, by decide +kernel⟩
theorem bi_of (D : DefAt K mg "score_of" (top 99)) : Binds K D.fd ["text"] [] := D.F.binds fun _ _ _ _ _ _ us hl => match us, hl with | [_], _ => rfl
theorem ok_of (T : Tx w K mg) : FnOk P w K mg base (L2.CX P w) 10 T.f_score_of.f T.f_score_of.fd ["text"] (spOf T.c_Score T.c_Voice T.c_Bar T.c_Event T.c_Fault) := by
  have GB : FnOk P w K mg base (L2.CX P w) 3 _ _ _ (spCheckB T.c_Fault) := ok_checkB T
  have GW : FnOk P w K mg base CX0 2 _ _ _ spWordsOf := ok_wordsOf T
  have GR : FnOk P w K mg base (L2.CX P w) 9 _ _ _ (spReadWords T.c_Score T.c_Voice T.c_Bar T.c_Event T.c_Fault) := ok_readWords T
  have GC : FnOk P w K mg base (L2.CX P w) 4 _ _ _ (spCheck T.c_Score T.c_Voice T.c_Bar T.c_Event T.c_Fault) := ok_check T
  refine T.f_score_of.F.okX sc_of (fun vs H Q E h => ?_) (fun cdv A outer s H vs Q E hr h => ?_)
  · obtain ⟨a, t, rfl, _⟩ := h
    rfl
  · obtain ⟨a, t, rfl, hA, hlen, kF, kS⟩ := h
    have hr2 : Room 2 _ := hr.mono (by decide)
    have hr3 : Room 3 _ := hr.mono (by decide)
    have hr4 : Room 4 _ := hr.mono (by decide)
    have hr9 : Room 9 _ := hr.mono (by decide)
    refine ⟨_, pss_cons (ps_expr (pe_call GB hr3 rfl T.f_check_bytes.g T.f_check_bytes.F.kp (bi_checkB _) .nil (passes_call (W := fun cls d _ H => E cls d H) (takes_of rfl rfl rfl rfl) (fun _ _ _ _ h => h)) (pa_cons (pv 0) pa_nil)))
      (pss_cons (ps_set (i := 1) sc_of.nd rfl (Or.inl rfl) (pe_call GR hr9 rfl T.f_read_words.g T.f_read_words.F.kp (bi_readWords _) .nil (passes_call (W := fun cls d _ H => E cls d H) (takes_of rfl rfl rfl rfl) (fun _ _ _ _ h => h)) (pa_cons
        (pe_call GW hr2 rfl T.f_words_of.g T.f_words_of.F.kp (bi_wordsOf _) .nil pass0 (pa_cons (pv 0) pa_nil)) pa_nil)))
      (pss_cons (ps_expr (pe_call GC hr4 rfl T.f_check_score.g T.f_check_score.F.kp (bi_check _) .nil (passes_call (W := fun cls d _ H => E cls d H) (takes_of rfl rfl rfl rfl) (fun _ _ _ _ h => h)) (pa_cons (pv 1) pa_nil)))
      (pss_one (ps_ret (pv 1))))), ?_⟩
    refine ⟨_, rfl, a, t, rfl, hA, fun i hi => kF ⟨1, i⟩ ?_, fun hno H1 s1 => ?_⟩
    · unfold Sx62.read; rw [hi]
    · refine ⟨_, rfl, a, t, rfl, s1 _ _ hA, hlen, fun c hc => ?_, fun H2 p s2 hW => ?_⟩
      · have := List.findIdx?_eq_none_iff.mp hno c hc
        unfold okByte at this
        by_cases h10 : c = 10
        · omega
        · by_cases h126 : c ≤ 126
          · omega
          · rw [beq_eq_false_iff_ne.mpr h10, decide_eq_false h126] at this
            simp at this
      · have s12 := s1.trans s2
        refine ⟨p, _, t.length, rfl, hW, words_ok hlen, by rw [List.length_map]; have := words_cnt hlen; omega, fun f hf => ?_, fun sc hsc H3 q s3 hS => ?_⟩
        · rw [parse_cl] at hf
          refine (kF f ?_).but (But.of s12) (by simp)
          unfold Sx62.read; rw [hno]; dsimp only; rw [hf]
        · rw [parse_cl] at hsc
          obtain ⟨ok, sz, nm⟩ := parse_small hlen hsc
          have s13 := s12.trans s3
          refine ⟨_, rfl, q, sc, rfl, hS, (small_of sz).1, fun f hf => ?_, fun hn H4 s4 => ?_⟩
          · refine (kF f ?_).but (But.of s13) (by simp)
            unfold Sx62.read; rw [hno]; dsimp only; rw [hsc]; dsimp only; rw [score_fault ok, hf]
          · refine ⟨_, rfl, kS sc ?_ H4 q (s13.trans s4) (ScoreAt.same s4 _ _ hS)⟩
            unfold Sx62.read; rw [hno]; dsimp only; rw [hsc]; dsimp only; rw [score_fault ok, hn]
end
end Sco
namespace Sco
open PySem PySem.Spec PyProof.Rows L2 Sx62
def NumAt (H : Hp) (a : Addr) (r : List Nat) : Prop := H a = some (.lst (natV r))
theorem NumAt.same {H H' : Hp} (s : Same H H') (a : Addr) (r : List Nat) (h : NumAt H a r) : NumAt H' a r := s _ _ h
def rowsN (rows : List (List Nat)) : List Nat := rows.length :: rows.flatMap fun r => r.length :: r
theorem natV_app (a b : List Nat) : natV a ++ natV b = natV (a ++ b) := (List.map_append ..).symm
theorem natV_len (a : List Nat) : (natV a).length = a.length := List.length_map ..
section
variable {P : Program} {w : World} {K : PySem.W.Frag} {mg : Str → Option Value} {base : Heap}
/-! ### with_rows -/
def spRows : Sp := fun vs H Q _ => ∃ (a : Addr) (rows : List (List Nat)), vs = [.ref a] ∧ ListAt NumAt H a rows ∧ (rowsN rows).length ≤ 1000000 ∧ ∀ H' p, Same H H' → H' p = some (.lst (natV (rowsN rows))) → H p = none → Q (.ref p) H'
theorem sc_rows : FnScope ["rows", "answer", "row"] ["rows"] (defScope (top 100)) := ⟨rfl, rfl, rfl, by decide +kernel, rfl, by decide +kernel, by decide +kernel⟩
theorem bi_rows (D : DefAt K mg "with_rows" (top 100)) : Binds K D.fd ["rows"] [] := D.F.binds fun _ _ _ _ _ _ us hl => match us, hl with | [_], _ => rfl
theorem ok_rows (T : Tx w K mg) : FnOk P w K mg base CX0 1 T.f_with_rows.f T.f_with_rows.fd ["rows"] spRows := by
  refine T.f_with_rows.F.ok sc_rows (fun vs H Q E h => ?_) (fun cdv A outer s H vs Q E hr h => ?_)
  · obtain ⟨a, rows, rfl, _⟩ := h
    rfl
  · obtain ⟨a, rows, rfl, ⟨as, hb, hbs⟩, hsz, kS⟩ := h
    refine ⟨_, pss_cons (ps_set (i := 1) sc_rows.nd rfl (Or.inl rfl) (pe_lst (pa_cons (pe_callB call_len_seq (by rfl) T.b_len PySem.boot_len (pa_cons (pv 0) pa_nil)) pa_nil)))
      (pss_cons (ps_for PassesOwn.never rfl (pi_list (pv 0)) (pg_name (i := 2) sc_rows.nd rfl (Or.inl rfl))
        (pss_cons (ps_expr (pe_bm PySem.F.plainAttrs_list PySem.F.slot_list_append PySem.F.type_list_append mt_append (pv 1) (pa_cons (pe_callB call_len_seq (by rfl) T.b_len PySem.boot_len (pa_cons (pv 2) pa_nil)) pa_nil)))
        (pss_one (ps_expr (pe_bm PySem.F.plainAttrs_list PySem.F.slot_list_extend PySem.F.type_list_extend mt_extend (pv 1) (pa_cons (pv 2) pa_nil))))))
      (pss_one (ps_ret (pv 1)))), ?_⟩
    refine ⟨_, rfl, a, _, rfl, .inl (SqL.of hb), Nat.le_of_lt (size_lt (show 1 ≤ 4000 by decide)), fun p np => ?_⟩
    rw [List.length_map, hbs.length]
    have s0 := same_new np (o := .lst [.int (rows.length : Nat)])
    have h0 : upd H p (.lst [.int (rows.length : Nat)]) p = some (.lst (natV [rows.length])) := upd_same
    generalize upd H p (.lst [.int (rows.length : Nat)]) = H0 at s0 h0 ⊢
    have hle : ∀ i, (rows.length :: (rows.take i).flatMap fun r => r.length :: r).length ≤ (rowsN rows).length := fun i => by
      unfold rowsN
      rw [List.length_cons, List.length_cons]
      conv => rhs; rw [← List.take_append_drop i rows, List.flatMap_append, List.length_append]
      omega
    refine ⟨_, rfl, a, rfl, ⟨_, SqL.of (s0 _ _ hb)⟩, for_list (K := K) (a := a) (xs := as.map V.ref) (fun i σ H' => ∃ x, σ = [some (.ref a), some (.ref p), x] ∧ Same H H' ∧ H' p = some (.lst (natV (rows.length :: (rows.take i).flatMap fun r => r.length :: r)))) ⟨none, rfl, s0, h0⟩ ?_ ?_ ?_⟩
    · rintro i σ H' hi ⟨x, rfl, s1, _⟩
      exact SqL.of (s1 _ _ hb)
    · rintro i yy σ H1 hi ⟨x, rfl, s1, h1⟩
      obtain ⟨b, hb1, rfl⟩ := refs_get hi
      obtain ⟨r, e1, e2⟩ := hbs.got hb1
      have htk : rows.take (i + 1) = rows.take i ++ [r] := by rw [List.take_succ, e1]; rfl
      have hl := hle (i + 1)
      rw [htk, List.flatMap_append, List.flatMap_cons, List.flatMap_nil, List.append_nil, ← List.cons_append, List.length_append] at hl
      have hrl : (r.length :: r).length = r.length + 1 := rfl
      rw [hrl] at hl
      rw [htk, List.flatMap_append, List.flatMap_cons, List.flatMap_nil, List.append_nil, ← List.cons_append]
      generalize (rows.length :: (rows.take i).flatMap fun r => r.length :: r) = pre at h1 hl ⊢
      have bp : b ≠ p := ne_of_none e2 np
      refine ⟨_, rfl, .inl ⟨rfl, _, SqL.of h1⟩, _, rfl, b, _, rfl, .inl (SqL.of (s1 _ _ e2)), p, _, _, rfl, rfl, h1, by rw [natV_len]; exact size_lt2 (by omega), ?_⟩
      have ea : natV pre ++ [V.int ((natV r).length : Nat)] = natV (pre ++ [r.length]) := by rw [natV_len, ← natV_app]; rfl
      rw [ea]
      have s2 : Same H (upd H1 p (.lst (natV (pre ++ [r.length])))) := fun z o hz => by rw [upd_ne (ne_of_none hz np)]; exact s1 _ _ hz
      have h2 : upd H1 p (.lst (natV (pre ++ [r.length]))) p = some (.lst (natV (pre ++ [r.length]))) := upd_same
      generalize upd H1 p (.lst (natV (pre ++ [r.length]))) = H2 at s2 h2 ⊢
      refine ⟨_, rfl, .inl ⟨rfl, _, SqL.of h2⟩, _, rfl, p, b, _, _, rfl, rfl, h2, s2 _ _ e2, by rw [natV_len, natV_len, List.length_append]; exact size_leM (by simp; omega), _, rfl, ?_, ?_⟩
      · exact fun z o hz => by rw [upd_ne (ne_of_none hz np)]; exact s2 _ _ hz
      · rw [upd_same, natV_app, List.append_assoc]; rfl
    · rintro σ H1 ⟨x, rfl, s1, h1⟩
      rw [List.length_map, hbs.length, List.take_length] at h1
      exact ⟨_, rfl, kS _ p s1 h1 np⟩
end
end Sco
namespace Sco
open PySem PySem.Spec PyProof.Rows L2 Sx62
def intV (l : List Int) : List V := l.map V.int
def dF (x : V) : List (Str × V) := [("score", x)]
theorem dF_score {x : V} : (dF x).lookup ("score" : Str) = some x := lk_here
def DeskAt (cD cS cV cB cE : Addr) (H : Hp) (d : Addr) (st : Option Score) : Prop := ∃ dx x, H d = some (.ins cD dx (dF x)) ∧ (match st with
  | none => x = .non
  | some s => ∃ p, x = .ref p ∧ ScoreAt cS cV cB cE H p s ∧ Good s)
theorem natV_int (l : List Nat) : natV l = intV (l.map fun (n : Nat) => (n : Int)) := by
  unfold natV intV; rw [List.map_map]; rfl
theorem intV_len (l : List Int) : (intV l).length = l.length := List.length_map ..
theorem told_rows (n : Nat) (rows : List (List Nat)) (h : n = rows.length) : intV (Sx62Neutral.told ⟨num n, rows⟩) = natV (rowsN rows) := by
  subst h
  rw [natV_int]
  unfold Sx62Neutral.told rowsN num
  rw [List.map_cons]
  congr 2
  dsimp only
  induction rows with
  | nil => rfl
  | cons r rows ih => rw [List.flatMap_cons, List.flatMap_cons, List.map_append, ih, List.map_cons]
section
variable {P : Program} {w : World} {K : PySem.W.Frag} {mg : Str → Option Value} {base : Heap}
theorem rows_map {p : Addr} {H : Hp} : ∀ {rs : List Addr} {l : List (Pitch × Nat × Nat)}, AllAt (RowAt p H) rs l → AllAt (NumAt H) rs (l.map fun x => [x.1.letter, x.1.sign, x.1.octave, (fr x.2.1).num, (fr x.2.1).den, (fr x.2.2).num, (fr x.2.2).den])
  | _, _, .nil => .nil
  | _, _, .cons r t => .cons r.2 (rows_map t)
/-- a method that tells of the desk's score -/
def spTell (cD cS cV cB cE : Addr) (f : Score → Ans) : Sp := fun vs H Q _ => ∃ (d : Addr) (s : Score), vs = [.ref d] ∧ DeskAt cD cS cV cB cE H d (some s) ∧ ∀ H' p, Same H H' → H' p = some (.lst (intV (Sx62Neutral.told (f s)))) → H p = none → Q (.ref p) H'
/-! ### answer_form -/
def formA (x : Score) : Ans := ⟨num x.form.length, [x.form]⟩
theorem sc_aform : FnScope ["self", "form"] ["self"] (defScope (inClass (top 98) 3)) := ⟨rfl, rfl, rfl, by decide +kernel, rfl, by decide +kernel, by decide +kernel⟩
theorem bi_aform (D : MethAt K C "answer_form" "Desk.answer_form" (inClass (top 98) 3)) : Binds K D.fd ["self"] [] := D.F.binds fun _ _ _ _ _ _ us hl => match us, hl with | [_], _ => rfl
theorem ok_aform (T : Tx w K mg) : FnOk P w K mg base CX0 2 T.m_Desk_answer_form.f T.m_Desk_answer_form.fd ["self"] (spTell T.c_Desk T.c_Score T.c_Voice T.c_Bar T.c_Event formA) := by
  have GF : FnOk P w K mg base CX0 1 _ _ _ (spForm T.c_Score T.c_Voice T.c_Bar T.c_Event) := ok_form T
  refine T.m_Desk_answer_form.F.ok sc_aform (fun vs H Q E h => ?_) (fun cdv A outer s H vs Q E hr h => ?_)
  · obtain ⟨d, s, rfl, _⟩ := h
    rfl
  · obtain ⟨d, s, rfl, ⟨dx, x, hd, p, rfl, hS, good⟩, kS⟩ := h
    have hr1 : Room 1 _ := hr.mono (by decide)
    have hfl := form_len good.ok good.names good.size
    refine ⟨_, pss_cons (ps_set (i := 1) sc_aform.nd rfl (Or.inl rfl) (pe_call GF hr1 rfl T.f_one_form.g T.f_one_form.F.kp (bi_form _) .nil pass0 (pa_cons (pe_fld (pv 0) rfl) pa_nil)))
      (pss_one (ps_ret (pe_op op_cat (pe_lst (pa_cons (pe_callB call_len_seq (by rfl) T.b_len PySem.boot_len (pa_cons (pv 1) pa_nil)) (pa_cons (pe_callB call_len_seq (by rfl) T.b_len PySem.boot_len (pa_cons (pv 1) pa_nil)) pa_nil))) (pv 1)))), ?_⟩
    refine ⟨_, rfl, d, _, dx, _, _, rfl, hd, T.cl_Desk, T.n_Desk_score, dF_score, p, s, rfl, hS, by omega, fun H1 q s1 h1 nq => ?_⟩
    have e1 : (Sco.nats s.form).length = s.form.length := List.length_map ..
    refine ⟨_, rfl, q, _, rfl, .inl (SqL.of h1), _, rfl, q, _, rfl, .inl (SqL.of h1), Nat.le_of_lt (size_lt (show 2 ≤ 4000 by decide)), fun r nr => ?_⟩
    have s2 := same_new nr (o := .lst [.int ((Sco.nats s.form).length : Nat), .int ((Sco.nats s.form).length : Nat)])
    refine ⟨_, rfl, _, _, _, _, rfl, rfl, upd_same, s2 _ _ h1, size_leM (by rw [e1]; show 2 + _ ≤ _; omega), fun t nt => ?_⟩
    refine kS _ t ((s1.trans s2).trans (same_new nt)) ?_ (none_back (s1.trans s2) nt)
    rw [upd_same, e1]
    unfold Sx62Neutral.told formA
    rw [List.flatMap_cons, List.flatMap_nil, List.append_nil]
    unfold intV Sco.nats
    rw [List.map_cons, List.map_cons, List.map_map]
    rfl
/-! ### answer_counts -/
def countsA (x : Score) : Ans := ⟨num x.voices.length, x.voices.map fun v => [v.bars.length, v.notes.length, (v.notes.filter fun n => n.ps != []).length]⟩
def countsN (v : Voice) : List Nat := [v.bars.length, (voiceEvs v).length, (struckE (voiceEvs v)).length]
theorem counts_eq {s : Score} (h : Good s) : s.voices.map countsN = (countsA s).l := by
  unfold countsA
  refine List.map_congr_left fun v hv => ?_
  unfold countsN
  have e := voice_notes (h.ok.voices v hv)
  rw [e, List.length_map, List.filter_map, List.length_map]
  unfold struckE
  have : ((fun n : Timed => n.ps != []) ∘ evTimed) = fun e : Ev => !e.ps.isEmpty := by
    funext e
    show (e.ps != []) = !e.ps.isEmpty
    cases e.ps <;> rfl
  rw [this]
theorem sc_acounts : FnScope ["self", "voice"] ["self"] (defScope (inClass (top 98) 4)) := ⟨rfl, rfl, rfl, by decide +kernel, rfl, by decide +kernel, by decide +kernel⟩
theorem bi_acounts (D : MethAt K C "answer_counts" "Desk.answer_counts" (inClass (top 98) 4)) : Binds K D.fd ["self"] [] := D.F.binds fun _ _ _ _ _ _ us hl => match us, hl with | [_], _ => rfl
theorem ok_acounts (T : Tx w K mg) : FnOk P w K mg base CX0 2 T.m_Desk_answer_counts.f T.m_Desk_answer_counts.fd ["self"] (spTell T.c_Desk T.c_Score T.c_Voice T.c_Bar T.c_Event countsA) := by
  have GC : FnOk P w K mg base CX0 1 _ _ _ (spCounts T.c_Voice T.c_Bar T.c_Event) := ok_counts T
  have GR : FnOk P w K mg base CX0 1 _ _ _ spRows := ok_rows T
  refine T.m_Desk_answer_counts.F.ok sc_acounts (fun vs H Q E h => ?_) (fun cdv A outer s H vs Q E hr h => ?_)
  · obtain ⟨d, s, rfl, _⟩ := h
    rfl
  · obtain ⟨d, s, rfl, ⟨dx, x, hd, p, rfl, ⟨dxs, vl, hs, as, hv, hvs⟩, good⟩, kS⟩ := h
    have hr1 : Room 1 _ := hr.mono (by decide)
    obtain ⟨⟨z1, z2⟩, z3⟩ := small_of good.size
    refine ⟨_, pss_one (ps_ret (pe_call GR hr1 rfl T.f_with_rows.g T.f_with_rows.F.kp (bi_rows _) .nil pass0 (pa_cons
        (pe_lc (own := [("voice", 1)]) (g := gName 1) (tt := tYes) rfl sc_acounts.nd (pi_list (pe_fld (pe_fld (pv 0) rfl) rfl)) (blkOk_by (own := [("voice", 1)]) (N := ["self", "voice"]) (sc := defScope (inClass (top 98) 4)) (by decide +kernel))
          (fun _ _ _ _ _ => pg_name (i := 1) sc_acounts.nd rfl (Or.inl rfl)) (fun _ _ _ _ _ => pts_nil) (fun _ _ _ _ _ => pe_call GC hr1 rfl T.f_voice_counts.g T.f_voice_counts.F.kp (bi_counts _) .nil pass0 (pa_cons (pv 1) pa_nil))) pa_nil))), ?_⟩
    refine ⟨_, rfl, d, _, dx, _, _, rfl, hd, T.cl_Desk, T.n_Desk_score, dF_score, p, _, dxs, _, _, rfl, hs, T.cl_Score, T.n_Score_voices, sF_voices, vl, rfl, ⟨_, SqL.of hv⟩, fun D nD => ?_⟩
    refine lc_list (K := K) (a := vl) (xs := as.map V.ref) (fun i H' => Same H H' ∧ ∃ rs, H' D = some (.lst (rs.map V.ref)) ∧ AllAt (fun a r => a ≠ D ∧ NumAt H' a r) rs ((s.voices.take i).map countsN)) ⟨same_new nD, [], upd_same, .nil⟩ ?_ ?_ ?_
    · rintro i H' hi ⟨s1, _⟩
      exact SqL.of (s1 _ _ hv)
    · rintro i y H1 hi ⟨s1, rs, h1, hrs⟩
      obtain ⟨b, hb1, rfl⟩ := refs_get hi
      obtain ⟨v, e1, e2⟩ := hvs.got hb1
      have htk : s.voices.take (i + 1) = s.voices.take i ++ [v] := by rw [List.take_succ, e1]; rfl
      refine ⟨rfl, ?_⟩
      dsimp only [tYes]
      rw [if_pos rfl]
      refine ⟨_, rfl, b, v, rfl, VoiceAt.same s1 _ _ e2, (z2 v (List.mem_of_getElem? e1)).2.1, fun H2 q s2 h2 nq => ?_⟩
      have qD : q ≠ D := fun z => by rw [z, h1] at nq; cases nq
      refine ⟨_, s2 _ _ h1, ?_, ?_, rs ++ [q], ?_, ?_⟩
      · rw [List.length_map, hrs.length, List.length_map, List.length_take]
        exact size_lt (by omega)
      · exact fun z o hz => by rw [upd_ne (ne_of_none hz nD)]; exact s2 _ _ (s1 _ _ hz)
      · rw [upd_same, List.map_append]; rfl
      · rw [htk, List.map_append]
        refine AllAt.snoc (hrs.imp fun z o hz => ⟨hz.1, ?_⟩) ⟨qD, ?_⟩
        · show upd H2 D _ q = _
          rw [upd_ne qD]; exact h2
        · show upd H2 D _ z = _
          rw [upd_ne hz.1]; exact s2 _ _ hz.2
    · rintro H1 ⟨s1, rs, h1, hrs⟩
      rw [List.length_map, hvs.length, List.take_length] at hrs
      refine ⟨D, s.voices.map countsN, rfl, ⟨rs, h1, hrs.imp fun z o hz => hz.2⟩, ?_, fun H2 q s2 h2 nq => ?_⟩
      · unfold rowsN
        rw [List.length_cons, List.length_flatMap, List.map_map]
        have : ∀ l : List Voice, (l.map ((fun r : List Nat => (r.length :: r).length) ∘ countsN)).sum = l.length * 4 := by
          intro l
          induction l with
          | nil => rfl
          | cons a l ih =>
            rw [List.map_cons, List.sum_cons, ih, List.length_cons]
            show 4 + _ = _
            omega
        rw [this]
        omega
      · refine kS _ q (s1.trans s2) ?_ (none_back s1 nq)
        rw [h2, ← told_rows s.voices.length (s.voices.map countsN) (List.length_map ..).symm, counts_eq good]
        rfl
/-! ### answer_sounds -/
def soundsA (v : Nat) (x : Score) : Ans := match x.voices[v]? with
  | none => Sx62.ok (-2)
  | some y => ⟨num y.sounds.length, y.sounds.map soundOut⟩
def spASounds (cD cS cV cB cE : Addr) : Sp := fun vs H Q _ => ∃ (d : Addr) (n : Nat) (s : Score), vs = [.ref d, .int n] ∧ DeskAt cD cS cV cB cE H d (some s) ∧ ∀ H' p, Same H H' → H' p = some (.lst (intV (Sx62Neutral.told (soundsA n s)))) → H p = none → Q (.ref p) H'
def sndN (x : Pitch × Nat × Nat) : List Nat := [x.1.letter, x.1.sign, x.1.octave, (fr x.2.1).num, (fr x.2.1).den, (fr x.2.2).num, (fr x.2.2).den]
theorem sc_asounds : FnScope ["self", "voice"] ["self", "voice"] (defScope (inClass (top 98) 5)) := ⟨rfl, rfl, rfl, by decide +kernel, rfl, by decide +kernel, by decide +kernel⟩
theorem bi_asounds (D : MethAt K C "answer_sounds" "Desk.answer_sounds" (inClass (top 98) 5)) : Binds K D.fd ["self", "voice"] [] := D.F.binds fun _ _ _ _ _ _ us hl => match us, hl with | [_, _], _ => rfl
theorem ok_asounds (T : Tx w K mg) : FnOk P w K mg base CX0 5 T.m_Desk_answer_sounds.f T.m_Desk_answer_sounds.fd ["self", "voice"] (spASounds T.c_Desk T.c_Score T.c_Voice T.c_Bar T.c_Event) := by
  have GS : FnOk P w K mg base CX0 4 _ _ _ (spSounds T.c_Voice T.c_Bar T.c_Event) := ok_sounds T
  have GR : FnOk P w K mg base CX0 1 _ _ _ spRows := ok_rows T
  refine T.m_Desk_answer_sounds.F.ok sc_asounds (fun vs H Q E h => ?_) (fun cdv A outer s H vs Q E hr h => ?_)
  · obtain ⟨d, n, s, rfl, _⟩ := h
    rfl
  · obtain ⟨d, n, s, rfl, ⟨dx, x, hd, p, rfl, ⟨dxs, vl, hs, as, hv, hvs⟩, good⟩, kS⟩ := h
    have hr1 : Room 1 _ := hr.mono (by decide)
    have hr4 : Room 4 _ := hr.mono (by decide)
    obtain ⟨⟨z1, z2⟩, z3⟩ := small_of good.size
    refine ⟨_, pss_cons (ps_if (pt_cmpR op_ge (pv 1) (pe_callB call_len_seq (by rfl) T.b_len PySem.boot_len (pa_cons (pe_fld (pe_fld (pv 0) rfl) rfl) pa_nil)) (nomark _)) (pss_one (ps_ret (pe_lst (pa_cons (pe_ki T.k_NO_VOICE) pa_nil)))) pss_nil)
      (pss_one (ps_ret (pe_call GR hr1 rfl T.f_with_rows.g T.f_with_rows.F.kp (bi_rows _) .nil pass0 (pa_cons (pe_call GS hr4 rfl T.f_voice_sounds.g T.f_voice_sounds.F.kp (bi_sounds _) .nil pass0 (pa_cons (pe_ix ix_list (pe_fld (pe_fld (pv 0) rfl) rfl) (pv 1) (fun _ _ => rfl)) pa_nil)) pa_nil)))), ?_⟩
    refine ⟨_, rfl, _, rfl, d, _, dx, _, _, rfl, hd, T.cl_Desk, T.n_Desk_score, dF_score, p, _, dxs, _, _, rfl, hs, T.cl_Score, T.n_Score_voices, sF_voices, vl, _, rfl, .inl (SqL.of hv), _, _, rfl, rfl, _, rfl, ?_⟩
    rw [List.length_map, hvs.length]
    by_cases hlt : n < s.voices.length
    · have hgv : s.voices[n]? = some s.voices[n] := List.getElem?_eq_getElem hlt
      have hmem : s.voices[n] ∈ s.voices := List.getElem_mem hlt
      obtain ⟨va, g1, g2⟩ := hvs.get hgv
      have hso : soundsA n s = ⟨num (sndE 0 [] (voiceEvs s.voices[n])).length, (sndE 0 [] (voiceEvs s.voices[n])).map sndN⟩ := by
        unfold soundsA
        rw [hgv]
        dsimp only
        rw [voice_sounds good.ok good.sound hmem, List.length_map, List.map_map]
        rfl
      rw [hso, told_rows _ _ (List.length_map ..).symm] at kS
      refine if_f (decide_eq_false (by omega)) ⟨_, rfl, d, _, dx, _, _, rfl, hd, T.cl_Desk, T.n_Desk_score, dF_score, p, _, dxs, _, _, rfl, hs, T.cl_Score, T.n_Score_voices, sF_voices, _, rfl, vl, _, _, _, rfl, rfl, SqL.of hv, atI_nat (by rw [List.getElem?_map, g1]; rfl), va, s.voices[n], rfl, g2, (z2 _ hmem).2.1, z3 _ hmem, Nat.lt_trans (voice_tot good.ok good.sound hmem good.size) (by decide), fun H1 q s1 hrows => ?_⟩
      obtain ⟨rs, r1, r2⟩ := hrows
      refine ⟨q, (sndE 0 [] (voiceEvs s.voices[n])).map sndN, rfl, ⟨rs, r1, rows_map r2⟩, ?_, fun H2 t s2 h2 nt => ?_⟩
      · unfold rowsN
        rw [List.length_cons, List.length_flatMap, List.map_map]
        have h3 := z3 _ hmem
        have : ∀ l : List (Pitch × Nat × Nat), (l.map ((fun r : List Nat => (r.length :: r).length) ∘ sndN)).sum = l.length * 8 := by
          intro l
          induction l with
          | nil => rfl
          | cons a l ih =>
            rw [List.map_cons, List.sum_cons, ih, List.length_cons]
            show 8 + _ = _
            omega
        rw [this]
        omega
      · exact kS _ t (s1.trans s2) h2 (none_back s1 nt)
    · have hgv : s.voices[n]? = none := List.getElem?_eq_none (by omega)
      refine if_t (decide_eq_true (by omega)) ⟨Nat.le_of_lt (size_lt (show 1 ≤ 4000 by decide)), fun q nq => ?_⟩
      refine kS _ q (same_new nq) ?_ nq
      rw [upd_same]
      unfold soundsA
      rw [hgv]; rfl
end
end Sco
namespace Sco
open PySem PySem.Spec PyProof.Rows L2 Sx62
theorem ScoreAt.strange {cS cV cB cE : Addr} {H H' : Hp} {x : Addr} (hx : Strange H x) (hl : ∀ xs, H x ≠ some (.lst xs)) (b : But [x] H H') (a : Addr) (s : Score) (h : ScoreAt cS cV cB cE H a s) : ScoreAt cS cV cB cE H' a s := by
  obtain ⟨dx, vs, h1, as, h2, h3⟩ := h
  refine ⟨dx, vs, b _ _ h1 ?_, as, b _ _ h2 ?_, h3.imp (VoiceAt.strange hx b)⟩
  · rw [List.mem_singleton]; rintro rfl
    exact hx.ins _ _ _ h1 rfl
  · rw [List.mem_singleton]; rintro rfl
    exact hl _ h2
theorem fF_place {a b : V} : (fFlds a b).lookup ("place" : Str) = some b := lk_here
theorem fF_kind {a b : V} : (fFlds a b).lookup ("kind" : Str) = some a := (lk_past (by decide +kernel)).trans lk_here
theorem desk_strange {H : Hp} {d C dx : Addr} {x : V} (h : H d = some (.ins C dx (dF x))) : Strange H d := by
  refine ⟨fun C' dx' fs q => ?_, fun xs q => ?_, fun xs q => ?_⟩
  · rw [h] at q
    injection q with q
    injection q with _ _ q
    rw [← q]; exact fun z => by cases z
  · rw [h] at q; cases q
  · rw [h] at q; cases q
theorem DeskAt.same {cD cS cV cB cE : Addr} {H H' : Hp} {d : Addr} {st : Option Score} (s : Same H H') (h : DeskAt cD cS cV cB cE H d st) : DeskAt cD cS cV cB cE H' d st := by
  obtain ⟨dx, x, h1, h2⟩ := h
  refine ⟨dx, x, s _ _ h1, ?_⟩
  cases st with
  | none => exact h2
  | some sc =>
    obtain ⟨p, e, hS, g⟩ := h2
    exact ⟨p, e, ScoreAt.same s _ _ hS, g⟩
section
variable {P : Program} {w : World} {K : PySem.W.Frag} {mg : Str → Option Value} {base : Heap}
/-! ### answer_read -/
def tSuiteR (C : Addr) : Addr → Value → Option Addr → TS := fun a cls d => tRet (tLst (tCons (tXf a cls d C "kind" (tVar 2)) (tCons (tC (.int 1)) (tCons (tXf a cls d C "place" (tVar 2)) tNil))))
def spARead (cD cS cV cB cE : Addr) : Sp := fun vs H Q _ => ∃ (d a : Addr) (t : Bytes) (st : Option Score), vs = [.ref d, .ref a] ∧ DeskAt cD cS cV cB cE H d st ∧ H a = some (.lst (Sco.nats t)) ∧
  ∀ H' p, But [d] H H' → DeskAt cD cS cV cB cE H' d (Sx62.step st (.read t)).1 → H' p = some (.lst (intV (Sx62Neutral.told (Sx62.step st (.read t)).2))) → H p = none → Q (.ref p) H'
theorem sc_aread : FnScope ["self", "text", "fault"] ["self", "text"] (defScope (inClass (top 98) 2)) := ⟨rfl, rfl, rfl, by decide +kernel, rfl, by decide +kernel, by decide +kernel⟩
theorem bi_aread (D : MethAt K C "answer_read" "Desk.answer_read" (inClass (top 98) 2)) : Binds K D.fd ["self", "text"] [] := D.F.binds fun _ _ _ _ _ _ us hl => match us, hl with | [_, _], _ => rfl
theorem ok_aread (T : Tx w K mg) : FnOk P w K mg base CX0 11 T.m_Desk_answer_read.f T.m_Desk_answer_read.fd ["self", "text"] (spARead T.c_Desk T.c_Score T.c_Voice T.c_Bar T.c_Event) := by
  have GO : FnOk P w K mg base (L2.CX P w) 10 _ _ _ (spOf T.c_Score T.c_Voice T.c_Bar T.c_Event T.c_Fault) := ok_of T
  refine T.m_Desk_answer_read.F.ok sc_aread (fun vs H Q E h => ?_) (fun cdv A outer s H vs Q E hr h => ?_)
  · obtain ⟨d, a, t, st, rfl, _⟩ := h
    rfl
  · obtain ⟨d, a, t, st, rfl, hD, hA, kS⟩ := h
    have hr10 : Room 10 _ := hr.mono (by decide)
    refine ⟨_, pss_cons (ps_if (pt_cmpR op_gt (pe_callB call_len_seq (by rfl) T.b_len PySem.boot_len (pa_cons (pv 1) pa_nil)) (pe_ki T.k_MOST_BYTES) (nomark _)) (pss_one (ps_ret (pe_lst (pa_cons (pe_ki T.k_TOO_LONG) pa_nil)))) pss_nil)
      (pss_cons (ps_try_as (i := 2) (tb := fun W => sFld K (tVar 0) (tCallS (spOf T.c_Score T.c_Voice T.c_Bar T.c_Event T.c_Fault) (WE W) (tCons (tVar 1) tNil)) "score") (ts := tSuiteR T.c_Fault) (Wout := fun _ _ _ _ => False) rfl rfl sc_aread.nd rfl rfl ⟨rfl, by decide, Or.inl T.x_Fault.gC⟩ takes0
          (fun W pn xe tk _ => pss_one (ps_fld (pv 0) (by exact (pe_callS GO hr10 rfl T.f_score_of.g T.f_score_of.F.kp (bi_of _) (fun σ => passAt tk σ) (by exact (pa_cons (pv 1) pa_nil)))) rfl))
          (fun a oe cls d pn hz hf => pss_one (ps_ret (by exact (pe_lst (pa_cons (pe_xf (xf_of T.x_Fault) T.x_Fault.noK hz hf (pv 2)) (pa_cons pe_int (pa_cons (pe_xf (xf_of T.x_Fault) T.x_Fault.noP hz hf (pv 2)) pa_nil))))))))
      (pss_one (ps_ret (pe_lst (pa_cons pe_int pa_nil))))), ?_⟩
    obtain ⟨dx, x, hd, hx⟩ := hD
    have hD : DeskAt T.c_Desk T.c_Score T.c_Voice T.c_Bar T.c_Event H d st := ⟨dx, x, hd, hx⟩
    have hl : (Sco.nats t).length = t.length := List.length_map ..
    refine ⟨_, rfl, a, _, rfl, .inl (SqL.of hA), _, _, rfl, rfl, _, rfl, ?_⟩
    rw [hl]
    by_cases hlong : 1500 < t.length
    · have hst : Sx62.step st (.read t) = (st, Sx62.ok (-8)) := by
        show (if LONG < t.length then _ else _) = _
        rw [if_pos (show LONG < t.length from hlong)]
      rw [hst] at kS
      refine if_t (decide_eq_true (by omega)) ⟨Nat.le_of_lt (size_lt (show 1 ≤ 4000 by decide)), fun q nq => ?_⟩
      exact kS _ q (But.of (same_new nq)) (hD.same (same_new nq)) upd_same nq
    · refine if_f (decide_eq_false (by omega)) ?_
      refine ⟨_, rfl, a, t, rfl, hA, by omega, fun f hf H1 dd b1 e1 => ?_, fun sc hsc H1 p s1 hS => ?_⟩
      · have hst : Sx62.step st (.read t) = (st, ⟨num f.kind, [[f.place]]⟩) := by
          show (if LONG < t.length then _ else _) = _
          rw [if_neg (show ¬ LONG < t.length from hlong), hf]
        rw [hst] at kS
        refine ⟨true, T.x_Fault.te, fun _ a0 na0 => ?_, fun q => Bool.noConfusion q⟩
        refine ⟨_, rfl, rfl, rfl, dd, _, _, rfl, e1, fF_kind, _, rfl, rfl, rfl, dd, _, _, rfl, e1, fF_place, Nat.le_of_lt (size_lt (show 3 ≤ 4000 by decide)), fun q nq => ?_⟩
        have s2 := b1.nil.trans (same_new nq (o := .lst [.int f.kind, .int 1, .int f.place]))
        exact kS _ q (But.of s2) (hD.same s2) upd_same (none_back b1.nil nq)
      · have hst : Sx62.step st (.read t) = (some sc, Sx62.ok 0) := by
          show (if LONG < t.length then _ else _) = _
          rw [if_neg (show ¬ LONG < t.length from hlong), hsc]
        rw [hst] at kS
        have good := read_good (by omega) hsc
        have hd1 := s1 _ _ hd
        refine ⟨_, rfl, d, _, dx, _, rfl, hd1, T.cl_Desk, T.n_Desk_score, (by show 1 < 1000; decide), ?_⟩
        refine ⟨Nat.le_of_lt (size_lt (show 1 ≤ 4000 by decide)), fun q nq => ?_⟩
        have hput : putF "score" (.ref p) (dF x) = dF (.ref p) := put_here
        rw [hput] at nq ⊢
        have qd : q ≠ d := fun z => by rw [z, upd_same] at nq; cases nq
        have nq1 : H1 q = none := by rw [upd_ne qd] at nq; exact nq
        have hb : But [d] H1 (upd H1 d (.ins T.c_Desk dx (dF (.ref p)))) := But.upd (by simp)
        have hS2 := ScoreAt.strange (desk_strange hd1) (fun xs z => by rw [hd1] at z; cases z) hb _ _ hS
        have s3 := same_new nq (o := .lst [.int 0])
        refine kS _ q (((But.of s1).trans hb).trans (But.of s3)) ⟨dx, .ref p, s3 _ _ upd_same, p, rfl, ScoreAt.same s3 _ _ hS2, good⟩ upd_same (none_back s1 nq1)
end
end Sco
namespace Sco
open PySem PySem.Spec PyProof.Rows L2 Sx62
/-- how long bars are together -/
def bt (l : List Bar) : Nat := tot (l.map barLen)
theorem bt_cons (b : Bar) (l : List Bar) : bt (b :: l) = barLen b + bt l := tot_cons _ _
theorem bt_snoc (l : List Bar) (b : Bar) : bt (l ++ [b]) = bt l + barLen b := by
  unfold bt
  rw [List.map_append, tot_app]
  show _ + tot [barLen b] = _
  rw [tot_cons]; rfl
theorem bt_app (l r : List Bar) : bt (l ++ r) = bt l + bt r := by
  unfold bt
  rw [List.map_append, tot_app]
theorem bt_evs : ∀ l : List Bar, bt l = tot (lens (l.flatMap barEvs))
  | [] => rfl
  | b :: l => by
    rw [bt_cons, List.flatMap_cons, lens_app, tot_app, bt_evs l]; rfl
theorem starts_snoc : ∀ (l : List Bar) (t : Nat) (b : Bar), startsE t (l ++ [b]) = startsE t l ++ [(t + bt l, barLen b)]
  | [], t, b => rfl
  | x :: l, t, b => by
    show (t, barLen x) :: startsE (t + barLen x) (l ++ [b]) = (t, barLen x) :: (startsE (t + barLen x) l ++ [(t + bt (x :: l), barLen b)])
    rw [starts_snoc l, bt_cons, Nat.add_assoc]
theorem starts_len : ∀ (l : List Bar) (t : Nat), (startsE t l).length = l.length
  | [], _ => rfl
  | x :: l, t => congrArg (· + 1) (starts_len l _)
def barN (x : Nat × Nat) : List Nat := [(fr x.1).num, (fr x.1).den, (fr x.2).num, (fr x.2).den]
/-- the first voice's bars, where they lie -/
theorem first_bars {cS cV cB cE : Addr} {H : Hp} {a : Addr} {s : Score} (h : ScoreAt cS cV cB cE H a s) (hne : s.voices ≠ []) :
    ∃ (dx vl va dxv bs : Addr) (as : List Addr) (m f k n e pl : V), H a = some (.ins cS dx (sF m f k (.ref vl))) ∧ H vl = some (.lst ((va :: as).map V.ref)) ∧ H va = some (.ins cV dxv (vF n (.ref bs) e pl)) ∧ ListAt (BarAt cB) H bs (firstBars s) := by
  obtain ⟨dx, vl, hs, as, hv, hvs⟩ := h
  unfold firstBars
  cases e : s.voices with
  | nil => exact absurd e hne
  | cons v l =>
    rw [e] at hvs
    cases hvs with
    | cons r t =>
      obtain ⟨dxv, bs, es, g2, g3, g4⟩ := r
      exact ⟨dx, vl, _, dxv, bs, _, _, _, _, _, _, _, hs, hv, g2, g3⟩
theorem first_small {s : Score} (g : Good s) : (firstBars s).length ≤ 3000 ∧ bt (firstBars s) < 2 ^ 62 := by
  obtain ⟨⟨z1, z2⟩, z3⟩ := small_of g.size
  have hne := g.ok.some
  unfold firstBars
  cases e : s.voices with
  | nil => exact absurd e hne
  | cons v l =>
    have hm : v ∈ s.voices := by rw [e]; exact List.mem_cons_self
    refine ⟨(z2 v hm).1, ?_⟩
    show bt v.bars < _
    rw [bt_evs]
    exact voice_tot g.ok g.sound hm g.size
section
variable {P : Program} {w : World} {K : PySem.W.Frag} {mg : Str → Option Value} {base : Heap}
/-! ### score_bars -/
def spSBars (cS cV : Addr) : Sp := fun vs H Q _ => ∃ (a dx vl va dxv bs : Addr) (as : List Addr) (m f k n e pl : V), vs = [.ref a] ∧ H a = some (.ins cS dx (sF m f k (.ref vl))) ∧ H vl = some (.lst ((va :: as).map V.ref)) ∧ H va = some (.ins cV dxv (vF n (.ref bs) e pl)) ∧ Q (.ref bs) H
theorem sc_sbars : FnScope ["score"] ["score"] (defScope (top 68)) := ⟨rfl, rfl, rfl, by decide +kernel, rfl, by decide +kernel, by decide +kernel⟩
theorem bi_sbars (D : DefAt K mg "score_bars" (top 68)) : Binds K D.fd ["score"] [] := D.F.binds fun _ _ _ _ _ _ us hl => match us, hl with | [_], _ => rfl
theorem ok_sbars (T : Tx w K mg) : FnOk P w K mg base CX0 1 T.f_score_bars.f T.f_score_bars.fd ["score"] (spSBars T.c_Score T.c_Voice) := by
  refine T.f_score_bars.F.ok sc_sbars (fun vs H Q E h => ?_) (fun cdv A outer s H vs Q E hr h => ?_)
  · obtain ⟨a, dx, vl, va, dxv, bs, as, m, f, k, n, e, pl, rfl, _⟩ := h
    rfl
  · obtain ⟨a, dx, vl, va, dxv, bs, as, m, f, k, n, e, pl, rfl, h1, h2, h3, q⟩ := h
    refine ⟨_, pss_one (ps_ret (pe_fld (pe_ix ix_list (pe_fld (pv 0) rfl) pe_int (fun _ _ => rfl)) rfl)), ?_⟩
    exact ⟨_, rfl, a, _, dx, _, _, rfl, h1, T.cl_Score, T.n_Score_voices, sF_voices, vl, _, 0, _, rfl, rfl, SqL.of h2, atI_nat (j := 0) rfl, va, _, dxv, _, _, rfl, h3, T.cl_Voice, T.n_Voice_bars, vF_bars, q⟩
/-! ### bar_times -/
def spBTimes (cS cV cB cE : Addr) : Sp := fun vs H Q _ => ∃ (a : Addr) (s : Score), vs = [.ref a] ∧ ScoreAt cS cV cB cE H a s ∧ Good s ∧ ∀ H' p, Same H H' → ListAt NumAt H' p ((startsE 0 (firstBars s)).map barN) → Q (.ref p) H'
theorem sc_btimes : FnScope ["score", "rows", "time", "bar"] ["score"] (defScope (top 69)) := ⟨rfl, rfl, rfl, by decide +kernel, rfl, by decide +kernel, by decide +kernel⟩
theorem bi_btimes (D : DefAt K mg "bar_times" (top 69)) : Binds K D.fd ["score"] [] := D.F.binds fun _ _ _ _ _ _ us hl => match us, hl with | [_], _ => rfl
theorem ok_btimes (T : Tx w K mg) : FnOk P w K mg base CX0 4 T.f_bar_times.f T.f_bar_times.fd ["score"] (spBTimes T.c_Score T.c_Voice T.c_Bar T.c_Event) := by
  have GB : FnOk P w K mg base CX0 1 _ _ _ (spSBars T.c_Score T.c_Voice) := ok_sbars T
  have GF : FnOk P w K mg base CX0 3 _ _ _ spFrac := ok_frac T
  refine T.f_bar_times.F.ok sc_btimes (fun vs H Q E h => ?_) (fun cdv A outer s H vs Q E hr h => ?_)
  · obtain ⟨a, s, rfl, _⟩ := h
    rfl
  · obtain ⟨a, s, rfl, hS, good, kS⟩ := h
    have hr1 : Room 1 _ := hr.mono (by decide)
    have hr3 : Room 3 _ := hr.mono (by decide)
    refine ⟨_, pss_cons (ps_set (i := 1) sc_btimes.nd rfl (Or.inl rfl) (pe_lst pa_nil))
      (pss_cons (ps_set (i := 2) sc_btimes.nd rfl (Or.inl rfl) pe_int)
      (pss_cons (ps_for PassesOwn.never rfl (pi_list (pe_call GB hr1 rfl T.f_score_bars.g T.f_score_bars.F.kp (bi_sbars _) .nil pass0 (pa_cons (pv 0) pa_nil))) (pg_name (i := 3) sc_btimes.nd rfl (Or.inl rfl))
        (pss_cons (ps_expr (pe_bm PySem.F.plainAttrs_list PySem.F.slot_list_append PySem.F.type_list_append mt_append (pv 1) (pa_cons
            (pe_op op_cat (pe_call GF hr3 rfl T.f_fraction.g T.f_fraction.F.kp (bi_frac _) .nil pass0 (pa_cons (pv 2) pa_nil))
              (pe_call GF hr3 rfl T.f_fraction.g T.f_fraction.F.kp (bi_frac _) .nil pass0 (pa_cons (pe_fld (pv 3) rfl) pa_nil))) pa_nil)))
        (pss_one (ps_aug (i := 2) sc_btimes.nd rfl (Or.inl rfl) (pe_fld (pv 3) rfl) iop_add))))
      (pss_one (ps_ret (pv 1))))), ?_⟩
    obtain ⟨hlen, hbt⟩ := first_small good
    obtain ⟨dx, vl, va, dxv, bs, as, m, f, k, n, e, pl, g1, g2, g3, bas, hb, hbs⟩ := first_bars hS good.ok.some
    generalize firstBars s = bars at hlen hbt hbs kS
    refine ⟨Nat.zero_le _, fun p np => ?_⟩
    have s0 : Same H (upd H p (.lst [])) := same_new np
    have h0p : upd H p (.lst []) p = some (.lst []) := upd_same
    generalize upd H p (.lst []) = H0 at s0 h0p ⊢
    refine ⟨_, rfl, a, dx, vl, va, dxv, bs, as, m, f, k, n, e, pl, rfl, s0 _ _ g1, s0 _ _ g2, s0 _ _ g3, bs, rfl, ⟨_, SqL.of (s0 _ _ hb)⟩, for_list (K := K) (a := bs) (xs := bas.map V.ref) (fun i σ H' => ∃ x rs, σ = [some (.ref a), some (.ref p), some (.int (bt (bars.take i) : Nat)), x] ∧ Same H H' ∧ H' p = some (.lst (rs.map V.ref)) ∧ AllAt (fun z r => z ≠ p ∧ NumAt H' z r) rs ((startsE 0 (bars.take i)).map barN)) ⟨none, [], rfl, s0, h0p, .nil⟩ ?_ ?_ ?_⟩
    · rintro i σ H' hi ⟨x, rs, rfl, s1, _⟩
      exact SqL.of (s1 _ _ hb)
    · rintro i y σ H1 hi ⟨x, rs, rfl, s1, h1p, hrs⟩
      obtain ⟨b, hb1, rfl⟩ := refs_get hi
      obtain ⟨bar, e1, dxb, lw, e2, e3⟩ := hbs.got hb1
      have htk : bars.take (i + 1) = bars.take i ++ [bar] := by rw [List.take_succ, e1]; rfl
      have hsum : bt (bars.take i) + barLen bar ≤ bt bars := by
        have h9 := List.take_append_drop (i + 1) bars
        have h8 : bt bars = bt (bars.take (i + 1)) + bt (bars.drop (i + 1)) := by rw [← bt_app, h9]
        rw [htk, bt_snoc] at h8; omega
      have hts : (startsE 0 (bars.take (i + 1))).map barN = (startsE 0 (bars.take i)).map barN ++ [barN (bt (bars.take i), barLen bar)] := by
        rw [htk, starts_snoc, List.map_append, Nat.zero_add]; rfl
      have htt : bt (bars.take (i + 1)) = bt (bars.take i) + barLen bar := by rw [htk, bt_snoc]
      rw [hts, htt]
      generalize bt (bars.take i) = tm at hsum hrs ⊢
      refine ⟨_, rfl, .inl ⟨rfl, _, SqL.of h1p⟩, _, rfl, tm, rfl, by omega, fun f1 nf1 => ?_⟩
      have sA := same_new nf1 (o := .lst [.int ((fr tm).num : Nat), .int ((fr tm).den : Nat)])
      refine ⟨_, rfl, b, _, dxb, _, _, rfl, sA _ _ (s1 _ _ e2), T.cl_Bar, T.n_Bar_length, bF_length, barLen bar, rfl, by omega, fun f2 nf2 => ?_⟩
      have sB := same_new nf2 (o := .lst [.int ((fr (barLen bar)).num : Nat), .int ((fr (barLen bar)).den : Nat)])
      refine ⟨_, _, _, _, rfl, rfl, sB _ _ upd_same, upd_same, Nat.le_of_lt (size_lt (show 4 ≤ 4000 by decide)), fun c nc => ?_⟩
      have sC := (sA.trans sB).trans (same_new nc (o := .lst (natV (barN (tm, barLen bar)))))
      have cn : H1 c = none := none_back (sA.trans sB) nc
      have cp : c ≠ p := fun z => by rw [z, h1p] at cn; cases cn
      refine ⟨p, _, _, rfl, rfl, sC _ _ h1p, ?_, ?_⟩
      · rw [List.length_map, hrs.length, List.length_map, starts_len, List.length_take]
        exact size_lt (by omega)
      have hbe : ∀ o : HO, upd (upd (upd (upd H1 f1 (.lst [.int ((fr tm).num : Nat), .int ((fr tm).den : Nat)])) f2 (.lst [.int ((fr (barLen bar)).num : Nat), .int ((fr (barLen bar)).den : Nat)])) c (.lst (natV (barN (tm, barLen bar))))) p o b = some (.ins T.c_Bar dxb (bF (.bl bar.short) (.ref lw) (.int (barLen bar)) (.int bar.place))) := fun o => by
        rw [upd_ne (ne_of_none e2 np)]; exact sC _ _ (s1 _ _ e2)
      refine ⟨_, rfl, _, rfl, b, _, dxb, _, _, rfl, hbe _, T.cl_Bar, T.n_Bar_length, bF_length, _, _, rfl, rfl, ?_⟩
      refine ⟨some (.ref b), rs ++ [c], ?_, ?_, ?_, ?_⟩
      · rw [Int.natCast_add]; rfl
      · exact fun z o hz => by rw [upd_ne (ne_of_none hz np)]; exact sC _ _ (s1 _ _ hz)
      · rw [upd_same, List.map_append]; rfl
      · refine AllAt.snoc (hrs.imp fun z o hz => ⟨hz.1, ?_⟩) ⟨cp, ?_⟩
        · show upd _ p _ c = _
          rw [upd_ne cp]; exact upd_same
        · show upd _ p _ z = _
          rw [upd_ne hz.1]; exact sC _ _ hz.2
    · rintro σ H1 ⟨x, rs, rfl, s1, h1p, hrs⟩
      rw [List.length_map, hbs.length, List.take_length] at hrs
      exact ⟨_, rfl, kS _ p s1 ⟨rs, h1p, hrs.imp fun z o hz => hz.2⟩⟩
/-! ### bar_of_time -/
def spBOf (cS cV cB cE : Addr) : Sp := fun vs H Q _ => ∃ (a : Addr) (s : Score) (n d : Nat), vs = [.ref a, .int n, .int d] ∧ ScoreAt cS cV cB cE H a s ∧ Good s ∧ 0 < d ∧ d ≤ 1000000 ∧ n ≤ 1000000 ∧
  (whereE n d 0 (startsE 0 (firstBars s)) = none → ∀ H', Same H H' → Q .non H') ∧
  ∀ i t, whereE n d 0 (startsE 0 (firstBars s)) = some (i, t) → ∀ H' p q, Same H H' → H' p = some (.tup [.int (i : Nat), .ref q]) → H' q = some (.lst [.int ((lowest (n * WH - t * d) (d * WH)).num : Nat), .int ((lowest (n * WH - t * d) (d * WH)).den : Nat)]) → Q (.ref p) H'
theorem sc_bof : FnScope ["score", "upper", "lower", "left", "number", "bar", "length"] ["score", "upper", "lower"] (defScope (top 70)) := ⟨rfl, rfl, rfl, by decide +kernel, rfl, by decide +kernel, by decide +kernel⟩
theorem bi_bof (D : DefAt K mg "bar_of_time" (top 70)) : Binds K D.fd ["score", "upper", "lower"] [] := D.F.binds fun _ _ _ _ _ _ us hl => match us, hl with | [_, _, _], _ => rfl
theorem wh_bound {d : Nat} (h : d ≤ 1000000) : WH * d < 2 ^ 80 := by
  have : WH * d ≤ WH * 1000000 := Nat.mul_le_mul_left _ h
  exact Nat.lt_of_le_of_lt this (by decide)
theorem ok_bof (T : Tx w K mg) : FnOk P w K mg base CX0 3 T.f_bar_of_time.f T.f_bar_of_time.fd ["score", "upper", "lower"] (spBOf T.c_Score T.c_Voice T.c_Bar T.c_Event) := by
  have GB : FnOk P w K mg base CX0 1 _ _ _ (spSBars T.c_Score T.c_Voice) := ok_sbars T
  have GL : FnOk P w K mg base CX0 2 _ _ _ spLow := ok_low T
  refine T.f_bar_of_time.F.ok sc_bof (fun vs H Q E h => ?_) (fun cdv A outer s H vs Q E hr h => ?_)
  · obtain ⟨a, s, n, d, rfl, _⟩ := h
    rfl
  · obtain ⟨a, s, n, d, rfl, hS, good, hd0, hd1, hn1, kN, kS⟩ := h
    have hr1 : Room 1 _ := hr.mono (by decide)
    have hr2 : Room 2 _ := hr.mono (by decide)
    refine ⟨_, pss_cons (ps_set (i := 3) sc_bof.nd rfl (Or.inl rfl) (pe_op op_mul (pv 1) (pe_ki T.k_WHOLE_NOTE)))
      (pss_cons (ps_for PassesOwn.never rfl (pi_enum (by rfl) T.b_enumerate (pa_cons (pe_call GB hr1 rfl T.f_score_bars.g T.f_score_bars.F.kp (bi_sbars _) .nil pass0 (pa_cons (pv 0) pa_nil)) pa_nil)) (pg_tup rfl (pgs_cons (pg_name (i := 4) sc_bof.nd rfl (Or.inl rfl)) (pgs_cons (pg_name (i := 5) sc_bof.nd rfl (Or.inl rfl)) pgs_nil)))
        (pss_cons (ps_set (i := 6) sc_bof.nd rfl (Or.inl rfl) (pe_op op_mul (pe_fld (pv 5) rfl) (pv 2)))
        (pss_cons (ps_if (pt_cmpR op_lt (pv 3) (pv 6) (nomark _))
          (pss_one (ps_ret (pe_tup (pa_cons (pv 4) (pa_cons (pe_call GL hr2 rfl T.f_lowest_terms.g T.f_lowest_terms.F.kp (bi_low _) .nil pass0 (pa_cons (pv 3) (pa_cons (pe_op op_mul (pe_ki T.k_WHOLE_NOTE) (pv 2)) pa_nil))) pa_nil))))) pss_nil)
        (pss_one (ps_aug (i := 3) sc_bof.nd rfl (Or.inl rfl) (pv 6) iop_sub)))))
      (pss_one (ps_ret pe_non))), ?_⟩
    obtain ⟨dx, vl, va, dxv, bs, as, m, f, k, nm, e, pl, g1, g2, g3, bas, hb, hbs⟩ := first_bars hS good.ok.some
    generalize firstBars s = bars at hbs kS kN
    have hmd : ∀ x : Int, CMul x ((d : Nat) : Int) := fun x => .inr ⟨by omega, by omega⟩
    refine ⟨_, rfl, _, _, rfl, rfl, .inr ⟨by decide, by decide⟩, ?_⟩
    refine ⟨_, rfl, a, dx, vl, va, dxv, bs, as, m, f, k, nm, e, pl, rfl, g1, g2, g3, bs, _, rfl, SqL.of hb, for_it walk_enum (fun i σ H' => ∃ x y z, σ = [some (.ref a), some (.int n), some (.int d), some (.int (n * WH - bt (bars.take i) * d : Nat)), x, y, z] ∧ Same H H' ∧ bt (bars.take i) * d ≤ n * WH ∧ whereE n d 0 (startsE 0 bars) = whereE n d i (startsE (bt (bars.take i)) (bars.drop i))) ⟨none, none, none, ?_, Same.refl _, ?_, rfl⟩ (fun i σ' H' _ ⟨_, _, _, _, s1, _⟩ => SqL.of (s1 _ _ hb)) ?_ ?_⟩
    · show _ = [some (V.ref a), some (.int n), some (.int d), some (.int ((n * WH - 0 * d : Nat) : Int)), none, none, none]
      rw [Nat.zero_mul, Nat.sub_zero, Int.natCast_mul]; rfl
    · show 0 * d ≤ _
      omega
    · rintro i vv σ' H1 H2 hi ⟨x, y, z, rfl, s1, hle, hwe⟩ ⟨Tt, v1, v2, rfl, nT, rfl, q1, q2⟩
      have q1 : V.int (i : Nat) = v1 := Option.some.inj q1
      subst q1
      obtain ⟨b, hb1, rfl⟩ := refs_get q2
      obtain ⟨bar, e1, dxb, lw, e2, e3⟩ := hbs.got hb1
      have hb9 := List.getElem?_eq_some_iff.mp e1
      have hdr : bars.drop i = bar :: bars.drop (i + 1) := by rw [List.drop_eq_getElem_cons hb9.1, hb9.2]
      have htk : bars.take (i + 1) = bars.take i ++ [bar] := by rw [List.take_succ, e1]; rfl
      have htt : bt (bars.take (i + 1)) = bt (bars.take i) + barLen bar := by rw [htk, bt_snoc]
      rw [hdr] at hwe
      rw [htt]
      generalize bt (bars.take i) = tm at hle hwe ⊢
      have hwe : whereE n d 0 (startsE 0 bars) = if n * WH < (tm + barLen bar) * d then some (i, tm) else whereE n d (i + 1) (startsE (tm + barLen bar) (bars.drop (i + 1))) := hwe
      have hmul : (tm + barLen bar) * d = tm * d + barLen bar * d := Nat.add_mul ..
      have s2 : Same H (upd H1 Tt (.tup [.int (i : Nat), .ref b])) := s1.trans (same_new nT)
      generalize hH2 : upd H1 Tt (.tup [.int (i : Nat), .ref b]) = H2 at s2
      have hT2 : H2 Tt = some (.tup [.int (i : Nat), .ref b]) := by rw [← hH2]; exact upd_same
      refine ⟨Tt, _, rfl, SqT.of hT2, rfl, _, _, rfl, _, _, rfl, rfl, ?_⟩
      refine ⟨_, rfl, b, _, dxb, _, _, rfl, s2 _ _ e2, T.cl_Bar, T.n_Bar_length, bF_length, _, rfl, _, _, rfl, rfl, hmd _, ?_⟩
      refine ⟨_, rfl, _, rfl, _, _, rfl, rfl, _, rfl, ?_⟩
      have hcm : ((barLen bar : Nat) : Int) * ((d : Nat) : Int) = ((barLen bar * d : Nat) : Int) := (Int.natCast_mul ..).symm
      rw [hmul] at hwe ⊢
      rw [hcm]
      by_cases hlt : n * WH < tm * d + barLen bar * d
      · rw [if_pos hlt] at hwe
        refine if_t (decide_eq_true (by omega)) ?_
        refine ⟨_, rfl, _, rfl, _, rfl, _, _, rfl, rfl, hmd _, n * WH - tm * d, WH * d, ?_, Nat.mul_pos WH_pos hd0, wh_bound hd1, fun q nq => ⟨by show 2 ≤ sizeLine; decide, fun p np => ?_⟩⟩
        · rw [Int.natCast_mul]; rfl
        · have sq := same_new nq (o := .lst [.int ((lowest (n * WH - tm * d) (WH * d)).num : Nat), .int ((lowest (n * WH - tm * d) (WH * d)).den : Nat)])
          have sp := same_new np (o := .tup [.int (i : Nat), .ref q])
          refine kS i tm hwe _ p q ((s2.trans sq).trans sp) upd_same ?_
          rw [Nat.mul_comm d WH]
          exact sp _ _ upd_same
      · rw [if_neg hlt] at hwe
        refine if_f (decide_eq_false (by omega)) ?_
        refine ⟨_, rfl, _, rfl, _, _, rfl, rfl, some (.int (i : Nat)), some (.ref b), some (.int ((barLen bar : Int) * (d : Int))), ?_, s2, by omega, hwe⟩
        have : ((n * WH - tm * d : Nat) : Int) - ((barLen bar : Int) * (d : Int)) = ((n * WH - (tm * d + barLen bar * d) : Nat) : Int) := by rw [hcm]; omega
        rw [← this]; rfl
    · rintro σ H1 ⟨x, y, z, rfl, s1, hle, hwe⟩
      rw [List.length_map, hbs.length, List.drop_length] at hwe
      exact kN hwe _ s1
end
end Sco
namespace Sco
open PySem PySem.Spec PyProof.Rows L2 Sx62
/-! ### lists of numbers compared -/
def nD (t : Bytes) : List PyData := t.map fun (c : Nat) => PyData.int (c : Int)
theorem nD_lay : ∀ t : Bytes, PyData.canLayAll0 (nD t) = true
  | [] => by simp [nD, PyData.canLayAll0]
  | c :: t => by
    have := nD_lay t
    show PyData.canLayAll0 (PyData.int (c : Int) :: nD t) = true
    simp [PyData.canLayAll0, PyData.canLay0, this]
theorem nD_depth : ∀ t : Bytes, PyData.depthAll (nD t) = 0
  | [] => by simp [nD, PyData.depthAll]
  | c :: t => by
    have := nD_depth t
    show PyData.depthAll (PyData.int (c : Int) :: nD t) = 0
    simp [PyData.depthAll, PyData.depth, this]
theorem nD_shaped (t : Bytes) : SeqAt.shaped (.list (nD t)) = true := by
  unfold SeqAt.shaped
  have h1 : PyData.canLay0 (.list (nD t)) = true := nD_lay t
  have h2 : PyData.depth (.list (nD t)) ≤ 64 := by
    have := nD_depth t
    simp only [PyData.depth]; omega
  rw [h1, decide_eq_true h2]; rfl
theorem nD_eqv : ∀ a b : Bytes, PyData.eqvAll (nD a) (nD b) = decide (a = b)
  | [], [] => by simp [nD, PyData.eqvAll]
  | [], _ :: _ => by simp [nD, PyData.eqvAll]
  | _ :: _, [] => by simp [nD, PyData.eqvAll]
  | x :: a, y :: b => by
    have ih := nD_eqv a b
    have h : PyData.eqvAll (nD (x :: a)) (nD (y :: b)) = (PyData.eqv (.int (x : Int)) (.int (y : Int)) && PyData.eqvAll (nD a) (nD b)) := by
      show PyData.eqvAll (PyData.int (x : Int) :: nD a) (PyData.int (y : Int) :: nD b) = _
      rw [PyData.eqvAll]
    rw [h, ih]
    have h2 : PyData.eqv (.int (x : Int)) (.int (y : Int)) = decide (x = y) := by
      rw [PyData.eqv]
      by_cases hx : x = y
      · subst hx; simp
      · rw [decide_eq_false hx]; exact beq_eq_false_iff_ne.mpr (by omega)
    rw [h2]
    by_cases hx : x = y
    · subst hx
      by_cases hy : a = b
      · subst hy; simp
      · rw [decide_eq_false hy, decide_eq_false fun z => hy (List.cons.inj z).2]; simp
    · rw [decide_eq_false hx, decide_eq_false fun z => hx (List.cons.inj z).1]; rfl
theorem nD_eq (a b : Bytes) : PyData.eqv (.list (nD a)) (.list (nD b)) = decide (a = b) := by
  have : PyData.eqv (.list (nD a)) (.list (nD b)) = PyData.eqvAll (nD a) (nD b) := by rw [PyData.eqv]
  rw [this, nD_eqv]
theorem dp_nats {K : PySem.W.Frag} {H : Hp} : ∀ t : Bytes, DpAll K H (Sco.nats t) (nD t)
  | [] => .nil
  | c :: t => .cons (.int _) (dp_nats t)
theorem dp_list {K : PySem.W.Frag} {H : Hp} {a : Addr} {t : Bytes} (h : H a = some (.lst (Sco.nats t))) : Dp K H (.ref a) (.list (nD t)) := .lst (SqL.of h) (dp_nats t)
theorem ne_int {i j : Int} (h : i ≠ j) : decide (V.int i = V.int j) = false := decide_eq_false fun z => h (V.int.inj z)
section
variable {P : Program} {w : World} {K : PySem.W.Frag} {mg : Str → Option Value} {base : Heap}
/-! ### answer_bars -/
def barsA (x : Score) : Ans := ⟨num x.starts.length, x.starts.map fun y => [y.1.num, y.1.den, y.2.num, y.2.den]⟩
theorem sc_abars : FnScope ["self"] ["self"] (defScope (inClass (top 98) 6)) := ⟨rfl, rfl, rfl, by decide +kernel, rfl, by decide +kernel, by decide +kernel⟩
theorem bi_abars (D : MethAt K C "answer_bars" "Desk.answer_bars" (inClass (top 98) 6)) : Binds K D.fd ["self"] [] := D.F.binds fun _ _ _ _ _ _ us hl => match us, hl with | [_], _ => rfl
theorem ok_abars (T : Tx w K mg) : FnOk P w K mg base CX0 5 T.m_Desk_answer_bars.f T.m_Desk_answer_bars.fd ["self"] (spTell T.c_Desk T.c_Score T.c_Voice T.c_Bar T.c_Event barsA) := by
  have GB : FnOk P w K mg base CX0 4 _ _ _ (spBTimes T.c_Score T.c_Voice T.c_Bar T.c_Event) := ok_btimes T
  have GR : FnOk P w K mg base CX0 1 _ _ _ spRows := ok_rows T
  refine T.m_Desk_answer_bars.F.ok sc_abars (fun vs H Q E h => ?_) (fun cdv A outer s H vs Q E hr h => ?_)
  · obtain ⟨d, s, rfl, _⟩ := h
    rfl
  · obtain ⟨d, s, rfl, ⟨dx, x, hd, p, rfl, hS, good⟩, kS⟩ := h
    have hr1 : Room 1 _ := hr.mono (by decide)
    have hr4 : Room 4 _ := hr.mono (by decide)
    refine ⟨_, pss_one (ps_ret (pe_call GR hr1 rfl T.f_with_rows.g T.f_with_rows.F.kp (bi_rows _) .nil pass0 (pa_cons (pe_call GB hr4 rfl T.f_bar_times.g T.f_bar_times.F.kp (bi_btimes _) .nil pass0 (pa_cons (pe_fld (pv 0) rfl) pa_nil)) pa_nil))), ?_⟩
    have hso : barsA s = ⟨num (startsE 0 (firstBars s)).length, (startsE 0 (firstBars s)).map barN⟩ := by
      unfold barsA
      rw [score_starts good.ok, List.length_map, List.map_map]
      rfl
    rw [hso, told_rows _ _ (List.length_map ..).symm] at kS
    refine ⟨_, rfl, d, _, dx, _, _, rfl, hd, T.cl_Desk, T.n_Desk_score, dF_score, p, s, rfl, hS, good, fun H1 q s1 hrows => ?_⟩
    refine ⟨q, _, rfl, hrows, ?_, fun H2 t s2 h2 nt => kS _ t (s1.trans s2) h2 (none_back s1 nt)⟩
    unfold rowsN
    rw [List.length_cons, List.length_flatMap, List.map_map]
    have h3 := (first_small good).1
    have : ∀ l : List (Nat × Nat), (l.map ((fun r : List Nat => (r.length :: r).length) ∘ barN)).sum = l.length * 5 := by
      intro l
      induction l with
      | nil => rfl
      | cons a l ih =>
        rw [List.map_cons, List.sum_cons, ih, List.length_cons]
        show 5 + _ = _
        omega
    rw [this, starts_len]
    omega
/-! ### answer_place -/
def placeA (n d : Nat) (x : Score) : Ans := if d = 0 ∨ FAR < d ∨ FAR < n then Sx62.ok (-2) else match whereFrom (lowest n d) 0 x.starts with
  | none => Sx62.ok (-4)
  | some y => ⟨num y.1, [[y.2.num, y.2.den]]⟩
def spAPlace (cD cS cV cB cE : Addr) : Sp := fun vs H Q _ => ∃ (d : Addr) (n m : Nat) (s : Score), vs = [.ref d, .int n, .int m] ∧ DeskAt cD cS cV cB cE H d (some s) ∧ ∀ H' p, Same H H' → H' p = some (.lst (intV (Sx62Neutral.told (placeA n m s)))) → H p = none → Q (.ref p) H'
theorem sc_aplace : FnScope ["self", "upper", "lower", "found"] ["self", "upper", "lower"] (defScope (inClass (top 98) 8)) := ⟨rfl, rfl, rfl, by decide +kernel, rfl, by decide +kernel, by decide +kernel⟩
theorem bi_aplace (D : MethAt K C "answer_place" "Desk.answer_place" (inClass (top 98) 8)) : Binds K D.fd ["self", "upper", "lower"] [] := D.F.binds fun _ _ _ _ _ _ us hl => match us, hl with | [_, _, _], _ => rfl
theorem ok_aplace (T : Tx w K mg) : FnOk P w K mg base CX0 4 T.m_Desk_answer_place.f T.m_Desk_answer_place.fd ["self", "upper", "lower"] (spAPlace T.c_Desk T.c_Score T.c_Voice T.c_Bar T.c_Event) := by
  have GB : FnOk P w K mg base CX0 3 _ _ _ (spBOf T.c_Score T.c_Voice T.c_Bar T.c_Event) := ok_bof T
  refine T.m_Desk_answer_place.F.ok sc_aplace (fun vs H Q E h => ?_) (fun cdv A outer s H vs Q E hr h => ?_)
  · obtain ⟨d, n, m, s, rfl, _⟩ := h
    rfl
  · obtain ⟨d, n, m, s, rfl, ⟨dx, x, hd, p, rfl, hS, good⟩, kS⟩ := h
    have hr3 : Room 3 _ := hr.mono (by decide)
    refine ⟨_, pss_cons (ps_if (PW.pt (pw_or (pt_cmpR op_eq (pv 2) pe_int (nomark _)) (pw_or (pt_cmpR op_gt (pv 1) (pe_ki T.k_MOST_OF_A_TIME) (nomark _)) (pw_or1 (pt_cmpR op_gt (pv 2) (pe_ki T.k_MOST_OF_A_TIME) (nomark _))))))
        (pss_one (ps_ret (pe_lst (pa_cons (pe_ki T.k_NO_TIME) pa_nil)))) pss_nil)
      (pss_cons (ps_set (i := 3) sc_aplace.nd rfl (Or.inl rfl) (pe_call GB hr3 rfl T.f_bar_of_time.g T.f_bar_of_time.F.kp (bi_bof _) .nil pass0 (pa_cons (pe_fld (pv 0) rfl) (pa_cons (pv 1) (pa_cons (pv 2) pa_nil)))))
      (pss_cons (ps_if (pt_cmpR op_isN (pv 3) pe_non (nomark _)) (pss_one (ps_ret (pe_lst (pa_cons (pe_ki T.k_BEHIND_END) pa_nil)))) pss_nil)
      (pss_one (ps_ret (pe_op op_cat (pe_lst (pa_cons (pe_ix ix_tup (pv 3) pe_int (fun _ _ => rfl)) (pa_cons (pe_callB call_len_seq (by rfl) T.b_len PySem.boot_len (pa_cons (pe_ix ix_tup (pv 3) pe_int (fun _ _ => rfl)) pa_nil)) pa_nil))) (pe_ix ix_tup (pv 3) pe_int (fun _ _ => rfl))))))), ?_⟩
    have hbad : (m = 0 ∨ 1000000 < n ∨ 1000000 < m) → ∀ q, H q = none → Q (.ref q) (upd H q (.lst [.int (-2)])) := fun hb q nq => by
      refine kS _ q (same_new nq) ?_ nq
      rw [upd_same]
      unfold placeA
      rw [if_pos (show m = 0 ∨ FAR < m ∨ FAR < n from by have hF : FAR = 1000000 := rfl; omega)]
      rfl
    refine ⟨_, rfl, rfl, _, rfl, ?_⟩
    by_cases h0 : m = 0
    · refine if_t (decide_eq_true (by rw [h0]; rfl)) (if_t rfl ⟨Nat.le_of_lt (size_lt (show 1 ≤ 4000 by decide)), fun q nq => hbad (.inl h0) q nq⟩)
    refine if_f (ne_int (by omega)) ⟨_, rfl, _, _, rfl, rfl, _, rfl, ?_⟩
    by_cases h1 : 1000000 < n
    · refine if_t (decide_eq_true (by omega)) (if_t rfl ⟨Nat.le_of_lt (size_lt (show 1 ≤ 4000 by decide)), fun q nq => hbad (.inr (.inl h1)) q nq⟩)
    refine if_f (decide_eq_false (by omega)) ⟨_, rfl, _, _, rfl, rfl, _, rfl, ?_⟩
    by_cases h2 : 1000000 < m
    · refine if_t (decide_eq_true (by omega)) ⟨Nat.le_of_lt (size_lt (show 1 ≤ 4000 by decide)), fun q nq => hbad (.inr (.inr h2)) q nq⟩
    have hpl : placeA n m s = match (whereE n m 0 (startsE 0 (firstBars s))) with
        | none => Sx62.ok (-4)
        | some y => ⟨num y.1, [[(lowest (n * WH - y.2 * m) (m * WH)).num, (lowest (n * WH - y.2 * m) (m * WH)).den]]⟩ := by
      unfold placeA
      rw [if_neg (show ¬ (m = 0 ∨ FAR < m ∨ FAR < n) from by have hF : FAR = 1000000 := rfl; omega), score_starts good.ok, where_e (by omega)]
      cases whereE n m 0 (startsE 0 (firstBars s)) <;> rfl
    rw [hpl] at kS
    refine if_f (decide_eq_false (by omega)) ⟨_, rfl, d, _, dx, _, _, rfl, hd, T.cl_Desk, T.n_Desk_score, dF_score, _, rfl, _, rfl, p, s, n, m, rfl, hS, good, by omega, by omega, by omega, fun hw H1 s1 => ?_, fun i t hw H1 q r s1 hq hr => ?_⟩
    · rw [hw] at kS
      refine ⟨_, rfl, rfl, _, rfl, if_t rfl ⟨Nat.le_of_lt (size_lt (show 1 ≤ 4000 by decide)), fun q nq => ?_⟩⟩
      exact kS _ q (s1.trans (same_new nq)) upd_same (none_back s1 nq)
    · rw [hw] at kS
      dsimp only at kS
      generalize (lowest (n * WH - t * m) (m * WH)).num = A1 at kS hr
      generalize (lowest (n * WH - t * m) (m * WH)).den = A2 at kS hr
      refine ⟨_, rfl, rfl, _, rfl, if_f (decide_eq_false fun z => by cases z) ?_⟩
      refine ⟨_, rfl, _, _, 0, _, rfl, rfl, SqT.of hq, rfl, _, rfl, _, _, 1, _, rfl, rfl, SqT.of hq, rfl, r, _, rfl, .inl (SqL.of hr), Nat.le_of_lt (size_lt (show 2 ≤ 4000 by decide)), fun u nu => ?_⟩
      have s2 := same_new nu (o := .lst [.int (i : Nat), .int ([V.int (A1 : Nat), V.int (A2 : Nat)].length : Nat)])
      refine ⟨_, rfl, _, _, 1, _, rfl, rfl, SqT.of (s2 _ _ hq), rfl, _, _, _, _, rfl, rfl, upd_same, s2 _ _ hr, Nat.le_of_lt (size_lt (show 4 ≤ 4000 by decide)), fun v nv => ?_⟩
      refine kS _ v ((s1.trans s2).trans (same_new nv)) ?_ (none_back (s1.trans s2) nv)
      rw [upd_same]; rfl
/-! ### answer_same -/
def sameA (t : Bytes) (x : Score) : Ans := if LONG < t.length then Sx62.ok (-8) else match Sx62.read t with
  | .error _ => Sx62.ok (-6)
  | .ok y => Sx62.ok (if x.form = y.form then 1 else 0)
def spASame (cD cS cV cB cE : Addr) : Sp := fun vs H Q _ => ∃ (d a : Addr) (t : Bytes) (s : Score), vs = [.ref d, .ref a] ∧ DeskAt cD cS cV cB cE H d (some s) ∧ H a = some (.lst (Sco.nats t)) ∧
  ∀ H' p, Same H H' → H' p = some (.lst (intV (Sx62Neutral.told (sameA t s)))) → H p = none → Q (.ref p) H'
theorem sc_asame : FnScope ["self", "text", "other"] ["self", "text"] (defScope (inClass (top 98) 7)) := ⟨rfl, rfl, rfl, by decide +kernel, rfl, by decide +kernel, by decide +kernel⟩
theorem bi_asame (D : MethAt K C "answer_same" "Desk.answer_same" (inClass (top 98) 7)) : Binds K D.fd ["self", "text"] [] := D.F.binds fun _ _ _ _ _ _ us hl => match us, hl with | [_, _], _ => rfl
theorem ok_asame (T : Tx w K mg) : FnOk P w K mg base CX0 11 T.m_Desk_answer_same.f T.m_Desk_answer_same.fd ["self", "text"] (spASame T.c_Desk T.c_Score T.c_Voice T.c_Bar T.c_Event) := by
  have GO : FnOk P w K mg base (L2.CX P w) 10 _ _ _ (spOf T.c_Score T.c_Voice T.c_Bar T.c_Event T.c_Fault) := ok_of T
  have GF : FnOk P w K mg base CX0 1 _ _ _ (spForm T.c_Score T.c_Voice T.c_Bar T.c_Event) := ok_form T
  refine T.m_Desk_answer_same.F.ok sc_asame (fun vs H Q E h => ?_) (fun cdv A outer s H vs Q E hr h => ?_)
  · obtain ⟨d, a, t, s, rfl, _⟩ := h
    rfl
  · obtain ⟨d, a, t, s, rfl, ⟨dx, x, hd, p, rfl, hS, good⟩, hA, kS⟩ := h
    have hr1 : Room 1 _ := hr.mono (by decide)
    have hr10 : Room 10 _ := hr.mono (by decide)
    refine ⟨_, pss_cons (ps_if (pt_cmpR op_gt (pe_callB call_len_seq (by rfl) T.b_len PySem.boot_len (pa_cons (pv 1) pa_nil)) (pe_ki T.k_MOST_BYTES) (nomark _)) (pss_one (ps_ret (pe_lst (pa_cons (pe_ki T.k_TOO_LONG) pa_nil)))) pss_nil)
      (pss_cons (ps_try_only (tb := fun W => tAsg (tCallS (spOf T.c_Score T.c_Voice T.c_Bar T.c_Event T.c_Fault) (WE W) (tCons (tVar 1) tNil)) (gName 2)) (ts := fun _ _ _ => tRet (tLst (tCons (tC (.int (-6))) tNil))) (Wout := fun _ _ _ _ => False) rfl rfl ⟨rfl, by decide, Or.inl T.x_Fault.gC⟩ takes0
          (fun W pn xe tk _ => pss_one (ps_set (i := 2) sc_asame.nd rfl (Or.inl rfl) (by exact (pe_callS GO hr10 rfl T.f_score_of.g T.f_score_of.F.kp (bi_of _) (fun σ => passAt tk σ) (by exact (pa_cons (pv 1) pa_nil))))))
          (fun a oe cls d pn hz hf => pss_one (ps_ret (by exact (pe_lst (pa_cons (pe_ki T.k_FAULTY_TEXT) pa_nil))))))
      (pss_one (ps_ret (pe_lst (pa_cons (pe_ifExp (pt_cmpR (op_eqD (Nat.lt_of_succ_lt (hu65 hr)))
          (pe_call GF hr1 rfl T.f_one_form.g T.f_one_form.F.kp (bi_form _) .nil pass0 (pa_cons (pv 2) pa_nil))
          (pe_call GF hr1 rfl T.f_one_form.g T.f_one_form.F.kp (bi_form _) .nil pass0 (pa_cons (pe_fld (pv 0) rfl) pa_nil)) (nomark _)) pe_int pe_int) pa_nil))))), ?_⟩
    have hl : (Sco.nats t).length = t.length := List.length_map ..
    refine ⟨_, rfl, a, _, rfl, .inl (SqL.of hA), _, _, rfl, rfl, _, rfl, ?_⟩
    rw [hl]
    unfold sameA at kS
    by_cases hlong : 1500 < t.length
    · rw [if_pos (show LONG < t.length from hlong)] at kS
      refine if_t (decide_eq_true (by omega)) ⟨Nat.le_of_lt (size_lt (show 1 ≤ 4000 by decide)), fun q nq => ?_⟩
      exact kS _ q (same_new nq) upd_same nq
    · rw [if_neg (show ¬ LONG < t.length from hlong)] at kS
      refine if_f (decide_eq_false (by omega)) ?_
      refine ⟨_, rfl, a, t, rfl, hA, by omega, fun f hf H1 dd b1 e1 => ?_, fun sc hsc H1 p1 s1 hS1 => ?_⟩
      · rw [hf] at kS
        refine ⟨true, T.x_Fault.te, fun _ a0 na0 => ?_, fun q => Bool.noConfusion q⟩
        refine ⟨Nat.le_of_lt (size_lt (show 1 ≤ 4000 by decide)), fun q nq => ?_⟩
        exact kS _ q (b1.nil.trans (same_new nq)) upd_same (none_back b1.nil nq)
      · rw [hsc] at kS
        dsimp only at kS
        have good1 := read_good (by omega) hsc
        have hf1 := form_len good1.ok good1.names good1.size
        have hf0 := form_len good.ok good.names good.size
        refine ⟨_, rfl, p1, sc, rfl, hS1, by omega, fun H2 q1 s2 h2 nq1 => ?_⟩
        have s12 := s1.trans s2
        refine ⟨_, rfl, d, _, dx, _, _, rfl, s12 _ _ hd, T.cl_Desk, T.n_Desk_score, dF_score, p, s, rfl, ScoreAt.same s12 _ _ hS, by omega, fun H3 q2 s3 h3 nq2 => ?_⟩
        have s13 := s12.trans s3
        refine ⟨_, _, dp_list (s3 _ _ h2), dp_list h3, nD_shaped _, nD_shaped _, _, rfl, ?_⟩
        rw [nD_eq]
        by_cases he : sc.form = s.form
        · rw [if_pos he.symm] at kS
          refine if_t (decide_eq_true he) ⟨Nat.le_of_lt (size_lt (show 1 ≤ 4000 by decide)), fun q nq => ?_⟩
          exact kS _ q (s13.trans (same_new nq)) upd_same (none_back s13 nq)
        · rw [if_neg fun z => he z.symm] at kS
          refine if_f (decide_eq_false he) ⟨Nat.le_of_lt (size_lt (show 1 ≤ 4000 by decide)), fun q nq => ?_⟩
          exact kS _ q (s13.trans (same_new nq)) upd_same (none_back s13 nq)
end
end Sco
namespace Sco
open PySem PySem.Spec PyProof.Rows L2 Sx62
theorem call_split {l t : List Int} {c : Sx62.Call} (h : CallAt l c t) : ∃ p rest, l = p :: (rest ++ t) ∧ CallAt (p :: rest) c [] := by
  cases h with
  | read b t hb => exact ⟨0, (b.length : Int) :: ints_ b, rfl, by have := CallAt.read b [] hb; rw [List.append_nil] at this; exact this⟩
  | form t => exact ⟨1, [], rfl, .form _⟩
  | counts t => exact ⟨2, [], rfl, .counts _⟩
  | sounds v t => exact ⟨3, [(v : Int)], rfl, .sounds _ _⟩
  | bars t => exact ⟨4, [], rfl, .bars _⟩
  | same b t hb => exact ⟨5, (b.length : Int) :: ints_ b, rfl, by have := CallAt.same b [] hb; rw [List.append_nil] at this; exact this⟩
  | place n d t => exact ⟨6, [(n : Int), (d : Int)], rfl, .place _ _ _⟩
theorem frz_strange {H : Hp} {x : Addr} {u : HO} {k : Obj} (h : H x = some (.frz k u)) : Strange H x := by
  refine ⟨fun C' dx' fs q => ?_, fun xs q => ?_, fun xs q => ?_⟩
  · rw [h] at q; cases q
  · rw [h] at q; cases q
  · rw [h] at q; cases q
theorem size10 {n : Nat} (h : n ≤ 10000000) : n < sizeLine := Nat.lt_of_le_of_lt h (by decide)
theorem dF_answer {x : V} : (dF x).lookup ("answer" : Str) = none := (lk_past (by decide +kernel)).trans rfl
theorem desk_frz {cD cS cV cB cE : Addr} {H : Hp} {d tl : Addr} {st : Option Score} {k : Obj} {u : HO} (ht : H tl = some (.frz k u)) (h : DeskAt cD cS cV cB cE H d st) : ∀ H'', But [tl] H H'' → DeskAt cD cS cV cB cE H'' d st := by
  intro H'' b
  obtain ⟨dx, x, h1, h2⟩ := h
  refine ⟨dx, x, b _ _ h1 ?_, ?_⟩
  · rw [List.mem_singleton]; rintro rfl
    rw [ht] at h1; cases h1
  · cases st with
    | none => exact h2
    | some sc =>
      obtain ⟨p, e, hS, g⟩ := h2
      exact ⟨p, e, ScoreAt.strange (frz_strange ht) (fun xs z => by rw [ht] at z; cases z) b _ _ hS, g⟩
section
variable {P : Program} {w : World} {K : PySem.W.Frag} {mg : Str → Option Value} {base : Heap}
/-! ### Desk() -/
def spDInit (C : Addr) : Sp := fun vs H Q _ => ∃ (p dx : Addr), vs = [.ref p] ∧ H p = some (.ins C dx []) ∧ ∀ H' : Hp, H' p = some (.ins C dx (dF .non)) → (∀ x o, H x = some o → x ≠ p → H' x = some o) → Q .non H'
theorem sc_dInit : FnScope ["self"] ["self"] (defScope (inClass (top 98) 0)) := ⟨rfl, rfl, rfl, by decide +kernel, rfl, by decide +kernel, by decide +kernel⟩
theorem bi_dInit (D : InitAt K C "Desk.__init__" (inClass (top 98) 0)) : Binds K D.fd ["self"] [] := D.F.binds fun _ _ _ _ _ _ us hl => match us, hl with | [_], _ => rfl
theorem ok_dInit (T : Tx w K mg) : FnOk P w K mg base CX0 1 T.i_Desk.f T.i_Desk.fd ["self"] (spDInit T.c_Desk) := by
  refine T.i_Desk.F.ok sc_dInit (fun vs H Q E h => ?_) (fun cdv A outer s H vs Q E hr h => ?_)
  · obtain ⟨p, dx, rfl, _⟩ := h
    rfl
  · obtain ⟨p, dx, rfl, hp, k⟩ := h
    refine ⟨_, pss_one (ps_fld (pv 0) pe_non rfl), ?_⟩
    refine ⟨_, rfl, p, _, dx, [], rfl, hp, T.cl_Desk, T.n_Desk_score, (by show 0 < 1000; decide), ?_⟩
    exact k _ upd_same fun b o e hb => by rw [upd_ne hb]; exact e
/-! ### answers -/
def spCallEnd (K : PySem.W.Frag) : Sp := fun vs H Q _ => ∃ (a : Addr) (l t : List Int) (i : Nat) (c : Sx62.Call), vs = [.ref a, .int i] ∧ SqL K H a (intV l) ∧ CallAt (l.drop i) c t ∧ l.length ≤ 100000 ∧ ∀ H' : Hp, Same H H' → Q (.int ((l.length - t.length : Nat) : Int)) H'
def spAnswer (cD cS cV cB cE : Addr) : Sp := fun vs H Q _ => ∃ (d g : Addr) (p : Int) (rest : List Int) (c : Sx62.Call) (st : Option Score), vs = [.ref d, .int p, .ref g] ∧ DeskAt cD cS cV cB cE H d st ∧ H g = some (.lst (intV rest)) ∧ CallAt (p :: rest) c [] ∧
  ∀ H' q, But [d] H H' → DeskAt cD cS cV cB cE H' d (Sx62.step st c).1 → H' q = some (.lst (intV (Sx62Neutral.told (Sx62.step st c).2))) → H q = none → Q (.ref q) H'
def spAns (K : PySem.W.Frag) : Sp := fun vs H Q _ => ∃ (a : Addr) (l : List Int), vs = [.ref a] ∧ SqL K H a (l.map V.int) ∧ l.length ≤ 100000 ∧ PySx62.answers_asked l = true ∧
  ∀ (H' : Hp) (p : Addr), H' p = some (.lst ((PySx62.answers l).map V.int)) → Q (.ref p) H'
theorem sc_ans : FnScope ["calls", "desk", "told", "at", "behind", "answer"] ["calls"] (defScope (top 96)) := ⟨rfl, rfl, rfl, by decide +kernel, rfl, by decide +kernel, by decide +kernel⟩
theorem cut_call {l rest t : List Int} {p : Int} {i : Nat} (h : l.drop i = p :: (rest ++ t)) : cutV (intV l) (some ((i : Int) + 1)) (some ((l.length - t.length : Nat) : Int)) = intV rest := by
  have hl : l.length = i + (1 + (rest.length + t.length)) := by
    have h1 := congrArg List.length h
    rw [List.length_drop, List.length_cons, List.length_append] at h1
    omega
  unfold cutV
  rw [intV_len, show ((i : Int) + 1) = ((i + 1 : Nat) : Int) by omega, HT.sIx_nat, HT.sIx_nat]
  have e1 : min (i + 1) l.length = i + 1 := by omega
  have e2 : min (l.length - t.length) l.length - (i + 1) = rest.length := by omega
  rw [e1, e2]
  unfold intV
  rw [← List.map_drop, ← List.map_take]
  have e3 : l.drop (i + 1) = rest ++ t := by
    rw [← List.drop_drop, h]; rfl
  rw [e3, List.take_left]
theorem ok_ans (T : Tx w K mg) (bE : Binds K T.f_call_end.fd ["calls", "at"] []) (bA : Binds K T.m_Desk_answer.fd ["self", "call", "given"] [])
    (GE : FnOk P w K mg base CX0 1 T.f_call_end.f T.f_call_end.fd ["calls", "at"] (spCallEnd K)) (GA : FnOk P w K mg base CX0 12 T.m_Desk_answer.f T.m_Desk_answer.fd ["self", "call", "given"] (spAnswer T.c_Desk T.c_Score T.c_Voice T.c_Bar T.c_Event)) :
    FnOk P w K mg base CX0 13 T.f_answers.f T.f_answers.fd ["calls"] (spAns K) := by
  have GI : FnOk P w K mg base CX0 1 _ _ _ (spDInit T.c_Desk) := ok_dInit T
  refine T.f_answers.F.ok sc_ans (fun vs H Q E h => ?_) (fun cdv A outer s H vs Q E hr h => ?_)
  · obtain ⟨a, l, rfl, _⟩ := h
    rfl
  · obtain ⟨a, l, rfl, hA, hlen, hask, kS⟩ := h
    obtain ⟨cs, hch, hans, hcl, hal⟩ := asked_chain hask
    have hr1 : Room 1 _ := hr.mono (by decide)
    have hr2 : Room 2 _ := hr.mono (by decide)
    have hr12 : Room 12 _ := hr.mono (by decide)
    refine ⟨_, pss_cons (ps_set (i := 1) sc_ans.nd rfl (Or.inl rfl) (pe_make0 T.i_Desk.M GI hr2 rfl T.g_Desk (bi_dInit _) .nil pass0))
      (pss_cons (ps_set (i := 2) sc_ans.nd rfl (Or.inl rfl) (pe_lst pa_nil))
      (pss_cons (ps_set (i := 3) sc_ans.nd rfl (Or.inl rfl) pe_int)
      (pss_cons (ps_while PassesOwn.never (pt_cmpR op_lt (pv 3) (pe_callB call_len_seq (by rfl) T.b_len PySem.boot_len (pa_cons (pv 0) pa_nil)) (nomark _))
        (pss_cons (ps_set (i := 4) sc_ans.nd rfl (Or.inl rfl) (pe_call GE hr1 rfl T.f_call_end.g T.f_call_end.F.kp bE .nil pass0 (pa_cons (pv 0) (pa_cons (pv 3) pa_nil))))
        (pss_cons (ps_set (i := 5) sc_ans.nd rfl (Or.inl rfl) (pe_lock (pe_meth (pv 1) T.cl_Desk T.m_Desk_answer.M GA hr12 bA .nil pass0 (pa_cons (pe_ix ix_list (pv 0) (pv 3) (fun _ _ => rfl)) (pa_cons (pe_slice sl_list (pv 0) (po_some (pe_op op_add (pv 3) pe_int)) (po_some (pv 4))) pa_nil)))))
        (pss_cons (ps_expr (pe_bm PySem.F.plainAttrs_list PySem.F.slot_list_append PySem.F.type_list_append mt_append (pv 2) (pa_cons (pe_callB call_len_seq (by rfl) T.b_len PySem.boot_len (pa_cons (pv 5) pa_nil)) pa_nil)))
        (pss_cons (ps_expr (pe_bm PySem.F.plainAttrs_list PySem.F.slot_list_extend PySem.F.type_list_extend mt_extend (pv 2) (pa_cons (pv 5) pa_nil)))
        (pss_one (ps_set (i := 3) sc_ans.nd rfl (Or.inl rfl) (pv 4))))))))
      (pss_one (ps_ret (pv 2)))))), ?_⟩
    refine fun d dxd nd ndx nex => ⟨d, dxd, rfl, upd_same, fun H1 h1d k1 => ⟨rfl, ?_⟩⟩
    have s1 : Same H H1 := Same.made nd ndx k1
    refine ⟨Nat.zero_le _, fun tl ntl => ?_⟩
    have s2 : Same H1 (upd H1 tl (.lst [])) := same_new ntl
    have h2t : upd H1 tl (.lst []) tl = some (.lst (intV [])) := upd_same
    have h2d := s2 _ _ h1d
    have tld : tl ≠ d := fun z => by rw [z, h1d] at ntl; cases ntl
    have ntl0 : H tl = none := none_back s1 ntl
    generalize upd H1 tl (.lst []) = H2 at s2 h2t h2d ⊢
    refine ⟨fun m σ H' => ∃ (i : Nat) (rest : List Sx62.Call) (sofar : List Int) (st : Option Score) (x y : Option V), m = rest.length ∧ σ = [some (.ref a), some (.ref d), some (.ref tl), some (.int i), x, y] ∧ Same H H' ∧ (∀ H'', But [tl] H' H'' → DeskAt T.c_Desk T.c_Score T.c_Voice T.c_Bar T.c_Event H'' d st) ∧ H' tl = some (.lst (intV sofar)) ∧ i ≤ l.length ∧ Chain (l.drop i) rest ∧ PySx62.answers l = sofar ++ toldAll st rest, ⟨_, 0, cs, [], none, none, none, rfl, rfl, s1.trans s2, (fun H'' b => ⟨dxd, .non, b _ _ h2d (by simpa using fun z => tld z.symm), rfl⟩), h2t, Nat.zero_le _, hch, hans⟩, ?_⟩
    rintro m σ H3 ⟨i, rest, sofar, st, x, y, rfl, rfl, s3, hD, ht, hi, hc, he⟩
    have hA3 := s3.seq hA
    have hA4 : SqL K H3 a (intV l) := hA3
    refine ⟨_, rfl, _, rfl, a, _, rfl, .inl hA4, _, _, rfl, rfl, _, rfl, ?_⟩
    rw [intV_len]
    generalize hdi : l.drop i = li at hc
    cases hc with
    | nil =>
      have hil : i = l.length := by
        have := congrArg List.length hdi
        rw [List.length_drop, List.length_nil] at this; omega
      refine if_f (decide_eq_false (by omega)) ⟨_, rfl, kS H3 tl ?_⟩
      rw [ht, he]
      show _ = some (HO.lst ((sofar ++ []).map V.int))
      rw [List.append_nil]; rfl
    | cons hc1 hc2 =>
      rename_i t c cs2
      obtain ⟨p, r, e1, e2⟩ := call_split hc1
      have hdr : l.drop i = p :: (r ++ t) := hdi.trans e1
      have hl : l.length = i + (1 + (r.length + t.length)) := by
        have h1 := congrArg List.length hdr
        rw [List.length_drop, List.length_cons, List.length_append] at h1
        omega
      refine if_t (decide_eq_true (by omega)) ⟨_, fun _ _ h => h, ?_⟩
      refine ⟨_, rfl, _, rfl, a, l, t, i, c, rfl, hA4, (by rw [hdi]; exact hc1), hlen, fun H3b sb => ?_⟩
      have ht := sb _ _ ht
      have hD : ∀ H'', But [tl] H3b H'' → DeskAt T.c_Desk T.c_Score T.c_Voice T.c_Bar T.c_Event H'' d st := fun H'' b => hD H'' ((But.of sb).trans b)
      have s3 := s3.trans sb
      refine ⟨tl, _, ht, trivial, fun od => ?_⟩
      have sL : Same H (upd H3b tl (.frz od (.lst (intV sofar)))) := fun z o hz => by rw [upd_ne (ne_of_none hz ntl0)]; exact s3 _ _ hz
      have hDL := hD (upd H3b tl (.frz od (.lst (intV sofar)))) (But.upd (by simp))
      have htL : upd H3b tl (.frz od (.lst (intV sofar))) tl = some (.frz od (.lst (intV sofar))) := upd_same
      generalize upd H3b tl (.frz od (.lst (intV sofar))) = HL at sL hDL htL ⊢
      have hAL : SqL K HL a (intV l) := sL.seq hA
      obtain ⟨dxL, xL, hdL, hxL⟩ := hDL
      have hDL : DeskAt T.c_Desk T.c_Score T.c_Voice T.c_Bar T.c_Event HL d st := ⟨dxL, xL, hdL, hxL⟩
      have hgi : (intV l)[i]? = some (V.int p) := by
        unfold intV
        rw [List.getElem?_map]
        have : l[i]? = some p := by
          have := congrArg (fun q : List Int => q[0]?) hdr
          rw [List.getElem?_drop] at this
          exact this
        rw [this]; rfl
      refine ⟨_, rfl, d, dxL, _, rfl, hdL, dF_answer, _, rfl, _, rfl, a, _, _, _, rfl, rfl, hAL, atI_nat hgi, _, rfl, _, rfl, _, _, rfl, rfl, _, rfl, _, rfl, _, rfl, a, _, rfl, hAL, fun g ng => ?_⟩
      rw [cut_call hdr]
      have sg := same_new ng (o := .lst (intV r))
      refine ⟨d, g, p, r, c, st, rfl, hDL.same sg, upd_same, e2, fun H5 q b5 hD5 h5q nq => ?_⟩
      have h5t : H5 tl = some (.frz od (.lst (intV sofar))) := b5 _ _ (sg _ _ htL) (by simpa using tld)
      have qt : q ≠ tl := fun z => by rw [z, h5t] at h5q; cases h5q
      refine ⟨h5t, ?_⟩
      have s5 : Same H H5 := fun z o hz => b5 _ _ (sg _ _ (sL _ _ hz)) (by simpa using ne_of_none hz nd)
      have hD6 := desk_frz h5t hD5
      generalize hans2 : Sx62Neutral.told (Sx62.step st c).2 = an at h5q
      have hto : toldAll st (c :: cs2) = ((an.length : Int) :: an) ++ toldAll (Sx62.step st c).1 cs2 := by rw [← hans2]; rfl
      have hsz : sofar.length + (an.length + 1) ≤ 10000000 := by
        rw [he, hto, List.length_append, List.length_append, List.length_cons] at hal; omega
      have h6q : upd H5 tl (.lst (intV sofar)) q = some (.lst (intV an)) := by rw [upd_ne qt]; exact h5q
      refine ⟨_, rfl, .inl ⟨rfl, _, SqL.of upd_same⟩, _, rfl, q, _, rfl, .inl (SqL.of h6q), tl, _, _, rfl, rfl, upd_same, by rw [intV_len]; exact size10 (by omega), ?_⟩
      have ea : intV sofar ++ [V.int ((intV an).length : Nat)] = intV (sofar ++ [(an.length : Int)]) := by
        unfold intV
        rw [List.map_append, List.length_map]; rfl
      rw [ea]
      have h7t : upd (upd H5 tl (.lst (intV sofar))) tl (.lst (intV (sofar ++ [(an.length : Int)]))) tl = some (.lst (intV (sofar ++ [(an.length : Int)]))) := upd_same
      have h7q : upd (upd H5 tl (.lst (intV sofar))) tl (.lst (intV (sofar ++ [(an.length : Int)]))) q = some (.lst (intV an)) := by rw [upd_ne qt]; exact h6q
      refine ⟨_, rfl, .inl ⟨rfl, _, SqL.of h7t⟩, _, rfl, tl, q, _, _, rfl, rfl, h7t, h7q, by rw [intV_len, intV_len, List.length_append]; exact Nat.le_of_lt (size10 (by simp; omega)), ?_⟩
      refine ⟨_, rfl, cs2.length, Nat.lt_succ_self _, l.length - t.length, cs2, sofar ++ [(an.length : Int)] ++ an, (Sx62.step st c).1, _, _, rfl, rfl, ?_, ?_, ?_, by omega, ?_, ?_⟩
      · exact fun z o hz => by
          have zt := ne_of_none hz ntl0
          rw [upd_ne zt, upd_ne zt, upd_ne zt]; exact s5 _ _ hz
      · intro H'' b
        refine hD6 H'' fun z o hz hm => b _ _ ?_ hm
        have zt : z ≠ tl := by simpa using hm
        rw [upd_ne zt, upd_ne zt, upd_ne zt]; exact hz
      · rw [upd_same]
        unfold intV
        rw [← List.map_append]
      · have e9 : l.length - t.length = i + (1 + r.length) := by omega
        rw [e9, ← List.drop_drop, hdr, ← List.drop_drop]
        show Chain ((r ++ t).drop r.length) cs2
        rw [List.drop_left]; exact hc2
      · rw [he, hto]
        simp
end
end Sco
namespace Sco
open PySem PySem.Spec PyProof.Rows L2 Sx62
/-- a statement that isn't come to -/
theorem ps_dead {X : Cx} {st : Stmt} : PS X st (fun _ _ _ => False) := ⟨fun pins s σ H D I h => h.elim⟩
theorem cut1_int (z : Int) (l : List Int) : cutV (intV (z :: l)) (some 1) none = intV l := by
  unfold cutV
  rw [show (1 : Int) = ((1 : Nat) : Int) from rfl, HT.sIx_nat]
  show (List.drop (min 1 (intV (z :: l)).length) (intV (z :: l))).take ((intV (z :: l)).length - min 1 (intV (z :: l)).length) = intV l
  rw [intV_len, List.length_cons, Nat.min_eq_left (by omega)]
  show (intV l).take (l.length + 1 - 1) = intV l
  rw [Nat.add_sub_cancel, List.take_of_length_le (by rw [intV_len]; exact Nat.le_refl _)]
theorem ints_nats (b : Bytes) : intV (ints_ b) = Sco.nats b := by
  unfold intV ints_ Sco.nats
  rw [List.map_map]; rfl
section
variable {P : Program} {w : World} {K : PySem.W.Frag} {mg : Str → Option Value} {base : Heap}
/-! ### call_end -/
theorem get_int {l r : List Int} {i : Nat} {p : Int} (h : l.drop i = p :: r) : (intV l)[i]? = some (V.int p) := by
  unfold intV
  rw [List.getElem?_map]
  have : l[i]? = some p := by
    have := congrArg (fun q : List Int => q[0]?) h
    rw [List.getElem?_drop] at this
    exact this
  rw [this]; rfl
theorem sc_callEnd : FnScope ["calls", "at", "call"] ["calls", "at"] (defScope (top 97)) := ⟨rfl, rfl, rfl, by decide +kernel, rfl, by decide +kernel, by decide +kernel⟩
theorem bi_callEnd (D : DefAt K mg "call_end" (top 97)) : Binds K D.fd ["calls", "at"] [] := D.F.binds fun _ _ _ _ _ _ us hl => match us, hl with | [_, _], _ => rfl
theorem ok_callEnd (T : Tx w K mg) : FnOk P w K mg base CX0 1 T.f_call_end.f T.f_call_end.fd ["calls", "at"] (spCallEnd K) := by
  refine T.f_call_end.F.ok sc_callEnd (fun vs H Q E h => ?_) (fun cdv A outer s H vs Q E hr h => ?_)
  · obtain ⟨a, l, t, i, c, rfl, _⟩ := h
    rfl
  · obtain ⟨a, l, t, i, c, rfl, hA, hc, hlen, kS⟩ := h
    refine ⟨_, pss_cons (ps_set (i := 2) sc_callEnd.nd rfl (Or.inl rfl) (pe_ix ix_list (pv 0) (pv 1) (fun _ _ => rfl)))
      (pss_cons (ps_if (pt_cmpR op_in_seq (pv 2) (pe_tup (pa_cons (pe_ki T.k_READ) (pa_cons (pe_ki T.k_SAME) pa_nil))) rfl)
        (pss_one (ps_ret (pe_op op_add (pe_op op_add (pv 1) pe_int) (pe_ix ix_list (pv 0) (pe_op op_add (pv 1) pe_int) (fun _ _ => rfl))))) pss_nil)
      (pss_cons (ps_if (pt_cmpR op_eq (pv 2) (pe_ki T.k_PLACE) (nomark _)) (pss_one (ps_ret (pe_op op_add (pv 1) pe_int))) pss_nil)
      (pss_cons (ps_if (pt_cmpR op_eq (pv 2) (pe_ki T.k_SOUNDS) (nomark _)) (pss_one (ps_ret (pe_op op_add (pv 1) pe_int))) pss_nil)
      (pss_cons (ps_if (pt_cmpR op_in_seq (pv 2) (pe_tup (pa_cons (pe_ki T.k_FORM) (pa_cons (pe_ki T.k_COUNTS) (pa_cons (pe_ki T.k_BARS) pa_nil)))) rfl)
        (pss_one (ps_ret (pe_op op_add (pv 1) pe_int))) pss_nil)
      (pss_one ps_dead))))), ?_⟩
    have hw : ∀ p r, l.drop i = p :: r → l.length = i + (1 + r.length) := fun p r h => by
      have h1 := congrArg List.length h
      rw [List.length_drop, List.length_cons] at h1
      omega
    generalize hdi : l.drop i = li at hc
    cases hc with
    | read b _ hb =>
      have h2 := get_int hdi
      have h3 : l.drop (i + 1) = (b.length : Int) :: (ints_ b ++ t) := by rw [← List.drop_drop, hdi]; rfl
      have hl := hw _ _ hdi
      rw [List.length_cons, List.length_append] at hl
      have hib : (ints_ b).length = b.length := List.length_map ..
      refine ⟨_, rfl, _, rfl, a, _, _, _, rfl, rfl, hA, atI_nat h2, ?_⟩
      refine ⟨_, rfl, size_le (by decide), fun p np => ⟨p, _, rfl, .inr (SqT.of upd_same), rfl, rfl, _, rfl, ?_⟩⟩
      refine if_t rfl ⟨_, rfl, _, _, rfl, rfl, _, rfl, _, rfl, _, _, rfl, rfl, a, _, _, V.int (b.length : Int), rfl, rfl, (same_new np).seq hA, ?_, _, _, rfl, rfl, ?_⟩
      · exact atI_nat (j := i + 1) (get_int h3)
      · have : (i : Int) + 2 + (b.length : Int) = ((l.length - t.length : Nat) : Int) := by omega
        show Q (.int ((i : Int) + 2 + (b.length : Int))) _
        rw [this]
        exact kS _ (same_new np)
    | same b _ hb =>
      have h2 := get_int hdi
      have h3 : l.drop (i + 1) = (b.length : Int) :: (ints_ b ++ t) := by rw [← List.drop_drop, hdi]; rfl
      have hl := hw _ _ hdi
      rw [List.length_cons, List.length_append] at hl
      have hib : (ints_ b).length = b.length := List.length_map ..
      refine ⟨_, rfl, _, rfl, a, _, _, _, rfl, rfl, hA, atI_nat h2, ?_⟩
      refine ⟨_, rfl, size_le (by decide), fun p np => ⟨p, _, rfl, .inr (SqT.of upd_same), rfl, rfl, _, rfl, ?_⟩⟩
      refine if_t rfl ⟨_, rfl, _, _, rfl, rfl, _, rfl, _, rfl, _, _, rfl, rfl, a, _, _, V.int (b.length : Int), rfl, rfl, (same_new np).seq hA, ?_, _, _, rfl, rfl, ?_⟩
      · exact atI_nat (j := i + 1) (get_int h3)
      · have : (i : Int) + 2 + (b.length : Int) = ((l.length - t.length : Nat) : Int) := by omega
        show Q (.int ((i : Int) + 2 + (b.length : Int))) _
        rw [this]
        exact kS _ (same_new np)
    | form _ =>
      have h2 := get_int hdi
      have hl := hw _ _ hdi
      have : (i : Int) + 1 = ((l.length - t.length : Nat) : Int) := by omega
      refine ⟨_, rfl, _, rfl, a, _, _, _, rfl, rfl, hA, atI_nat h2, ?_⟩
      refine ⟨_, rfl, size_le (by decide), fun p np => ⟨p, _, rfl, .inr (SqT.of upd_same), rfl, rfl, _, rfl, ?_⟩⟩
      refine if_f rfl ⟨_, rfl, rfl, _, rfl, if_f (ne_int (by decide)) ⟨_, rfl, rfl, _, rfl, if_f (ne_int (by decide)) ⟨_, rfl, size_le (by decide), fun p2 np2 => ⟨p2, _, rfl, .inr (SqT.of upd_same), rfl, rfl, _, rfl, if_t rfl ⟨_, rfl, _, _, rfl, rfl, ?_⟩⟩⟩⟩⟩
      show Q (.int ((i : Int) + 1)) _
      rw [this]
      exact kS _ ((same_new np).trans (same_new np2))
    | counts _ =>
      have h2 := get_int hdi
      have hl := hw _ _ hdi
      have : (i : Int) + 1 = ((l.length - t.length : Nat) : Int) := by omega
      refine ⟨_, rfl, _, rfl, a, _, _, _, rfl, rfl, hA, atI_nat h2, ?_⟩
      refine ⟨_, rfl, size_le (by decide), fun p np => ⟨p, _, rfl, .inr (SqT.of upd_same), rfl, rfl, _, rfl, ?_⟩⟩
      refine if_f rfl ⟨_, rfl, rfl, _, rfl, if_f (ne_int (by decide)) ⟨_, rfl, rfl, _, rfl, if_f (ne_int (by decide)) ⟨_, rfl, size_le (by decide), fun p2 np2 => ⟨p2, _, rfl, .inr (SqT.of upd_same), rfl, rfl, _, rfl, if_t rfl ⟨_, rfl, _, _, rfl, rfl, ?_⟩⟩⟩⟩⟩
      show Q (.int ((i : Int) + 1)) _
      rw [this]
      exact kS _ ((same_new np).trans (same_new np2))
    | bars _ =>
      have h2 := get_int hdi
      have hl := hw _ _ hdi
      have : (i : Int) + 1 = ((l.length - t.length : Nat) : Int) := by omega
      refine ⟨_, rfl, _, rfl, a, _, _, _, rfl, rfl, hA, atI_nat h2, ?_⟩
      refine ⟨_, rfl, size_le (by decide), fun p np => ⟨p, _, rfl, .inr (SqT.of upd_same), rfl, rfl, _, rfl, ?_⟩⟩
      refine if_f rfl ⟨_, rfl, rfl, _, rfl, if_f (ne_int (by decide)) ⟨_, rfl, rfl, _, rfl, if_f (ne_int (by decide)) ⟨_, rfl, size_le (by decide), fun p2 np2 => ⟨p2, _, rfl, .inr (SqT.of upd_same), rfl, rfl, _, rfl, if_t rfl ⟨_, rfl, _, _, rfl, rfl, ?_⟩⟩⟩⟩⟩
      show Q (.int ((i : Int) + 1)) _
      rw [this]
      exact kS _ ((same_new np).trans (same_new np2))
    | sounds v _ =>
      have h2 := get_int hdi
      have hl := hw _ _ hdi
      rw [List.length_cons] at hl
      have : (i : Int) + 2 = ((l.length - t.length : Nat) : Int) := by omega
      refine ⟨_, rfl, _, rfl, a, _, _, _, rfl, rfl, hA, atI_nat h2, ?_⟩
      refine ⟨_, rfl, size_le (by decide), fun p np => ⟨p, _, rfl, .inr (SqT.of upd_same), rfl, rfl, _, rfl, ?_⟩⟩
      refine if_f rfl ⟨_, rfl, rfl, _, rfl, if_f (ne_int (by decide)) ⟨_, rfl, rfl, _, rfl, if_t (decide_eq_true rfl) ⟨_, rfl, _, _, rfl, rfl, ?_⟩⟩⟩
      show Q (.int ((i : Int) + 2)) _
      rw [this]
      exact kS _ (same_new np)
    | place n d _ =>
      have h2 := get_int hdi
      have hl := hw _ _ hdi
      rw [List.length_cons, List.length_cons] at hl
      have : (i : Int) + 3 = ((l.length - t.length : Nat) : Int) := by omega
      refine ⟨_, rfl, _, rfl, a, _, _, _, rfl, rfl, hA, atI_nat h2, ?_⟩
      refine ⟨_, rfl, size_le (by decide), fun p np => ⟨p, _, rfl, .inr (SqT.of upd_same), rfl, rfl, _, rfl, ?_⟩⟩
      refine if_f rfl ⟨_, rfl, rfl, _, rfl, if_t (decide_eq_true rfl) ⟨_, rfl, _, _, rfl, rfl, ?_⟩⟩
      show Q (.int ((i : Int) + 3)) _
      rw [this]
      exact kS _ (same_new np)
end
end Sco
namespace Sco
open PySem PySem.Spec PyProof.Rows L2 Sx62
theorem dF_a_read {x : V} : (dF x).lookup ("answer_read" : Str) = none := (lk_past (by decide +kernel)).trans rfl
theorem dF_a_form {x : V} : (dF x).lookup ("answer_form" : Str) = none := (lk_past (by decide +kernel)).trans rfl
theorem dF_a_counts {x : V} : (dF x).lookup ("answer_counts" : Str) = none := (lk_past (by decide +kernel)).trans rfl
theorem dF_a_sounds {x : V} : (dF x).lookup ("answer_sounds" : Str) = none := (lk_past (by decide +kernel)).trans rfl
theorem dF_a_bars {x : V} : (dF x).lookup ("answer_bars" : Str) = none := (lk_past (by decide +kernel)).trans rfl
theorem dF_a_same {x : V} : (dF x).lookup ("answer_same" : Str) = none := (lk_past (by decide +kernel)).trans rfl
theorem dF_a_place {x : V} : (dF x).lookup ("answer_place" : Str) = none := (lk_past (by decide +kernel)).trans rfl
section
variable {P : Program} {w : World} {K : PySem.W.Frag} {mg : Str → Option Value} {base : Heap}
/-! ### Desk.answer -/
theorem sc_answer : FnScope ["self", "call", "given"] ["self", "call", "given"] (defScope (inClass (top 98) 1)) := ⟨rfl, rfl, rfl, by decide +kernel, rfl, by decide +kernel, by decide +kernel⟩
theorem bi_answer (D : MethAt K C "answer" "Desk.answer" (inClass (top 98) 1)) : Binds K D.fd ["self", "call", "given"] [] := D.F.binds fun _ _ _ _ _ _ us hl => match us, hl with | [_, _, _], _ => rfl
theorem ok_answer (T : Tx w K mg) : FnOk P w K mg base CX0 12 T.m_Desk_answer.f T.m_Desk_answer.fd ["self", "call", "given"] (spAnswer T.c_Desk T.c_Score T.c_Voice T.c_Bar T.c_Event) := by
  have GR : FnOk P w K mg base CX0 11 _ _ _ (spARead T.c_Desk T.c_Score T.c_Voice T.c_Bar T.c_Event) := ok_aread T
  have GF : FnOk P w K mg base CX0 2 _ _ _ (spTell T.c_Desk T.c_Score T.c_Voice T.c_Bar T.c_Event formA) := ok_aform T
  have GC : FnOk P w K mg base CX0 2 _ _ _ (spTell T.c_Desk T.c_Score T.c_Voice T.c_Bar T.c_Event countsA) := ok_acounts T
  have GS : FnOk P w K mg base CX0 5 _ _ _ (spASounds T.c_Desk T.c_Score T.c_Voice T.c_Bar T.c_Event) := ok_asounds T
  have GB : FnOk P w K mg base CX0 5 _ _ _ (spTell T.c_Desk T.c_Score T.c_Voice T.c_Bar T.c_Event barsA) := ok_abars T
  have GM : FnOk P w K mg base CX0 11 _ _ _ (spASame T.c_Desk T.c_Score T.c_Voice T.c_Bar T.c_Event) := ok_asame T
  have GP : FnOk P w K mg base CX0 4 _ _ _ (spAPlace T.c_Desk T.c_Score T.c_Voice T.c_Bar T.c_Event) := ok_aplace T
  refine T.m_Desk_answer.F.ok sc_answer (fun vs H Q E h => ?_) (fun cdv A outer s H vs Q E hr h => ?_)
  · obtain ⟨d, g, p, rest, c, st, rfl, _⟩ := h
    rfl
  · obtain ⟨d, g, p, rest, c, st, rfl, hD, hg, hc, kS⟩ := h
    have hr2 : Room 2 _ := hr.mono (by decide)
    have hr4 : Room 4 _ := hr.mono (by decide)
    have hr5 : Room 5 _ := hr.mono (by decide)
    have hr11 : Room 11 _ := hr.mono (by decide)
    refine ⟨_, pss_cons (ps_if (pt_cmpR op_eq (pv 1) (pe_ki T.k_READ) (nomark _)) (pss_one (ps_ret (pe_meth (pv 0) T.cl_Desk T.m_Desk_answer_read.M GR hr11 (bi_aread _) .nil pass0 (pa_cons (pe_slice sl_list (pv 2) (po_some pe_int) po_none) pa_nil)))) pss_nil)
      (pss_cons (ps_if (pt_cmpR op_isN (pe_fld (pv 0) rfl) pe_non (nomark _)) (pss_one (ps_ret (pe_lst (pa_cons (pe_ki T.k_NO_SCORE) pa_nil)))) pss_nil)
      (pss_cons (ps_if (pt_cmpR op_eq (pv 1) (pe_ki T.k_FORM) (nomark _)) (pss_one (ps_ret (pe_meth0 (pv 0) T.cl_Desk T.m_Desk_answer_form.M GF hr2 (bi_aform _) .nil pass0))) pss_nil)
      (pss_cons (ps_if (pt_cmpR op_eq (pv 1) (pe_ki T.k_COUNTS) (nomark _)) (pss_one (ps_ret (pe_meth0 (pv 0) T.cl_Desk T.m_Desk_answer_counts.M GC hr2 (bi_acounts _) .nil pass0))) pss_nil)
      (pss_cons (ps_if (pt_cmpR op_eq (pv 1) (pe_ki T.k_SOUNDS) (nomark _)) (pss_one (ps_ret (pe_meth (pv 0) T.cl_Desk T.m_Desk_answer_sounds.M GS hr5 (bi_asounds _) .nil pass0 (pa_cons (pe_ix ix_list (pv 2) pe_int (fun _ _ => rfl)) pa_nil)))) pss_nil)
      (pss_cons (ps_if (pt_cmpR op_eq (pv 1) (pe_ki T.k_BARS) (nomark _)) (pss_one (ps_ret (pe_meth0 (pv 0) T.cl_Desk T.m_Desk_answer_bars.M GB hr5 (bi_abars _) .nil pass0))) pss_nil)
      (pss_cons (ps_if (pt_cmpR op_eq (pv 1) (pe_ki T.k_SAME) (nomark _)) (pss_one (ps_ret (pe_meth (pv 0) T.cl_Desk T.m_Desk_answer_same.M GM hr11 (bi_asame _) .nil pass0 (pa_cons (pe_slice sl_list (pv 2) (po_some pe_int) po_none) pa_nil)))) pss_nil)
      (pss_one (ps_ret (pe_meth (pv 0) T.cl_Desk T.m_Desk_answer_place.M GP hr4 (bi_aplace _) .nil pass0 (pa_cons (pe_ix ix_list (pv 2) pe_int (fun _ _ => rfl)) (pa_cons (pe_ix ix_list (pv 2) pe_int (fun _ _ => rfl)) pa_nil))))))))))), ?_⟩
    obtain ⟨dx, x, hd, hx⟩ := hD
    have hD : DeskAt T.c_Desk T.c_Score T.c_Voice T.c_Bar T.c_Event H d st := ⟨dx, x, hd, hx⟩
    cases hc with
    | read b _ hb =>
      refine ⟨_, rfl, rfl, _, rfl, if_t (decide_eq_true rfl) ?_⟩
      refine ⟨_, rfl, d, dx, _, rfl, hd, dF_a_read, _, rfl, _, rfl, g, _, rfl, SqL.of hg, fun g2 ng => ?_⟩
      rw [cut1_int, List.append_nil, ints_nats]
      have sg := same_new ng (o := .lst (Sco.nats b))
      exact ⟨d, g2, b, st, rfl, hD.same sg, upd_same, fun H' q b1 h1 h2 n1 => kS H' q ((But.of sg).trans b1) h1 h2 (none_back sg n1)⟩
    | form _ =>
      refine ⟨_, rfl, rfl, _, rfl, if_f (ne_int (by decide)) ?_⟩
      cases st with
      | none =>
        subst hx
        refine ⟨_, rfl, d, _, dx, _, _, rfl, hd, T.cl_Desk, T.n_Desk_score, dF_score, rfl, _, rfl, if_t rfl ?_⟩
        exact ⟨Nat.le_of_lt (size_lt (show 1 ≤ 4000 by decide)), fun q nq => kS _ q (But.of (same_new nq)) (hD.same (same_new nq)) upd_same nq⟩
      | some s =>
        obtain ⟨p, rfl, hS, good⟩ := hx
        refine ⟨_, rfl, d, _, dx, _, _, rfl, hd, T.cl_Desk, T.n_Desk_score, dF_score, rfl, _, rfl, if_f (decide_eq_false fun z => by cases z) ?_⟩
        refine ⟨_, rfl, rfl, _, rfl, if_t (decide_eq_true rfl) ?_⟩
        exact ⟨_, rfl, d, dx, _, rfl, hd, dF_a_form, d, s, rfl, hD, fun H' q s1 h1 n1 => kS H' q (But.of s1) (hD.same s1) h1 n1⟩
    | counts _ =>
      refine ⟨_, rfl, rfl, _, rfl, if_f (ne_int (by decide)) ?_⟩
      cases st with
      | none =>
        subst hx
        refine ⟨_, rfl, d, _, dx, _, _, rfl, hd, T.cl_Desk, T.n_Desk_score, dF_score, rfl, _, rfl, if_t rfl ?_⟩
        exact ⟨Nat.le_of_lt (size_lt (show 1 ≤ 4000 by decide)), fun q nq => kS _ q (But.of (same_new nq)) (hD.same (same_new nq)) upd_same nq⟩
      | some s =>
        obtain ⟨p, rfl, hS, good⟩ := hx
        refine ⟨_, rfl, d, _, dx, _, _, rfl, hd, T.cl_Desk, T.n_Desk_score, dF_score, rfl, _, rfl, if_f (decide_eq_false fun z => by cases z) ?_⟩
        refine ⟨_, rfl, rfl, _, rfl, if_f (ne_int (by decide)) ?_⟩
        refine ⟨_, rfl, rfl, _, rfl, if_t (decide_eq_true rfl) ?_⟩
        exact ⟨_, rfl, d, dx, _, rfl, hd, dF_a_counts, d, s, rfl, hD, fun H' q s1 h1 n1 => kS H' q (But.of s1) (hD.same s1) h1 n1⟩
    | sounds v _ =>
      refine ⟨_, rfl, rfl, _, rfl, if_f (ne_int (by decide)) ?_⟩
      cases st with
      | none =>
        subst hx
        refine ⟨_, rfl, d, _, dx, _, _, rfl, hd, T.cl_Desk, T.n_Desk_score, dF_score, rfl, _, rfl, if_t rfl ?_⟩
        exact ⟨Nat.le_of_lt (size_lt (show 1 ≤ 4000 by decide)), fun q nq => kS _ q (But.of (same_new nq)) (hD.same (same_new nq)) upd_same nq⟩
      | some s =>
        obtain ⟨p, rfl, hS, good⟩ := hx
        refine ⟨_, rfl, d, _, dx, _, _, rfl, hd, T.cl_Desk, T.n_Desk_score, dF_score, rfl, _, rfl, if_f (decide_eq_false fun z => by cases z) ?_⟩
        refine ⟨_, rfl, rfl, _, rfl, if_f (ne_int (by decide)) ?_⟩
        refine ⟨_, rfl, rfl, _, rfl, if_f (ne_int (by decide)) ?_⟩
        refine ⟨_, rfl, rfl, _, rfl, if_t (decide_eq_true rfl) ?_⟩
        exact ⟨_, rfl, d, dx, _, rfl, hd, dF_a_sounds, _, rfl, g, _, 0, V.int (v : Nat), rfl, rfl, SqL.of hg, atI_nat (j := 0) rfl, d, v, s, rfl, hD, fun H' q s1 h1 n1 => kS H' q (But.of s1) (hD.same s1) h1 n1⟩
    | bars _ =>
      refine ⟨_, rfl, rfl, _, rfl, if_f (ne_int (by decide)) ?_⟩
      cases st with
      | none =>
        subst hx
        refine ⟨_, rfl, d, _, dx, _, _, rfl, hd, T.cl_Desk, T.n_Desk_score, dF_score, rfl, _, rfl, if_t rfl ?_⟩
        exact ⟨Nat.le_of_lt (size_lt (show 1 ≤ 4000 by decide)), fun q nq => kS _ q (But.of (same_new nq)) (hD.same (same_new nq)) upd_same nq⟩
      | some s =>
        obtain ⟨p, rfl, hS, good⟩ := hx
        refine ⟨_, rfl, d, _, dx, _, _, rfl, hd, T.cl_Desk, T.n_Desk_score, dF_score, rfl, _, rfl, if_f (decide_eq_false fun z => by cases z) ?_⟩
        refine ⟨_, rfl, rfl, _, rfl, if_f (ne_int (by decide)) ?_⟩
        refine ⟨_, rfl, rfl, _, rfl, if_f (ne_int (by decide)) ?_⟩
        refine ⟨_, rfl, rfl, _, rfl, if_f (ne_int (by decide)) ?_⟩
        refine ⟨_, rfl, rfl, _, rfl, if_t (decide_eq_true rfl) ?_⟩
        exact ⟨_, rfl, d, dx, _, rfl, hd, dF_a_bars, d, s, rfl, hD, fun H' q s1 h1 n1 => kS H' q (But.of s1) (hD.same s1) h1 n1⟩
    | same b _ hb =>
      refine ⟨_, rfl, rfl, _, rfl, if_f (ne_int (by decide)) ?_⟩
      cases st with
      | none =>
        subst hx
        refine ⟨_, rfl, d, _, dx, _, _, rfl, hd, T.cl_Desk, T.n_Desk_score, dF_score, rfl, _, rfl, if_t rfl ?_⟩
        exact ⟨Nat.le_of_lt (size_lt (show 1 ≤ 4000 by decide)), fun q nq => kS _ q (But.of (same_new nq)) (hD.same (same_new nq)) upd_same nq⟩
      | some s =>
        obtain ⟨p, rfl, hS, good⟩ := hx
        refine ⟨_, rfl, d, _, dx, _, _, rfl, hd, T.cl_Desk, T.n_Desk_score, dF_score, rfl, _, rfl, if_f (decide_eq_false fun z => by cases z) ?_⟩
        refine ⟨_, rfl, rfl, _, rfl, if_f (ne_int (by decide)) ?_⟩
        refine ⟨_, rfl, rfl, _, rfl, if_f (ne_int (by decide)) ?_⟩
        refine ⟨_, rfl, rfl, _, rfl, if_f (ne_int (by decide)) ?_⟩
        refine ⟨_, rfl, rfl, _, rfl, if_f (ne_int (by decide)) ?_⟩
        refine ⟨_, rfl, rfl, _, rfl, if_t (decide_eq_true rfl) ?_⟩
        refine ⟨_, rfl, d, dx, _, rfl, hd, dF_a_same, _, rfl, _, rfl, g, _, rfl, SqL.of hg, fun g2 ng => ?_⟩
        rw [cut1_int, List.append_nil, ints_nats]
        have sg := same_new ng (o := .lst (Sco.nats b))
        exact ⟨d, g2, b, s, rfl, hD.same sg, upd_same, fun H' q s1 h1 n1 => kS H' q (But.of (sg.trans s1)) (hD.same (sg.trans s1)) h1 (none_back sg n1)⟩
    | place n m _ =>
      refine ⟨_, rfl, rfl, _, rfl, if_f (ne_int (by decide)) ?_⟩
      cases st with
      | none =>
        subst hx
        refine ⟨_, rfl, d, _, dx, _, _, rfl, hd, T.cl_Desk, T.n_Desk_score, dF_score, rfl, _, rfl, if_t rfl ?_⟩
        exact ⟨Nat.le_of_lt (size_lt (show 1 ≤ 4000 by decide)), fun q nq => kS _ q (But.of (same_new nq)) (hD.same (same_new nq)) upd_same nq⟩
      | some s =>
        obtain ⟨p, rfl, hS, good⟩ := hx
        refine ⟨_, rfl, d, _, dx, _, _, rfl, hd, T.cl_Desk, T.n_Desk_score, dF_score, rfl, _, rfl, if_f (decide_eq_false fun z => by cases z) ?_⟩
        refine ⟨_, rfl, rfl, _, rfl, if_f (ne_int (by decide)) ?_⟩
        refine ⟨_, rfl, rfl, _, rfl, if_f (ne_int (by decide)) ?_⟩
        refine ⟨_, rfl, rfl, _, rfl, if_f (ne_int (by decide)) ?_⟩
        refine ⟨_, rfl, rfl, _, rfl, if_f (ne_int (by decide)) ?_⟩
        refine ⟨_, rfl, rfl, _, rfl, if_f (ne_int (by decide)) ?_⟩
        exact ⟨_, rfl, d, dx, _, rfl, hd, dF_a_place, _, rfl, g, _, 0, V.int (n : Nat), rfl, rfl, SqL.of hg, atI_nat (j := 0) rfl, _, rfl, g, _, 1, V.int (m : Nat), rfl, rfl, SqL.of hg, atI_nat (j := 1) rfl, d, n, m, s, rfl, hD, fun H' q s1 h1 n1 => kS H' q (But.of s1) (hD.same s1) h1 n1⟩
/-! ### answers, whole -/
theorem ok_all (T : Tx w K mg) : FnOk P w K mg base CX0 13 T.f_answers.f T.f_answers.fd ["calls"] (spAns K) := ok_ans T (bi_callEnd _) (bi_answer _) (ok_callEnd T) (ok_answer T)
theorem bi_ans (D : DefAt K mg "answers" (top 96)) : Binds K D.fd ["calls"] [] := D.F.binds fun _ _ _ _ _ _ us hl => match us, hl with | [_], _ => rfl
end
end Sco
namespace Sco
open PySem PySem.Spec PyProof.Rows L2 Sx62
theorem end_of {P : Program} {w : World} {K : PySem.W.Frag} {mg : Str → Option Value} {fa : Addr} (T : Tx w K mg) (hmg : mg "answers" = some (.ref fa)) :
    ∃ fd : FuncData, (∀ (s : Shared) (us : List Value), us.length = (["calls"] : List Str).length → BindsTo s fd ⟨us, []⟩ ((["calls"] : List Str).zip us)) ∧ ∀ base : Heap, K.In base → base.Ns mainGlobals mg → FnOk P w K mg base CX0 13 fa fd ["calls"] (spAns K) := by
  have e := hmg.symm.trans T.f_answers.g
  cases e
  refine ⟨T.f_answers.fd, fun s us hu => ?_, fun base _ _ => ok_all T⟩
  obtain ⟨oc, od, kV, doc, pm, an, cdv, ct, osl, e, lk, hcd⟩ := T.f_answers.F.ex
  rw [e]
  match us, hu with
  | [_], _ => exact .of_eq rfl
theorem asked_len (a : PySem.W.Codec.denoteAll PySem.Challenge.rw_scoretexts_s01_answers.args) (h : PySem.W.Codec.withinAll PySem.Challenge.rw_scoretexts_s01_answers.args a = true) : List.length (α := Int) a.1 ≤ 100000 := by
  have h1 : ((PySem.W.Codec.inNat 0 30000 (List.length (α := Int) a.1) && List.all (α := Int) a.1 (PySem.W.Codec.inInt 0 4294967295)) && true) = true := h
  rw [Bool.and_true, Bool.and_eq_true] at h1
  have h2 := h1.1
  unfold PySem.W.Codec.inNat at h2
  simp only [Bool.and_eq_true, decide_eq_true_eq] at h2
  omega
end Sco
open PySem PySem.W PyProof.Rows
set_option maxRecDepth 100000 in
set_option maxHeartbeats 40000000 in
theorem PySem.Challenge.cw_scoretexts_s01_answers_holds : PySem.Challenge.rw_scoretexts_s01_answers.Holds := by
  w_on; k_headS; (case hw => exact ⟨[.list [.int 1]], by decide +kernel, by decide +kernel⟩)
  k_fillS
  refine L2.walk_specK (r := PySem.Challenge.rw_scoretexts_s01_answers) (k := 13) (CX := L2.CX0) (ps := ["calls"]) (sp := Sco.spAns) (by decide +kernel) rfl rfl ⟨rfl, by decide, by decide⟩ (fun w h Y => PySem.W.kIn_of Y) ?F ?S (fun _ _ _ _ z => z)
  case F =>
    intro w mg fa h Y KX G hmg
    have b_zip : mg "zip" = none := by
      refine' Sco.mk_none KX G ?a
      (case a => k_is)
    have b_enumerate : mg "enumerate" = none := by
      refine' Sco.mk_none KX G ?a
      (case a => k_is)
    have b_int : mg "int" = none := by
      refine' Sco.mk_none KX G ?a
      (case a => k_is)
    have b_sorted : mg "sorted" = none := by
      refine' Sco.mk_none KX G ?a
      (case a => k_is)
    have b_reversed : mg "reversed" = none := by
      refine' Sco.mk_none KX G ?a
      (case a => k_is)
    have b_len : mg "len" = none := by
      refine' Sco.mk_none KX G ?a
      (case a => k_is)
    have b_all : mg "all" = none := by
      refine' Sco.mk_none KX G ?a
      (case a => k_is)
    have b_ord : mg "ord" = none := by
      refine' Sco.mk_none KX G ?a
      (case a => k_is)
    have k_BAD_BYTE : ∃ t, mg "BAD_BYTE" = some (.int 1 t) := by
      refine' Sco.mk_int KX G ?a
      (case a => k_is)
    have k_BAD_WORD : ∃ t, mg "BAD_WORD" = some (.int 2 t) := by
      refine' Sco.mk_int KX G ?a
      (case a => k_is)
    have k_TOO_DEEP : ∃ t, mg "TOO_DEEP" = some (.int 3 t) := by
      refine' Sco.mk_int KX G ?a
      (case a => k_is)
    have k_BAD_NAME : ∃ t, mg "BAD_NAME" = some (.int 4 t) := by
      refine' Sco.mk_int KX G ?a
      (case a => k_is)
    have k_BAD_LENGTH : ∃ t, mg "BAD_LENGTH" = some (.int 5 t) := by
      refine' Sco.mk_int KX G ?a
      (case a => k_is)
    have k_BAD_TIE : ∃ t, mg "BAD_TIE" = some (.int 6 t) := by
      refine' Sco.mk_int KX G ?a
      (case a => k_is)
    have k_UNLIKE_BAR : ∃ t, mg "UNLIKE_BAR" = some (.int 7 t) := by
      refine' Sco.mk_int KX G ?a
      (case a => k_is)
    have k_WHOLE_NOTE : ∃ t, mg "WHOLE_NOTE" = some (.int 4096770048000 t) := by
      refine' Sco.mk_int KX G ?a
      (case a => k_is)
    have q_QUARTERS : ∃ q, mg "QUARTERS" = some (.ref q) ∧ ∀ H, L2.SqT (PySem.Challenge.cw_scoretexts_s01_answers_holds.heap_1 w.params) H q [.int 4, .int 6, .int 7] := by
      refine' Sco.mk_tup [4, 6, 7] KX G ?a ?lk ?ok ?sz
      (case a => k_is); (case lk => k_is)
      (case ok => exact ⟨⟨_, rfl⟩, ⟨_, rfl⟩, ⟨_, rfl⟩, trivial⟩)
      (case sz => decide)
    obtain ⟨a_QUARTERS, k_QUARTERS, t_QUARTERS⟩ := q_QUARTERS
    have k_ALPHABET : ∃ t, mg "ALPHABET" = some (.str "abcdefghijklmnopqrstuvwxyz" t) := by
      refine' Sco.mk_str KX G ?a
      (case a => k_is)
    have k_LETTERS : ∃ t, mg "LETTERS" = some (.str "cdefgab" t) := by
      refine' Sco.mk_str KX G ?a
      (case a => k_is)
    have q_ALTERATIONS : ∃ d, mg "ALTERATIONS" = some (.ref d) ∧ (∃ es n, L2.KDict (PySem.Challenge.cw_scoretexts_s01_answers_holds.heap_1 w.params) w d es n) ∧ Sco.GivesAt (PySem.Challenge.cw_scoretexts_s01_answers_holds.heap_1 w.params) d (List.lookup · [(("bb" : Str), L2.V.int 0), (("b" : Str), L2.V.int 1), (("" : Str), L2.V.int 2), (("#" : Str), L2.V.int 3), (("##" : Str), L2.V.int 4)]) := by
      refine' Sco.mk_dict [(("bb" : Str), (0 : Int)), (("b" : Str), (1 : Int)), (("" : Str), (2 : Int)), (("#" : Str), (3 : Int)), (("##" : Str), (4 : Int))] KX G ?a ?lk ?ok ?lo
      (case a => k_is); (case lk => k_is)
      (case ok => exact ⟨⟨rfl, ⟨_, rfl⟩, _, rfl⟩, ⟨rfl, ⟨_, rfl⟩, _, rfl⟩, ⟨rfl, ⟨_, rfl⟩, _, rfl⟩, ⟨rfl, ⟨_, rfl⟩, _, rfl⟩, ⟨rfl, ⟨_, rfl⟩, _, rfl⟩, trivial⟩)
      (case lo => decide)
    obtain ⟨a_ALTERATIONS, k_ALTERATIONS, d_ALTERATIONS, v_ALTERATIONS⟩ := q_ALTERATIONS
    have q_KINDS : ∃ d, mg "KINDS" = some (.ref d) ∧ (∃ es n, L2.KDict (PySem.Challenge.cw_scoretexts_s01_answers_holds.heap_1 w.params) w d es n) ∧ Sco.GivesAt (PySem.Challenge.cw_scoretexts_s01_answers_holds.heap_1 w.params) d (List.lookup · [(("1" : Str), L2.V.int 1), (("2" : Str), L2.V.int 2), (("4" : Str), L2.V.int 4), (("8" : Str), L2.V.int 8), (("16" : Str), L2.V.int 16), (("32" : Str), L2.V.int 32), (("64" : Str), L2.V.int 64)]) := by
      refine' Sco.mk_dict [(("1" : Str), (1 : Int)), (("2" : Str), (2 : Int)), (("4" : Str), (4 : Int)), (("8" : Str), (8 : Int)), (("16" : Str), (16 : Int)), (("32" : Str), (32 : Int)), (("64" : Str), (64 : Int))] KX G ?a ?lk ?ok ?lo
      (case a => k_is); (case lk => k_is)
      (case ok => exact ⟨⟨rfl, ⟨_, rfl⟩, _, rfl⟩, ⟨rfl, ⟨_, rfl⟩, _, rfl⟩, ⟨rfl, ⟨_, rfl⟩, _, rfl⟩, ⟨rfl, ⟨_, rfl⟩, _, rfl⟩, ⟨rfl, ⟨_, rfl⟩, _, rfl⟩, ⟨rfl, ⟨_, rfl⟩, _, rfl⟩, ⟨rfl, ⟨_, rfl⟩, _, rfl⟩, trivial⟩)
      (case lo => decide)
    obtain ⟨a_KINDS, k_KINDS, d_KINDS, v_KINDS⟩ := q_KINDS
    have q_METRE_PARTS : ∃ d, mg "METRE_PARTS" = some (.ref d) ∧ (∃ es n, L2.KDict (PySem.Challenge.cw_scoretexts_s01_answers_holds.heap_1 w.params) w d es n) ∧ Sco.GivesAt (PySem.Challenge.cw_scoretexts_s01_answers_holds.heap_1 w.params) d (List.lookup · [(("1" : Str), L2.V.int 1), (("2" : Str), L2.V.int 2), (("4" : Str), L2.V.int 4), (("8" : Str), L2.V.int 8), (("16" : Str), L2.V.int 16), (("32" : Str), L2.V.int 32)]) := by
      refine' Sco.mk_dict [(("1" : Str), (1 : Int)), (("2" : Str), (2 : Int)), (("4" : Str), (4 : Int)), (("8" : Str), (8 : Int)), (("16" : Str), (16 : Int)), (("32" : Str), (32 : Int))] KX G ?a ?lk ?ok ?lo
      (case a => k_is); (case lk => k_is)
      (case ok => exact ⟨⟨rfl, ⟨_, rfl⟩, _, rfl⟩, ⟨rfl, ⟨_, rfl⟩, _, rfl⟩, ⟨rfl, ⟨_, rfl⟩, _, rfl⟩, ⟨rfl, ⟨_, rfl⟩, _, rfl⟩, ⟨rfl, ⟨_, rfl⟩, _, rfl⟩, ⟨rfl, ⟨_, rfl⟩, _, rfl⟩, trivial⟩)
      (case lo => decide)
    obtain ⟨a_METRE_PARTS, k_METRE_PARTS, d_METRE_PARTS, v_METRE_PARTS⟩ := q_METRE_PARTS
    have k_MOST_PARTS : ∃ t, mg "MOST_PARTS" = some (.int 32 t) := by
      refine' Sco.mk_int KX G ?a
      (case a => k_is)
    have k_MOST_KEY : ∃ t, mg "MOST_KEY" = some (.int 7 t) := by
      refine' Sco.mk_int KX G ?a
      (case a => k_is)
    have k_MOST_NAME : ∃ t, mg "MOST_NAME" = some (.int 8 t) := by
      refine' Sco.mk_int KX G ?a
      (case a => k_is)
    have k_MOST_DIGITS : ∃ t, mg "MOST_DIGITS" = some (.int 3 t) := by
      refine' Sco.mk_int KX G ?a
      (case a => k_is)
    have k_MOST_DOTS : ∃ t, mg "MOST_DOTS" = some (.int 2 t) := by
      refine' Sco.mk_int KX G ?a
      (case a => k_is)
    have k_MOST_VOICES : ∃ t, mg "MOST_VOICES" = some (.int 4 t) := by
      refine' Sco.mk_int KX G ?a
      (case a => k_is)
    have k_LEAST_PITCHES : ∃ t, mg "LEAST_PITCHES" = some (.int 2 t) := by
      refine' Sco.mk_int KX G ?a
      (case a => k_is)
    have k_MOST_PITCHES : ∃ t, mg "MOST_PITCHES" = some (.int 6 t) := by
      refine' Sco.mk_int KX G ?a
      (case a => k_is)
    have k_MOST_DEPTH : ∃ t, mg "MOST_DEPTH" = some (.int 3 t) := by
      refine' Sco.mk_int KX G ?a
      (case a => k_is)
    have k_LINE_END : ∃ t, mg "LINE_END" = some (.int 10 t) := by
      refine' Sco.mk_int KX G ?a
      (case a => k_is)
    have k_BLANK : ∃ t, mg "BLANK" = some (.int 32 t) := by
      refine' Sco.mk_int KX G ?a
      (case a => k_is)
    have k_LAST_BYTE : ∃ t, mg "LAST_BYTE" = some (.int 126 t) := by
      refine' Sco.mk_int KX G ?a
      (case a => k_is)
    have k_SIGNS : ∃ t, mg "SIGNS" = some (.str "abcdefghijklmnopqrstuvwxyz0123456789/.~#[]{}:|-" t) := by
      refine' Sco.mk_str KX G ?a
      (case a => k_is)
    have k_OTHER : ∃ t, mg "OTHER" = some (.str "?" t) := by
      refine' Sco.mk_str KX G ?a
      (case a => k_is)
    have k_READ : ∃ t, mg "READ" = some (.int 0 t) := by
      refine' Sco.mk_int KX G ?a
      (case a => k_is)
    have k_FORM : ∃ t, mg "FORM" = some (.int 1 t) := by
      refine' Sco.mk_int KX G ?a
      (case a => k_is)
    have k_COUNTS : ∃ t, mg "COUNTS" = some (.int 2 t) := by
      refine' Sco.mk_int KX G ?a
      (case a => k_is)
    have k_SOUNDS : ∃ t, mg "SOUNDS" = some (.int 3 t) := by
      refine' Sco.mk_int KX G ?a
      (case a => k_is)
    have k_BARS : ∃ t, mg "BARS" = some (.int 4 t) := by
      refine' Sco.mk_int KX G ?a
      (case a => k_is)
    have k_SAME : ∃ t, mg "SAME" = some (.int 5 t) := by
      refine' Sco.mk_int KX G ?a
      (case a => k_is)
    have k_PLACE : ∃ t, mg "PLACE" = some (.int 6 t) := by
      refine' Sco.mk_int KX G ?a
      (case a => k_is)
    have k_NO_SCORE : ∃ t, mg "NO_SCORE" = some (.int (-1) t) := by
      refine' Sco.mk_int KX G ?a
      (case a => k_is)
    have k_NO_VOICE : ∃ t, mg "NO_VOICE" = some (.int (-2) t) := by
      refine' Sco.mk_int KX G ?a
      (case a => k_is)
    have k_NO_TIME : ∃ t, mg "NO_TIME" = some (.int (-2) t) := by
      refine' Sco.mk_int KX G ?a
      (case a => k_is)
    have k_BEHIND_END : ∃ t, mg "BEHIND_END" = some (.int (-4) t) := by
      refine' Sco.mk_int KX G ?a
      (case a => k_is)
    have k_FAULTY_TEXT : ∃ t, mg "FAULTY_TEXT" = some (.int (-6) t) := by
      refine' Sco.mk_int KX G ?a
      (case a => k_is)
    have k_TOO_LONG : ∃ t, mg "TOO_LONG" = some (.int (-8) t) := by
      refine' Sco.mk_int KX G ?a
      (case a => k_is)
    have k_MOST_BYTES : ∃ t, mg "MOST_BYTES" = some (.int 1500 t) := by
      refine' Sco.mk_int KX G ?a
      (case a => k_is)
    have k_MOST_OF_A_TIME : ∃ t, mg "MOST_OF_A_TIME" = some (.int 1000000 t) := by
      refine' Sco.mk_int KX G ?a
      (case a => k_is)
    have f_check_score : Nonempty (Sco.DefAt (PySem.Challenge.cw_scoretexts_s01_answers_holds.heap_1 w.params) mg "check_score" (Sco.top 10)) := by
      refine' Sco.mk_def KX G ?a ?l ?c ?k
      (case a => k_is); (case l => k_is); (case c => k_is); (case k => k_is)
    obtain ⟨f_check_score⟩ := f_check_score
    have f_check_lengths : Nonempty (Sco.DefAt (PySem.Challenge.cw_scoretexts_s01_answers_holds.heap_1 w.params) mg "check_lengths" (Sco.top 11)) := by
      refine' Sco.mk_def KX G ?a ?l ?c ?k
      (case a => k_is); (case l => k_is); (case c => k_is); (case k => k_is)
    obtain ⟨f_check_lengths⟩ := f_check_lengths
    have f_check_ties : Nonempty (Sco.DefAt (PySem.Challenge.cw_scoretexts_s01_answers_holds.heap_1 w.params) mg "check_ties" (Sco.top 12)) := by
      refine' Sco.mk_def KX G ?a ?l ?c ?k
      (case a => k_is); (case l => k_is); (case c => k_is); (case k => k_is)
    obtain ⟨f_check_ties⟩ := f_check_ties
    have f_check_fit : Nonempty (Sco.DefAt (PySem.Challenge.cw_scoretexts_s01_answers_holds.heap_1 w.params) mg "check_fit" (Sco.top 13)) := by
      refine' Sco.mk_def KX G ?a ?l ?c ?k
      (case a => k_is); (case l => k_is); (case c => k_is); (case k => k_is)
    obtain ⟨f_check_fit⟩ := f_check_fit
    have f_dotted_length : Nonempty (Sco.DefAt (PySem.Challenge.cw_scoretexts_s01_answers_holds.heap_1 w.params) mg "dotted_length" (Sco.top 22)) := by
      refine' Sco.mk_def KX G ?a ?l ?c ?k
      (case a => k_is); (case l => k_is); (case c => k_is); (case k => k_is)
    obtain ⟨f_dotted_length⟩ := f_dotted_length
    have f_parts_length : Nonempty (Sco.DefAt (PySem.Challenge.cw_scoretexts_s01_answers_holds.heap_1 w.params) mg "parts_length" (Sco.top 23)) := by
      refine' Sco.mk_def KX G ?a ?l ?c ?k
      (case a => k_is); (case l => k_is); (case c => k_is); (case k => k_is)
    obtain ⟨f_parts_length⟩ := f_parts_length
    have f_length_in_tuplets : Nonempty (Sco.DefAt (PySem.Challenge.cw_scoretexts_s01_answers_holds.heap_1 w.params) mg "length_in_tuplets" (Sco.top 24)) := by
      refine' Sco.mk_def KX G ?a ?l ?c ?k
      (case a => k_is); (case l => k_is); (case c => k_is); (case k => k_is)
    obtain ⟨f_length_in_tuplets⟩ := f_length_in_tuplets
    have f_fraction : Nonempty (Sco.DefAt (PySem.Challenge.cw_scoretexts_s01_answers_holds.heap_1 w.params) mg "fraction" (Sco.top 25)) := by
      refine' Sco.mk_def KX G ?a ?l ?c ?k
      (case a => k_is); (case l => k_is); (case c => k_is); (case k => k_is)
    obtain ⟨f_fraction⟩ := f_fraction
    have f_lowest_terms : Nonempty (Sco.DefAt (PySem.Challenge.cw_scoretexts_s01_answers_holds.heap_1 w.params) mg "lowest_terms" (Sco.top 26)) := by
      refine' Sco.mk_def KX G ?a ?l ?c ?k
      (case a => k_is); (case l => k_is); (case c => k_is); (case k => k_is)
    obtain ⟨f_lowest_terms⟩ := f_lowest_terms
    have f_common_divisor : Nonempty (Sco.DefAt (PySem.Challenge.cw_scoretexts_s01_answers_holds.heap_1 w.params) mg "common_divisor" (Sco.top 27)) := by
      refine' Sco.mk_def KX G ?a ?l ?c ?k
      (case a => k_is); (case l => k_is); (case c => k_is); (case k => k_is)
    obtain ⟨f_common_divisor⟩ := f_common_divisor
    have f_number_within : Nonempty (Sco.DefAt (PySem.Challenge.cw_scoretexts_s01_answers_holds.heap_1 w.params) mg "number_within" (Sco.top 39)) := by
      refine' Sco.mk_def KX G ?a ?l ?c ?k
      (case a => k_is); (case l => k_is); (case c => k_is); (case k => k_is)
    obtain ⟨f_number_within⟩ := f_number_within
    have f_metre_length : Nonempty (Sco.DefAt (PySem.Challenge.cw_scoretexts_s01_answers_holds.heap_1 w.params) mg "metre_length" (Sco.top 40)) := by
      refine' Sco.mk_def KX G ?a ?l ?c ?k
      (case a => k_is); (case l => k_is); (case c => k_is); (case k => k_is)
    obtain ⟨f_metre_length⟩ := f_metre_length
    have f_is_key : Nonempty (Sco.DefAt (PySem.Challenge.cw_scoretexts_s01_answers_holds.heap_1 w.params) mg "is_key" (Sco.top 41)) := by
      refine' Sco.mk_def KX G ?a ?l ?c ?k
      (case a => k_is); (case l => k_is); (case c => k_is); (case k => k_is)
    obtain ⟨f_is_key⟩ := f_is_key
    have f_is_name : Nonempty (Sco.DefAt (PySem.Challenge.cw_scoretexts_s01_answers_holds.heap_1 w.params) mg "is_name" (Sco.top 42)) := by
      refine' Sco.mk_def KX G ?a ?l ?c ?k
      (case a => k_is); (case l => k_is); (case c => k_is); (case k => k_is)
    obtain ⟨f_is_name⟩ := f_is_name
    have f_tuplet_of : Nonempty (Sco.DefAt (PySem.Challenge.cw_scoretexts_s01_answers_holds.heap_1 w.params) mg "tuplet_of" (Sco.top 43)) := by
      refine' Sco.mk_def KX G ?a ?l ?c ?k
      (case a => k_is); (case l => k_is); (case c => k_is); (case k => k_is)
    obtain ⟨f_tuplet_of⟩ := f_tuplet_of
    have f_pitch_of : Nonempty (Sco.DefAt (PySem.Challenge.cw_scoretexts_s01_answers_holds.heap_1 w.params) mg "pitch_of" (Sco.top 44)) := by
      refine' Sco.mk_def KX G ?a ?l ?c ?k
      (case a => k_is); (case l => k_is); (case c => k_is); (case k => k_is)
    obtain ⟨f_pitch_of⟩ := f_pitch_of
    have f_length_of : Nonempty (Sco.DefAt (PySem.Challenge.cw_scoretexts_s01_answers_holds.heap_1 w.params) mg "length_of" (Sco.top 45)) := by
      refine' Sco.mk_def KX G ?a ?l ?c ?k
      (case a => k_is); (case l => k_is); (case c => k_is); (case k => k_is)
    obtain ⟨f_length_of⟩ := f_length_of
    have f_chord_end_of : Nonempty (Sco.DefAt (PySem.Challenge.cw_scoretexts_s01_answers_holds.heap_1 w.params) mg "chord_end_of" (Sco.top 46)) := by
      refine' Sco.mk_def KX G ?a ?l ?c ?k
      (case a => k_is); (case l => k_is); (case c => k_is); (case k => k_is)
    obtain ⟨f_chord_end_of⟩ := f_chord_end_of
    have f_note_or_rest_of : Nonempty (Sco.DefAt (PySem.Challenge.cw_scoretexts_s01_answers_holds.heap_1 w.params) mg "note_or_rest_of" (Sco.top 47)) := by
      refine' Sco.mk_def KX G ?a ?l ?c ?k
      (case a => k_is); (case l => k_is); (case c => k_is); (case k => k_is)
    obtain ⟨f_note_or_rest_of⟩ := f_note_or_rest_of
    have f_read_words : Nonempty (Sco.DefAt (PySem.Challenge.cw_scoretexts_s01_answers_holds.heap_1 w.params) mg "read_words" (Sco.top 54)) := by
      refine' Sco.mk_def KX G ?a ?l ?c ?k
      (case a => k_is); (case l => k_is); (case c => k_is); (case k => k_is)
    obtain ⟨f_read_words⟩ := f_read_words
    have f_read_key : Nonempty (Sco.DefAt (PySem.Challenge.cw_scoretexts_s01_answers_holds.heap_1 w.params) mg "read_key" (Sco.top 55)) := by
      refine' Sco.mk_def KX G ?a ?l ?c ?k
      (case a => k_is); (case l => k_is); (case c => k_is); (case k => k_is)
    obtain ⟨f_read_key⟩ := f_read_key
    have f_read_voice : Nonempty (Sco.DefAt (PySem.Challenge.cw_scoretexts_s01_answers_holds.heap_1 w.params) mg "read_voice" (Sco.top 56)) := by
      refine' Sco.mk_def KX G ?a ?l ?c ?k
      (case a => k_is); (case l => k_is); (case c => k_is); (case k => k_is)
    obtain ⟨f_read_voice⟩ := f_read_voice
    have f_read_name : Nonempty (Sco.DefAt (PySem.Challenge.cw_scoretexts_s01_answers_holds.heap_1 w.params) mg "read_name" (Sco.top 57)) := by
      refine' Sco.mk_def KX G ?a ?l ?c ?k
      (case a => k_is); (case l => k_is); (case c => k_is); (case k => k_is)
    obtain ⟨f_read_name⟩ := f_read_name
    have f_read_bar : Nonempty (Sco.DefAt (PySem.Challenge.cw_scoretexts_s01_answers_holds.heap_1 w.params) mg "read_bar" (Sco.top 58)) := by
      refine' Sco.mk_def KX G ?a ?l ?c ?k
      (case a => k_is); (case l => k_is); (case c => k_is); (case k => k_is)
    obtain ⟨f_read_bar⟩ := f_read_bar
    have f_begin_tuplet : Nonempty (Sco.DefAt (PySem.Challenge.cw_scoretexts_s01_answers_holds.heap_1 w.params) mg "begin_tuplet" (Sco.top 59)) := by
      refine' Sco.mk_def KX G ?a ?l ?c ?k
      (case a => k_is); (case l => k_is); (case c => k_is); (case k => k_is)
    obtain ⟨f_begin_tuplet⟩ := f_begin_tuplet
    have f_read_event : Nonempty (Sco.DefAt (PySem.Challenge.cw_scoretexts_s01_answers_holds.heap_1 w.params) mg "read_event" (Sco.top 60)) := by
      refine' Sco.mk_def KX G ?a ?l ?c ?k
      (case a => k_is); (case l => k_is); (case c => k_is); (case k => k_is)
    obtain ⟨f_read_event⟩ := f_read_event
    have f_read_chord : Nonempty (Sco.DefAt (PySem.Challenge.cw_scoretexts_s01_answers_holds.heap_1 w.params) mg "read_chord" (Sco.top 61)) := by
      refine' Sco.mk_def KX G ?a ?l ?c ?k
      (case a => k_is); (case l => k_is); (case c => k_is); (case k => k_is)
    obtain ⟨f_read_chord⟩ := f_read_chord
    have f_read_pitches : Nonempty (Sco.DefAt (PySem.Challenge.cw_scoretexts_s01_answers_holds.heap_1 w.params) mg "read_pitches" (Sco.top 62)) := by
      refine' Sco.mk_def KX G ?a ?l ?c ?k
      (case a => k_is); (case l => k_is); (case c => k_is); (case k => k_is)
    obtain ⟨f_read_pitches⟩ := f_read_pitches
    have f_one_form : Nonempty (Sco.DefAt (PySem.Challenge.cw_scoretexts_s01_answers_holds.heap_1 w.params) mg "one_form" (Sco.top 64)) := by
      refine' Sco.mk_def KX G ?a ?l ?c ?k
      (case a => k_is); (case l => k_is); (case c => k_is); (case k => k_is)
    obtain ⟨f_one_form⟩ := f_one_form
    have f_voice_counts : Nonempty (Sco.DefAt (PySem.Challenge.cw_scoretexts_s01_answers_holds.heap_1 w.params) mg "voice_counts" (Sco.top 65)) := by
      refine' Sco.mk_def KX G ?a ?l ?c ?k
      (case a => k_is); (case l => k_is); (case c => k_is); (case k => k_is)
    obtain ⟨f_voice_counts⟩ := f_voice_counts
    have f_voice_sounds : Nonempty (Sco.DefAt (PySem.Challenge.cw_scoretexts_s01_answers_holds.heap_1 w.params) mg "voice_sounds" (Sco.top 66)) := by
      refine' Sco.mk_def KX G ?a ?l ?c ?k
      (case a => k_is); (case l => k_is); (case c => k_is); (case k => k_is)
    obtain ⟨f_voice_sounds⟩ := f_voice_sounds
    have f_lasting_lengths : Nonempty (Sco.DefAt (PySem.Challenge.cw_scoretexts_s01_answers_holds.heap_1 w.params) mg "lasting_lengths" (Sco.top 67)) := by
      refine' Sco.mk_def KX G ?a ?l ?c ?k
      (case a => k_is); (case l => k_is); (case c => k_is); (case k => k_is)
    obtain ⟨f_lasting_lengths⟩ := f_lasting_lengths
    have f_score_bars : Nonempty (Sco.DefAt (PySem.Challenge.cw_scoretexts_s01_answers_holds.heap_1 w.params) mg "score_bars" (Sco.top 68)) := by
      refine' Sco.mk_def KX G ?a ?l ?c ?k
      (case a => k_is); (case l => k_is); (case c => k_is); (case k => k_is)
    obtain ⟨f_score_bars⟩ := f_score_bars
    have f_bar_times : Nonempty (Sco.DefAt (PySem.Challenge.cw_scoretexts_s01_answers_holds.heap_1 w.params) mg "bar_times" (Sco.top 69)) := by
      refine' Sco.mk_def KX G ?a ?l ?c ?k
      (case a => k_is); (case l => k_is); (case c => k_is); (case k => k_is)
    obtain ⟨f_bar_times⟩ := f_bar_times
    have f_bar_of_time : Nonempty (Sco.DefAt (PySem.Challenge.cw_scoretexts_s01_answers_holds.heap_1 w.params) mg "bar_of_time" (Sco.top 70)) := by
      refine' Sco.mk_def KX G ?a ?l ?c ?k
      (case a => k_is); (case l => k_is); (case c => k_is); (case k => k_is)
    obtain ⟨f_bar_of_time⟩ := f_bar_of_time
    have f_check_bytes : Nonempty (Sco.DefAt (PySem.Challenge.cw_scoretexts_s01_answers_holds.heap_1 w.params) mg "check_bytes" (Sco.top 77)) := by
      refine' Sco.mk_def KX G ?a ?l ?c ?k
      (case a => k_is); (case l => k_is); (case c => k_is); (case k => k_is)
    obtain ⟨f_check_bytes⟩ := f_check_bytes
    have f_words_of : Nonempty (Sco.DefAt (PySem.Challenge.cw_scoretexts_s01_answers_holds.heap_1 w.params) mg "words_of" (Sco.top 78)) := by
      refine' Sco.mk_def KX G ?a ?l ?c ?k
      (case a => k_is); (case l => k_is); (case c => k_is); (case k => k_is)
    obtain ⟨f_words_of⟩ := f_words_of
    have f_sign_table : Nonempty (Sco.DefAt (PySem.Challenge.cw_scoretexts_s01_answers_holds.heap_1 w.params) mg "sign_table" (Sco.top 79)) := by
      refine' Sco.mk_def KX G ?a ?l ?c ?k
      (case a => k_is); (case l => k_is); (case c => k_is); (case k => k_is)
    obtain ⟨f_sign_table⟩ := f_sign_table
    have f_answers : Nonempty (Sco.DefAt (PySem.Challenge.cw_scoretexts_s01_answers_holds.heap_1 w.params) mg "answers" (Sco.top 96)) := by
      refine' Sco.mk_def KX G ?a ?l ?c ?k
      (case a => k_is); (case l => k_is); (case c => k_is); (case k => k_is)
    obtain ⟨f_answers⟩ := f_answers
    have f_call_end : Nonempty (Sco.DefAt (PySem.Challenge.cw_scoretexts_s01_answers_holds.heap_1 w.params) mg "call_end" (Sco.top 97)) := by
      refine' Sco.mk_def KX G ?a ?l ?c ?k
      (case a => k_is); (case l => k_is); (case c => k_is); (case k => k_is)
    obtain ⟨f_call_end⟩ := f_call_end
    have f_score_of : Nonempty (Sco.DefAt (PySem.Challenge.cw_scoretexts_s01_answers_holds.heap_1 w.params) mg "score_of" (Sco.top 99)) := by
      refine' Sco.mk_def KX G ?a ?l ?c ?k
      (case a => k_is); (case l => k_is); (case c => k_is); (case k => k_is)
    obtain ⟨f_score_of⟩ := f_score_of
    have f_with_rows : Nonempty (Sco.DefAt (PySem.Challenge.cw_scoretexts_s01_answers_holds.heap_1 w.params) mg "with_rows" (Sco.top 100)) := by
      refine' Sco.mk_def KX G ?a ?l ?c ?k
      (case a => k_is); (case l => k_is); (case c => k_is); (case k => k_is)
    obtain ⟨f_with_rows⟩ := f_with_rows
    have q_Fault : ∃ C f, PySem.FltX.FaultTxt (PySem.Challenge.cw_scoretexts_s01_answers_holds.heap_1 w.params) mg C f := by
      refine' Sco.mk_fault ⟨11, 17, 11, 21⟩ ⟨11, 23, 11, 27⟩ ⟨11, 29, 11, 34⟩ ⟨12, 8, 12, 12⟩ ⟨12, 8, 12, 17⟩ ⟨12, 20, 12, 24⟩ ⟨12, 8, 12, 24⟩ ⟨13, 8, 13, 12⟩ ⟨13, 8, 13, 18⟩ ⟨13, 21, 13, 26⟩ ⟨13, 8, 13, 26⟩ KX G ?a ?cl ?sa ?ga ?gg ?nk ?np ?ic ?tc ?kc ?ec ?ty ?hd ?te ?fl ?fc
      (case a => k_is)
      (case cl => k_is)
      (case sa => k_is)
      (case ga => k_is)
      (case gg => k_is)
      (case nk => k_is)
      (case np => k_is)
      (case ic => k_is)
      (case tc => k_is)
      (case kc => k_is)
      (case ec => k_is)
      (case ty => k_is)
      (case hd => k_is)
      (case te => first | k_is | rfl)
      (case fl => k_is)
      (case fc => k_is)
    obtain ⟨c_Fault, ci_Fault, x_Fault⟩ := q_Fault
    have q_Score : ∃ C, mg "Score" = some (.ref C) ∧ L2.Cls (PySem.Challenge.cw_scoretexts_s01_answers_holds.heap_1 w.params) C ∧ L2.NoAttr (PySem.Challenge.cw_scoretexts_s01_answers_holds.heap_1 w.params) C "metre" ∧ L2.NoAttr (PySem.Challenge.cw_scoretexts_s01_answers_holds.heap_1 w.params) C "full" ∧ L2.NoAttr (PySem.Challenge.cw_scoretexts_s01_answers_holds.heap_1 w.params) C "key" ∧ L2.NoAttr (PySem.Challenge.cw_scoretexts_s01_answers_holds.heap_1 w.params) C "voices" ∧ Nonempty (Sco.InitAt (PySem.Challenge.cw_scoretexts_s01_answers_holds.heap_1 w.params) C "Score.__init__" (L2.inClass (Sco.top 15) 0)) := by
      refine' ⟨_, Sco.mk_ref KX G ?a, ⟨?pg, ?hd, ?po, ?sa⟩, Sco.mk_no ?n2, Sco.mk_no ?n3, Sco.mk_no ?n4, Sco.mk_no ?n5, Sco.mk_init ?ia ?ib ?ic ?ie ?ig ?ih ?ij⟩
      (case a => k_is)
      (case pg => k_is)
      (case hd => k_is)
      (case po => k_is)
      (case sa => k_is)
      (case n2 => k_is)
      (case n3 => k_is)
      (case n4 => k_is)
      (case n5 => k_is)
      (case ia => k_is)
      (case ib => k_is)
      (case ic => k_is)
      (case ie => k_is)
      (case ig => k_is)
      (case ih => k_is)
      (case ij => k_is)
    obtain ⟨c_Score, g_Score, cl_Score, n_Score_metre, n_Score_full, n_Score_key, n_Score_voices, ⟨i_Score⟩⟩ := q_Score
    have q_Voice : ∃ C, mg "Voice" = some (.ref C) ∧ L2.Cls (PySem.Challenge.cw_scoretexts_s01_answers_holds.heap_1 w.params) C ∧ L2.NoAttr (PySem.Challenge.cw_scoretexts_s01_answers_holds.heap_1 w.params) C "name" ∧ L2.NoAttr (PySem.Challenge.cw_scoretexts_s01_answers_holds.heap_1 w.params) C "bars" ∧ L2.NoAttr (PySem.Challenge.cw_scoretexts_s01_answers_holds.heap_1 w.params) C "events" ∧ L2.NoAttr (PySem.Challenge.cw_scoretexts_s01_answers_holds.heap_1 w.params) C "end" ∧ Nonempty (Sco.InitAt (PySem.Challenge.cw_scoretexts_s01_answers_holds.heap_1 w.params) C "Voice.__init__" (L2.inClass (Sco.top 16) 0)) := by
      refine' ⟨_, Sco.mk_ref KX G ?a, ⟨?pg, ?hd, ?po, ?sa⟩, Sco.mk_no ?n2, Sco.mk_no ?n3, Sco.mk_no ?n4, Sco.mk_no ?n5, Sco.mk_init ?ia ?ib ?ic ?ie ?ig ?ih ?ij⟩
      (case a => k_is)
      (case pg => k_is)
      (case hd => k_is)
      (case po => k_is)
      (case sa => k_is)
      (case n2 => k_is)
      (case n3 => k_is)
      (case n4 => k_is)
      (case n5 => k_is)
      (case ia => k_is)
      (case ib => k_is)
      (case ic => k_is)
      (case ie => k_is)
      (case ig => k_is)
      (case ih => k_is)
      (case ij => k_is)
    obtain ⟨c_Voice, g_Voice, cl_Voice, n_Voice_name, n_Voice_bars, n_Voice_events, n_Voice_end, ⟨i_Voice⟩⟩ := q_Voice
    have q_Bar : ∃ C, mg "Bar" = some (.ref C) ∧ L2.Cls (PySem.Challenge.cw_scoretexts_s01_answers_holds.heap_1 w.params) C ∧ L2.NoAttr (PySem.Challenge.cw_scoretexts_s01_answers_holds.heap_1 w.params) C "short" ∧ L2.NoAttr (PySem.Challenge.cw_scoretexts_s01_answers_holds.heap_1 w.params) C "words" ∧ L2.NoAttr (PySem.Challenge.cw_scoretexts_s01_answers_holds.heap_1 w.params) C "length" ∧ L2.NoAttr (PySem.Challenge.cw_scoretexts_s01_answers_holds.heap_1 w.params) C "place" ∧ Nonempty (Sco.InitAt (PySem.Challenge.cw_scoretexts_s01_answers_holds.heap_1 w.params) C "Bar.__init__" (L2.inClass (Sco.top 17) 0)) := by
      refine' ⟨_, Sco.mk_ref KX G ?a, ⟨?pg, ?hd, ?po, ?sa⟩, Sco.mk_no ?n2, Sco.mk_no ?n3, Sco.mk_no ?n4, Sco.mk_no ?n5, Sco.mk_init ?ia ?ib ?ic ?ie ?ig ?ih ?ij⟩
      (case a => k_is)
      (case pg => k_is)
      (case hd => k_is)
      (case po => k_is)
      (case sa => k_is)
      (case n2 => k_is)
      (case n3 => k_is)
      (case n4 => k_is)
      (case n5 => k_is)
      (case ia => k_is)
      (case ib => k_is)
      (case ic => k_is)
      (case ie => k_is)
      (case ig => k_is)
      (case ih => k_is)
      (case ij => k_is)
    obtain ⟨c_Bar, g_Bar, cl_Bar, n_Bar_short, n_Bar_words, n_Bar_length, n_Bar_place, ⟨i_Bar⟩⟩ := q_Bar
    have q_Event : ∃ C, mg "Event" = some (.ref C) ∧ L2.Cls (PySem.Challenge.cw_scoretexts_s01_answers_holds.heap_1 w.params) C ∧ L2.NoAttr (PySem.Challenge.cw_scoretexts_s01_answers_holds.heap_1 w.params) C "place" ∧ L2.NoAttr (PySem.Challenge.cw_scoretexts_s01_answers_holds.heap_1 w.params) C "pitches" ∧ L2.NoAttr (PySem.Challenge.cw_scoretexts_s01_answers_holds.heap_1 w.params) C "length" ∧ L2.NoAttr (PySem.Challenge.cw_scoretexts_s01_answers_holds.heap_1 w.params) C "tied" ∧ Nonempty (Sco.InitAt (PySem.Challenge.cw_scoretexts_s01_answers_holds.heap_1 w.params) C "Event.__init__" (L2.inClass (Sco.top 18) 0)) := by
      refine' ⟨_, Sco.mk_ref KX G ?a, ⟨?pg, ?hd, ?po, ?sa⟩, Sco.mk_no ?n2, Sco.mk_no ?n3, Sco.mk_no ?n4, Sco.mk_no ?n5, Sco.mk_init ?ia ?ib ?ic ?ie ?ig ?ih ?ij⟩
      (case a => k_is)
      (case pg => k_is)
      (case hd => k_is)
      (case po => k_is)
      (case sa => k_is)
      (case n2 => k_is)
      (case n3 => k_is)
      (case n4 => k_is)
      (case n5 => k_is)
      (case ia => k_is)
      (case ib => k_is)
      (case ic => k_is)
      (case ie => k_is)
      (case ig => k_is)
      (case ih => k_is)
      (case ij => k_is)
    obtain ⟨c_Event, g_Event, cl_Event, n_Event_place, n_Event_pitches, n_Event_length, n_Event_tied, ⟨i_Event⟩⟩ := q_Event
    have q_Reader : ∃ C, mg "Reader" = some (.ref C) ∧ L2.Cls (PySem.Challenge.cw_scoretexts_s01_answers_holds.heap_1 w.params) C ∧ L2.NoAttr (PySem.Challenge.cw_scoretexts_s01_answers_holds.heap_1 w.params) C "words" ∧ L2.NoAttr (PySem.Challenge.cw_scoretexts_s01_answers_holds.heap_1 w.params) C "at" ∧ Nonempty (Sco.InitAt (PySem.Challenge.cw_scoretexts_s01_answers_holds.heap_1 w.params) C "Reader.__init__" (L2.inClass (Sco.top 53) 0)) ∧ Nonempty (Sco.MethAt (PySem.Challenge.cw_scoretexts_s01_answers_holds.heap_1 w.params) C "look" "Reader.look" (L2.inClass (Sco.top 53) 1)) ∧ Nonempty (Sco.MethAt (PySem.Challenge.cw_scoretexts_s01_answers_holds.heap_1 w.params) C "where" "Reader.where" (L2.inClass (Sco.top 53) 2)) ∧ Nonempty (Sco.MethAt (PySem.Challenge.cw_scoretexts_s01_answers_holds.heap_1 w.params) C "take" "Reader.take" (L2.inClass (Sco.top 53) 3)) := by
      refine' ⟨_, Sco.mk_ref KX G ?a, ⟨?pg, ?hd, ?po, ?sa⟩, Sco.mk_no ?n2, Sco.mk_no ?n3, Sco.mk_init ?ia ?ib ?ic ?ie ?ig ?ih ?ij, Sco.mk_meth ?m5i ?m5n ?m5l ?m5c ?m5k, Sco.mk_meth ?m6i ?m6n ?m6l ?m6c ?m6k, Sco.mk_meth ?m7i ?m7n ?m7l ?m7c ?m7k⟩
      (case a => k_is)
      (case pg => k_is)
      (case hd => k_is)
      (case po => k_is)
      (case sa => k_is)
      (case n2 => k_is)
      (case n3 => k_is)
      (case ia => k_is)
      (case ib => k_is)
      (case ic => k_is)
      (case ie => k_is)
      (case ig => k_is)
      (case ih => k_is)
      (case ij => k_is)
      (case m5i => k_is)
      (case m5n => k_is)
      (case m5l => k_is)
      (case m5c => k_is)
      (case m5k => k_is)
      (case m6i => k_is)
      (case m6n => k_is)
      (case m6l => k_is)
      (case m6c => k_is)
      (case m6k => k_is)
      (case m7i => k_is)
      (case m7n => k_is)
      (case m7l => k_is)
      (case m7c => k_is)
      (case m7k => k_is)
    obtain ⟨c_Reader, g_Reader, cl_Reader, n_Reader_words, n_Reader_at, ⟨i_Reader⟩, ⟨m_Reader_look⟩, ⟨m_Reader_where⟩, ⟨m_Reader_take⟩⟩ := q_Reader
    have q_Desk : ∃ C, mg "Desk" = some (.ref C) ∧ L2.Cls (PySem.Challenge.cw_scoretexts_s01_answers_holds.heap_1 w.params) C ∧ L2.NoAttr (PySem.Challenge.cw_scoretexts_s01_answers_holds.heap_1 w.params) C "score" ∧ Nonempty (Sco.InitAt (PySem.Challenge.cw_scoretexts_s01_answers_holds.heap_1 w.params) C "Desk.__init__" (L2.inClass (Sco.top 98) 0)) ∧ Nonempty (Sco.MethAt (PySem.Challenge.cw_scoretexts_s01_answers_holds.heap_1 w.params) C "answer" "Desk.answer" (L2.inClass (Sco.top 98) 1)) ∧ Nonempty (Sco.MethAt (PySem.Challenge.cw_scoretexts_s01_answers_holds.heap_1 w.params) C "answer_read" "Desk.answer_read" (L2.inClass (Sco.top 98) 2)) ∧ Nonempty (Sco.MethAt (PySem.Challenge.cw_scoretexts_s01_answers_holds.heap_1 w.params) C "answer_form" "Desk.answer_form" (L2.inClass (Sco.top 98) 3)) ∧ Nonempty (Sco.MethAt (PySem.Challenge.cw_scoretexts_s01_answers_holds.heap_1 w.params) C "answer_counts" "Desk.answer_counts" (L2.inClass (Sco.top 98) 4)) ∧ Nonempty (Sco.MethAt (PySem.Challenge.cw_scoretexts_s01_answers_holds.heap_1 w.params) C "answer_sounds" "Desk.answer_sounds" (L2.inClass (Sco.top 98) 5)) ∧ Nonempty (Sco.MethAt (PySem.Challenge.cw_scoretexts_s01_answers_holds.heap_1 w.params) C "answer_bars" "Desk.answer_bars" (L2.inClass (Sco.top 98) 6)) ∧ Nonempty (Sco.MethAt (PySem.Challenge.cw_scoretexts_s01_answers_holds.heap_1 w.params) C "answer_same" "Desk.answer_same" (L2.inClass (Sco.top 98) 7)) ∧ Nonempty (Sco.MethAt (PySem.Challenge.cw_scoretexts_s01_answers_holds.heap_1 w.params) C "answer_place" "Desk.answer_place" (L2.inClass (Sco.top 98) 8)) := by
      refine' ⟨_, Sco.mk_ref KX G ?a, ⟨?pg, ?hd, ?po, ?sa⟩, Sco.mk_no ?n2, Sco.mk_init ?ia ?ib ?ic ?ie ?ig ?ih ?ij, Sco.mk_meth ?m4i ?m4n ?m4l ?m4c ?m4k, Sco.mk_meth ?m5i ?m5n ?m5l ?m5c ?m5k, Sco.mk_meth ?m6i ?m6n ?m6l ?m6c ?m6k, Sco.mk_meth ?m7i ?m7n ?m7l ?m7c ?m7k, Sco.mk_meth ?m8i ?m8n ?m8l ?m8c ?m8k, Sco.mk_meth ?m9i ?m9n ?m9l ?m9c ?m9k, Sco.mk_meth ?m10i ?m10n ?m10l ?m10c ?m10k, Sco.mk_meth ?m11i ?m11n ?m11l ?m11c ?m11k⟩
      (case a => k_is)
      (case pg => k_is)
      (case hd => k_is)
      (case po => k_is)
      (case sa => k_is)
      (case n2 => k_is)
      (case ia => k_is)
      (case ib => k_is)
      (case ic => k_is)
      (case ie => k_is)
      (case ig => k_is)
      (case ih => k_is)
      (case ij => k_is)
      (case m4i => k_is)
      (case m4n => k_is)
      (case m4l => k_is)
      (case m4c => k_is)
      (case m4k => k_is)
      (case m5i => k_is)
      (case m5n => k_is)
      (case m5l => k_is)
      (case m5c => k_is)
      (case m5k => k_is)
      (case m6i => k_is)
      (case m6n => k_is)
      (case m6l => k_is)
      (case m6c => k_is)
      (case m6k => k_is)
      (case m7i => k_is)
      (case m7n => k_is)
      (case m7l => k_is)
      (case m7c => k_is)
      (case m7k => k_is)
      (case m8i => k_is)
      (case m8n => k_is)
      (case m8l => k_is)
      (case m8c => k_is)
      (case m8k => k_is)
      (case m9i => k_is)
      (case m9n => k_is)
      (case m9l => k_is)
      (case m9c => k_is)
      (case m9k => k_is)
      (case m10i => k_is)
      (case m10n => k_is)
      (case m10l => k_is)
      (case m10c => k_is)
      (case m10k => k_is)
      (case m11i => k_is)
      (case m11n => k_is)
      (case m11l => k_is)
      (case m11c => k_is)
      (case m11k => k_is)
    obtain ⟨c_Desk, g_Desk, cl_Desk, n_Desk_score, ⟨i_Desk⟩, ⟨m_Desk_answer⟩, ⟨m_Desk_answer_read⟩, ⟨m_Desk_answer_form⟩, ⟨m_Desk_answer_counts⟩, ⟨m_Desk_answer_sounds⟩, ⟨m_Desk_answer_bars⟩, ⟨m_Desk_answer_same⟩, ⟨m_Desk_answer_place⟩⟩ := q_Desk
    have T : Sco.Tx w (PySem.Challenge.cw_scoretexts_s01_answers_holds.heap_1 w.params) mg := ⟨b_zip, b_enumerate, b_int, b_sorted, b_reversed, b_len, b_all, b_ord, k_BAD_BYTE, k_BAD_WORD, k_TOO_DEEP, k_BAD_NAME, k_BAD_LENGTH, k_BAD_TIE, k_UNLIKE_BAR, k_WHOLE_NOTE, a_QUARTERS, k_QUARTERS, t_QUARTERS, k_ALPHABET, k_LETTERS, a_ALTERATIONS, k_ALTERATIONS, d_ALTERATIONS, v_ALTERATIONS, a_KINDS, k_KINDS, d_KINDS, v_KINDS, a_METRE_PARTS, k_METRE_PARTS, d_METRE_PARTS, v_METRE_PARTS, k_MOST_PARTS, k_MOST_KEY, k_MOST_NAME, k_MOST_DIGITS, k_MOST_DOTS, k_MOST_VOICES, k_LEAST_PITCHES, k_MOST_PITCHES, k_MOST_DEPTH, k_LINE_END, k_BLANK, k_LAST_BYTE, k_SIGNS, k_OTHER, k_READ, k_FORM, k_COUNTS, k_SOUNDS, k_BARS, k_SAME, k_PLACE, k_NO_SCORE, k_NO_VOICE, k_NO_TIME, k_BEHIND_END, k_FAULTY_TEXT, k_TOO_LONG, k_MOST_BYTES, k_MOST_OF_A_TIME, f_check_score, f_check_lengths, f_check_ties, f_check_fit, f_dotted_length, f_parts_length, f_length_in_tuplets, f_fraction, f_lowest_terms, f_common_divisor, f_number_within, f_metre_length, f_is_key, f_is_name, f_tuplet_of, f_pitch_of, f_length_of, f_chord_end_of, f_note_or_rest_of, f_read_words, f_read_key, f_read_voice, f_read_name, f_read_bar, f_begin_tuplet, f_read_event, f_read_chord, f_read_pitches, f_one_form, f_voice_counts, f_voice_sounds, f_lasting_lengths, f_score_bars, f_bar_times, f_bar_of_time, f_check_bytes, f_words_of, f_sign_table, f_answers, f_call_end, f_score_of, f_with_rows, c_Fault, ci_Fault, x_Fault, c_Score, g_Score, cl_Score, n_Score_metre, n_Score_full, n_Score_key, n_Score_voices, i_Score, c_Voice, g_Voice, cl_Voice, n_Voice_name, n_Voice_bars, n_Voice_events, n_Voice_end, i_Voice, c_Bar, g_Bar, cl_Bar, n_Bar_short, n_Bar_words, n_Bar_length, n_Bar_place, i_Bar, c_Event, g_Event, cl_Event, n_Event_place, n_Event_pitches, n_Event_length, n_Event_tied, i_Event, c_Reader, g_Reader, cl_Reader, n_Reader_words, n_Reader_at, i_Reader, m_Reader_look, m_Reader_where, m_Reader_take, c_Desk, g_Desk, cl_Desk, n_Desk_score, i_Desk, m_Desk_answer, m_Desk_answer_read, m_Desk_answer_form, m_Desk_answer_counts, m_Desk_answer_sounds, m_Desk_answer_bars, m_Desk_answer_same, m_Desk_answer_place⟩
    exact Sco.end_of T hmg
  case S =>
    intro K H xs a hO hwi hask hx
    have hlen : a.1.length ≤ 100000 := Sco.asked_len a hwi
    cases hx with
    | cons h1 h2 =>
      cases h2
      cases h1 with
      | lst hs ha =>
        have e := L2.ints_dw a.1 _ ha
        subst e
        exact ⟨_, a.1, rfl, hs, hlen, hask, fun H' p hp => .lst (L2.SqL.of hp) (L2.dw_ints _)⟩
