import PyProof.Rows.All
import Wide.All
import OpenK.AllK
import Wide.FinOn
import HandS.ForMost
import HandS.Wide
import HandS.WideBits
import HandS.IsInst
import HandS.Walk
import HandS.Zip
import HandS.Style
import PySem.Challenge.RW_scenetongue_k03_dots
set_option Elab.async false
set_option linter.all false
set_option maxRecDepth 100000
set_option maxHeartbeats 4000000

namespace Sc
open PySem PySem.Spec PyProof.Rows L2

def topS (i : Nat) : Stmt := PySem.Challenge.pw_scenetongue_k03_dots.main.body.getD i (.Pass ⟨0, 0, 0, 0⟩)
abbrev s_frac : Stmt := topS 1
abbrev nm_frac : List Str := ["above", "below", "shared", "rest"]
theorem sc_frac : FnScope nm_frac ["above", "below"] (defScope s_frac) := ⟨rfl, rfl, rfl, by decide +kernel, rfl, by decide +kernel, by decide +kernel⟩
abbrev s_dot : Stmt := topS 2
abbrev nm_dot : List Str := ["one", "other", "above", "below", "mine", "yours", "part"]
theorem sc_dot : FnScope nm_dot ["one", "other"] (defScope s_dot) := ⟨rfl, rfl, rfl, by decide +kernel, rfl, by decide +kernel, by decide +kernel⟩
abbrev s__law_cell : Stmt := topS 4
abbrev nm__law_cell : List Str := ["_law_script", "_law_k"]
theorem sc__law_cell : FnScope nm__law_cell ["_law_script", "_law_k"] (defScope s__law_cell) := ⟨rfl, rfl, rfl, by decide +kernel, rfl, by decide +kernel, by decide +kernel⟩
abbrev s__law_mixed : Stmt := topS 5
abbrev nm__law_mixed : List Str := ["_law_script", "_law_k", "_law_many", "_law_number"]
theorem sc__law_mixed : FnScope nm__law_mixed ["_law_script", "_law_k", "_law_many"] (defScope s__law_mixed) := ⟨rfl, rfl, rfl, by decide +kernel, rfl, by decide +kernel, by decide +kernel⟩
abbrev s__law_deck : Stmt := topS 6
abbrev nm__law_deck : List Str := ["_law_script", "_law_part"]
theorem sc__law_deck : FnScope nm__law_deck ["_law_script"] (defScope s__law_deck) := ⟨rfl, rfl, rfl, by decide +kernel, rfl, by decide +kernel, by decide +kernel⟩
abbrev s__law_take : Stmt := topS 7
abbrev nm__law_take : List Str := ["_law_deck_here", "_law_many", "_law_part"]
theorem sc__law_take : FnScope nm__law_take ["_law_deck_here", "_law_many"] (defScope s__law_take) := ⟨rfl, rfl, rfl, by decide +kernel, rfl, by decide +kernel, by decide +kernel⟩
abbrev s__law_gcd : Stmt := topS 8
abbrev nm__law_gcd : List Str := ["_law_one", "_law_other"]
theorem sc__law_gcd : FnScope nm__law_gcd ["_law_one", "_law_other"] (defScope s__law_gcd) := ⟨rfl, rfl, rfl, by decide +kernel, rfl, by decide +kernel, by decide +kernel⟩
abbrev s__law_share : Stmt := topS 9
abbrev nm__law_share : List Str := ["_law_top", "_law_bottom", "_law_part"]
theorem sc__law_share : FnScope nm__law_share ["_law_top", "_law_bottom"] (defScope s__law_share) := ⟨rfl, rfl, rfl, by decide +kernel, rfl, by decide +kernel, by decide +kernel⟩
abbrev s__law_plus : Stmt := topS 10
abbrev nm__law_plus : List Str := ["_law_one", "_law_other"]
theorem sc__law_plus : FnScope nm__law_plus ["_law_one", "_law_other"] (defScope s__law_plus) := ⟨rfl, rfl, rfl, by decide +kernel, rfl, by decide +kernel, by decide +kernel⟩
abbrev s__law_times : Stmt := topS 11
abbrev nm__law_times : List Str := ["_law_one", "_law_other"]
theorem sc__law_times : FnScope nm__law_times ["_law_one", "_law_other"] (defScope s__law_times) := ⟨rfl, rfl, rfl, by decide +kernel, rfl, by decide +kernel, by decide +kernel⟩
abbrev s__law_figures : Stmt := topS 12
abbrev nm__law_figures : List Str := ["_law_deck_here", "_law_kind"]
theorem sc__law_figures : FnScope nm__law_figures ["_law_deck_here"] (defScope s__law_figures) := ⟨rfl, rfl, rfl, by decide +kernel, rfl, by decide +kernel, by decide +kernel⟩
abbrev s__law_fraction : Stmt := topS 13
abbrev nm__law_fraction : List Str := ["_law_deck_here", "_law_top"]
theorem sc__law_fraction : FnScope nm__law_fraction ["_law_deck_here"] (defScope s__law_fraction) := ⟨rfl, rfl, rfl, by decide +kernel, rfl, by decide +kernel, by decide +kernel⟩
abbrev s__law_is : Stmt := topS 14
abbrev nm__law_is : List Str := ["_law_found", "_law_due", "_law_part"]
theorem sc__law_is : FnScope nm__law_is ["_law_found", "_law_due"] (defScope s__law_is) := ⟨rfl, rfl, rfl, by decide +kernel, rfl, by decide +kernel, by decide +kernel⟩
abbrev s__law_point : Stmt := topS 15
abbrev nm__law_point : List Str := ["_law_deck_here"]
theorem sc__law_point : FnScope nm__law_point ["_law_deck_here"] (defScope s__law_point) := ⟨rfl, rfl, rfl, by decide +kernel, rfl, by decide +kernel, by decide +kernel⟩
abbrev s__law_dot : Stmt := topS 16
abbrev nm__law_dot : List Str := ["_law_one", "_law_other", "_law_found", "_law_k"]
theorem sc__law_dot : FnScope nm__law_dot ["_law_one", "_law_other"] (defScope s__law_dot) := ⟨rfl, rfl, rfl, by decide +kernel, rfl, by decide +kernel, by decide +kernel⟩
abbrev s__law_second : Stmt := topS 17
abbrev nm__law_second : List Str := ["_law_deck_here", "_law_one", "_law_kind", "_law_part"]
theorem sc__law_second : FnScope nm__law_second ["_law_deck_here", "_law_one"] (defScope s__law_second) := ⟨rfl, rfl, rfl, by decide +kernel, rfl, by decide +kernel, by decide +kernel⟩
abbrev s_law : Stmt := topS 18
abbrev nm_law : List Str := ["_law_script", "_law_deck_here", "_law_turn", "_law_one", "_law_other", "_law_due", "_law_third", "_law_both", "_law_here", "_law_there"]
theorem sc_law : FnScope nm_law ["_law_script"] (defScope s_law) := ⟨rfl, rfl, rfl, by decide +kernel, rfl, by decide +kernel, by decide +kernel⟩
structure Tx (K : PySem.W.Frag) (mg : Str → Option Value) where
  f_frac : Addr
  d_frac : FuncData
  F_frac : Fun K "frac" "frac" s_frac f_frac d_frac
  b_frac : Binds K d_frac ["above", "below"] []
  g_frac : mg "frac" = some (.ref f_frac)
  f_dot : Addr
  d_dot : FuncData
  F_dot : Fun K "dot" "dot" s_dot f_dot d_dot
  b_dot : Binds K d_dot ["one", "other"] []
  g_dot : mg "dot" = some (.ref f_dot)
  f__law_cell : Addr
  d__law_cell : FuncData
  F__law_cell : Fun K "_law_cell" "_law_cell" s__law_cell f__law_cell d__law_cell
  b__law_cell : Binds K d__law_cell ["_law_script", "_law_k"] []
  g__law_cell : mg "_law_cell" = some (.ref f__law_cell)
  f__law_mixed : Addr
  d__law_mixed : FuncData
  F__law_mixed : Fun K "_law_mixed" "_law_mixed" s__law_mixed f__law_mixed d__law_mixed
  b__law_mixed : Binds K d__law_mixed ["_law_script", "_law_k", "_law_many"] []
  g__law_mixed : mg "_law_mixed" = some (.ref f__law_mixed)
  f__law_deck : Addr
  d__law_deck : FuncData
  F__law_deck : Fun K "_law_deck" "_law_deck" s__law_deck f__law_deck d__law_deck
  b__law_deck : Binds K d__law_deck ["_law_script"] []
  g__law_deck : mg "_law_deck" = some (.ref f__law_deck)
  f__law_take : Addr
  d__law_take : FuncData
  F__law_take : Fun K "_law_take" "_law_take" s__law_take f__law_take d__law_take
  b__law_take : Binds K d__law_take ["_law_deck_here", "_law_many"] []
  g__law_take : mg "_law_take" = some (.ref f__law_take)
  f__law_gcd : Addr
  d__law_gcd : FuncData
  F__law_gcd : Fun K "_law_gcd" "_law_gcd" s__law_gcd f__law_gcd d__law_gcd
  b__law_gcd : Binds K d__law_gcd ["_law_one", "_law_other"] []
  g__law_gcd : mg "_law_gcd" = some (.ref f__law_gcd)
  f__law_share : Addr
  d__law_share : FuncData
  F__law_share : Fun K "_law_share" "_law_share" s__law_share f__law_share d__law_share
  b__law_share : Binds K d__law_share ["_law_top", "_law_bottom"] []
  g__law_share : mg "_law_share" = some (.ref f__law_share)
  f__law_plus : Addr
  d__law_plus : FuncData
  F__law_plus : Fun K "_law_plus" "_law_plus" s__law_plus f__law_plus d__law_plus
  b__law_plus : Binds K d__law_plus ["_law_one", "_law_other"] []
  g__law_plus : mg "_law_plus" = some (.ref f__law_plus)
  f__law_times : Addr
  d__law_times : FuncData
  F__law_times : Fun K "_law_times" "_law_times" s__law_times f__law_times d__law_times
  b__law_times : Binds K d__law_times ["_law_one", "_law_other"] []
  g__law_times : mg "_law_times" = some (.ref f__law_times)
  f__law_figures : Addr
  d__law_figures : FuncData
  F__law_figures : Fun K "_law_figures" "_law_figures" s__law_figures f__law_figures d__law_figures
  b__law_figures : Binds K d__law_figures ["_law_deck_here"] []
  g__law_figures : mg "_law_figures" = some (.ref f__law_figures)
  f__law_fraction : Addr
  d__law_fraction : FuncData
  F__law_fraction : Fun K "_law_fraction" "_law_fraction" s__law_fraction f__law_fraction d__law_fraction
  b__law_fraction : Binds K d__law_fraction ["_law_deck_here"] []
  g__law_fraction : mg "_law_fraction" = some (.ref f__law_fraction)
  f__law_is : Addr
  d__law_is : FuncData
  F__law_is : Fun K "_law_is" "_law_is" s__law_is f__law_is d__law_is
  b__law_is : Binds K d__law_is ["_law_found", "_law_due"] []
  g__law_is : mg "_law_is" = some (.ref f__law_is)
  f__law_point : Addr
  d__law_point : FuncData
  F__law_point : Fun K "_law_point" "_law_point" s__law_point f__law_point d__law_point
  b__law_point : Binds K d__law_point ["_law_deck_here"] []
  g__law_point : mg "_law_point" = some (.ref f__law_point)
  f__law_dot : Addr
  d__law_dot : FuncData
  F__law_dot : Fun K "_law_dot" "_law_dot" s__law_dot f__law_dot d__law_dot
  b__law_dot : Binds K d__law_dot ["_law_one", "_law_other"] []
  g__law_dot : mg "_law_dot" = some (.ref f__law_dot)
  f__law_second : Addr
  d__law_second : FuncData
  F__law_second : Fun K "_law_second" "_law_second" s__law_second f__law_second d__law_second
  b__law_second : Binds K d__law_second ["_law_deck_here", "_law_one"] []
  g__law_second : mg "_law_second" = some (.ref f__law_second)
  m_abs : mg "abs" = none
  m_bool : mg "bool" = none
  m_int : mg "int" = none
  m_isinstance : mg "isinstance" = none
  m_len : mg "len" = none
  m_max : mg "max" = none
  m_range : mg "range" = none
  m_tuple : mg "tuple" = none
  m_zip : mg "zip" = none

/-- the greatest common divisor with the sign of b -/
def sg (a b : Int) : Int := if b < 0 then -(Int.gcd a b : Int) else (Int.gcd a b : Int)
/-- the loop of frac between two turns -/
def GInv (a b x y : Int) : Prop := Int.gcd x y = Int.gcd a b ∧ ((0 < b ∧ 0 ≤ y ∧ y < x ∧ x ≤ b) ∨ (b < 0 ∧ y ≤ 0 ∧ x < y ∧ b ≤ x))
theorem gcd_step (x y : Int) : Int.gcd y (x.fmod y) = Int.gcd x y := by
  rw [Int.fmod_def, Int.mul_comm, Int.gcd_sub_mul_right_right, Int.gcd_comm]
theorem fmod_pos {x y : Int} (h : 0 < y) : 0 ≤ x.fmod y ∧ x.fmod y < y := ⟨Int.fmod_nonneg_of_pos x h, Int.fmod_lt_of_pos x h⟩
theorem fmod_neg {x y : Int} (h : y < 0) : x.fmod y ≤ 0 ∧ y < x.fmod y := by
  have h' : 0 < -y := by omega
  have e := Int.neg_fmod_neg (-x) (-y)
  rw [Int.neg_neg, Int.neg_neg] at e
  have h1 := Int.fmod_nonneg_of_pos (-x) h'
  have h2 := Int.fmod_lt_of_pos (-x) h'
  omega
theorem GInv.start {a b : Int} (hb : b ≠ 0) : GInv a b b (a.fmod b) := by
  refine ⟨gcd_step a b, ?_⟩
  by_cases hp : 0 < b
  · have := @fmod_pos a b hp
    exact .inl ⟨hp, by omega, by omega, Int.le_refl _⟩
  · have hn : b < 0 := by omega
    have := @fmod_neg a b hn
    exact .inr ⟨hn, by omega, by omega, Int.le_refl _⟩
theorem GInv.next {a b x y : Int} (h : GInv a b x y) (hy : y ≠ 0) : GInv a b y (x.fmod y) ∧ (x.fmod y).natAbs < y.natAbs := by
  obtain ⟨hg, hs⟩ := h
  rcases hs with ⟨h1, h2, h3, h4⟩ | ⟨h1, h2, h3, h4⟩
  · have f := @fmod_pos x y (by omega)
    exact ⟨⟨by rw [gcd_step, hg], .inl ⟨h1, by omega, by omega, by omega⟩⟩, by omega⟩
  · have f := @fmod_neg x y (by omega)
    exact ⟨⟨by rw [gcd_step, hg], .inr ⟨h1, by omega, by omega, by omega⟩⟩, by omega⟩
theorem GInv.fin {a b x : Int} (h : GInv a b x 0) : x = sg a b := by
  obtain ⟨hg, hs⟩ := h
  rw [Int.gcd_zero_right] at hg
  unfold sg
  rw [← hg]
  split <;> omega
theorem GInv.ne {a b x y : Int} (h : GInv a b x y) : x ≠ 0 ∧ x.natAbs ≤ b.natAbs := by
  obtain ⟨hg, hs⟩ := h
  omega
/-- the law's own: without signs -/
def HInv (a b x y : Int) : Prop := Int.gcd x y = Int.gcd a b ∧ 0 ≤ x ∧ 0 ≤ y
theorem HInv.next {a b x y : Int} (h : HInv a b x y) (hy : 0 < y) : HInv a b y (x.fmod y) ∧ (x.fmod y).natAbs < y.natAbs := by
  obtain ⟨hg, hx, _⟩ := h
  have f := @fmod_pos x y hy
  exact ⟨⟨by rw [gcd_step, hg], by omega, f.1⟩, by omega⟩
theorem HInv.fin {a b x y : Int} (h : HInv a b x y) (hy : ¬ 0 < y) : x = (Int.gcd a b : Int) := by
  obtain ⟨hg, hx, h3⟩ := h
  have e : y = 0 := by omega
  subst e
  rw [Int.gcd_zero_right] at hg
  omega
theorem gcd_abs (a b : Int) : Int.gcd (if a < 0 then -a else a) (if b < 0 then -b else b) = Int.gcd a b := by
  have h : ∀ z : Int, (if z < 0 then -z else z).natAbs = z.natAbs := fun z => by split <;> omega
  unfold Int.gcd
  rw [h, h]
theorem sg_ne {a b : Int} (hb : b ≠ 0) : sg a b ≠ 0 ∧ (sg a b).natAbs ≤ b.natAbs := by
  have h1 : 0 < Int.gcd a b := Int.gcd_pos_of_ne_zero_right a hb
  have h2 : Int.gcd a b ≤ b.natAbs := Nat.le_of_dvd (by omega) (Int.gcd_dvd_natAbs_right a b)
  unfold sg
  split <;> omega
theorem sg_num {a b : Int} (hb : b ≠ 0) : a.fdiv (sg a b) = (Rat.divInt a b).num := by
  rw [Rat.num_divInt, Int.gcd_comm]
  have d : ((Int.gcd a b : Nat) : Int) ∣ a := Int.gcd_dvd_left a b
  unfold sg
  by_cases h : b < 0
  · rw [if_pos h, Int.sign_eq_neg_one_of_neg h, Int.fdiv_eq_ediv_of_dvd (Int.neg_dvd.mpr d), Int.ediv_neg, Int.neg_mul, Int.one_mul, Int.neg_ediv_of_dvd d]
  · rw [if_neg h, Int.fdiv_eq_ediv_of_dvd d]
    rw [Int.sign_eq_one_of_pos (by omega), Int.one_mul]
theorem sg_den {a b : Int} (hb : b ≠ 0) : b.fdiv (sg a b) = ((Rat.divInt a b).den : Int) := by
  rw [Rat.den_divInt, if_neg hb, Int.gcd_comm b a]
  have d : ((Int.gcd a b : Nat) : Int) ∣ b := Int.gcd_dvd_right a b
  unfold sg
  by_cases h : b < 0
  · rw [if_pos h, Int.fdiv_eq_ediv_of_dvd (Int.neg_dvd.mpr d), Int.ediv_neg, ← Int.neg_ediv_of_dvd d, Int.natCast_ediv]
    congr 1
    omega
  · rw [if_neg h, Int.fdiv_eq_ediv_of_dvd d, Int.natCast_ediv]
    congr 1
    omega

/-! ### sizes -/
def Bt (n : Nat) (x : Int) : Prop := x.natAbs < 2 ^ n
theorem Bt.mono {m n : Nat} {x : Int} (h : Bt m x) (hn : m ≤ n) : Bt n x := Nat.lt_of_lt_of_le h (Nat.pow_le_pow_right (by decide) hn)
theorem Bt.le {n : Nat} {x y : Int} (hy : Bt n y) (h : x.natAbs ≤ y.natAbs) : Bt n x := Nat.lt_of_le_of_lt h hy
theorem Bt.mul {m n : Nat} {x y : Int} (hx : Bt m x) (hy : Bt n y) : Bt (m + n) (x * y) := by
  unfold Bt at *
  rw [Int.natAbs_mul, Nat.pow_add]
  exact Nat.mul_lt_mul'' hx hy
theorem Bt.add {n : Nat} {x y : Int} (hx : Bt n x) (hy : Bt n y) : Bt (n + 1) (x + y) := by
  unfold Bt at *
  rw [Nat.pow_succ]
  omega
theorem Bt.neg {n : Nat} {x : Int} (hx : Bt n x) : Bt n (-x) := by
  unfold Bt at *
  rw [Int.natAbs_neg]
  exact hx
theorem Bt.sub {n : Nat} {x y : Int} (hx : Bt n x) (hy : Bt n y) : Bt (n + 1) (x - y) := by
  unfold Bt at *
  rw [Nat.pow_succ]
  omega
/-- a fraction's two parts -/
def Rb (n : Nat) (q : Rat) : Prop := Bt n q.num ∧ Bt n (q.den : Int)
theorem Rb.mono {m n : Nat} {q : Rat} (h : Rb m q) (hn : m ≤ n) : Rb n q := ⟨h.1.mono hn, h.2.mono hn⟩
theorem den_ne (q : Rat) : ((q.den : Nat) : Int) ≠ 0 := by
  have := q.den_pos
  omega
theorem rb_div {n : Nat} {a b : Int} (hb : b ≠ 0) (h1 : Bt n a) (h2 : Bt n b) : Rb n (Rat.divInt a b) := by
  have hs := (sg_ne (a := a) hb).1
  have e1 : a.fdiv (sg a b) * sg a b = a := Int.fdiv_mul_cancel (by
    unfold sg
    split
    · exact Int.neg_dvd.mpr (Int.gcd_dvd_left a b)
    · exact Int.gcd_dvd_left a b)
  have e2 : b.fdiv (sg a b) * sg a b = b := Int.fdiv_mul_cancel (by
    unfold sg
    split
    · exact Int.neg_dvd.mpr (Int.gcd_dvd_right a b)
    · exact Int.gcd_dvd_right a b)
  have k : ∀ x y : Int, x * sg a b = y → x.natAbs ≤ y.natAbs := fun x y e => by
    rw [← e, Int.natAbs_mul]
    exact Nat.le_mul_of_pos_right _ (by omega)
  rw [sg_num hb] at e1
  rw [sg_den hb] at e2
  exact ⟨h1.le (k _ _ e1), h2.le (k _ _ e2)⟩
theorem rat_sum (q r : Rat) : Rat.divInt (q.num * r.den + r.num * q.den) (q.den * r.den) = q + r := by
  rw [← Rat.divInt_add_divInt _ _ (den_ne q) (den_ne r), Rat.num_divInt_den, Rat.num_divInt_den]
theorem rat_less (q r : Rat) : Rat.divInt (q.num * r.den - r.num * q.den) (q.den * r.den) = q - r := by
  rw [← Rat.divInt_sub_divInt _ _ (den_ne q) (den_ne r), Rat.num_divInt_den, Rat.num_divInt_den]
theorem rat_prod (q r : Rat) : Rat.divInt (q.num * r.num) (q.den * r.den) = q * r := by
  rw [← Rat.divInt_mul_divInt, Rat.num_divInt_den, Rat.num_divInt_den]
theorem rat_quot (q r : Rat) : Rat.divInt (q.num * r.den) (q.den * r.num) = q / r := by
  rw [Rat.div_def, Rat.inv_def, ← Rat.divInt_mul_divInt, Rat.num_divInt_den]
theorem Rb.add {m n : Nat} {q r : Rat} (hq : Rb m q) (hr : Rb n r) : Rb (m + n + 1) (q + r) := by
  rw [← rat_sum]
  exact rb_div (Int.mul_ne_zero (den_ne q) (den_ne r)) ((hq.1.mul hr.2).add ((hr.1.mul hq.2).mono (by omega))) ((hq.2.mul hr.2).mono (by omega))
theorem Rb.sub {m n : Nat} {q r : Rat} (hq : Rb m q) (hr : Rb n r) : Rb (m + n + 1) (q - r) := by
  rw [← rat_less]
  exact rb_div (Int.mul_ne_zero (den_ne q) (den_ne r)) ((hq.1.mul hr.2).sub ((hr.1.mul hq.2).mono (by omega))) ((hq.2.mul hr.2).mono (by omega))
theorem Rb.mul {m n : Nat} {q r : Rat} (hq : Rb m q) (hr : Rb n r) : Rb (m + n) (q * r) := by
  rw [← rat_prod]
  exact rb_div (Int.mul_ne_zero (den_ne q) (den_ne r)) (hq.1.mul hr.1) (hq.2.mul hr.2)
theorem num_ne {r : Rat} (h : r ≠ 0) : r.num ≠ 0 := fun e => h (Rat.num_eq_zero.mp e)
theorem Rb.div {m n : Nat} {q r : Rat} (hq : Rb m q) (hr : Rb n r) (h : r ≠ 0) : Rb (m + n) (q / r) := by
  rw [← rat_quot]
  exact rb_div (Int.mul_ne_zero (den_ne q) (num_ne h)) (hq.1.mul hr.2) (hq.2.mul hr.1)

/-! ### rules of numbers -/
section
variable {X : Cx}
theorem op_fdX : OpR X (binaryOp .FloorDiv) (rI (fun _ j => j ≠ 0 ∧ Bt 9000 j) fun i j => .int (i.fdiv j)) := opI fun _ _ _ _ _ _ _ hc q =>
  floordiv_int hc.1 q (.inl (PyProof.noPylong_of_log2 (PySem.Flt.log2_lt_of (by decide) hc.2)))
end
/-! the rules within a comprehension: the written part by name -/
section
variable {X : Cx} {K : PySem.W.Frag}
theorem call_isiC (h : X.K = K) : CallR X (.builtin "isinstance") (rIsi K) := h ▸ call_isi
theorem ix_listC (h : X.K = K) : IxR X (rIxL K) := h ▸ ix_list
theorem ix_tupC (h : X.K = K) : IxR X (rIxT K) := h ▸ ix_tup
theorem call_len_seqC (h : X.K = K) : CallR X (.builtin "len") (fun xs H Q => ∃ p ys, xs = [.ref p] ∧ (SqL K H p ys ∨ SqT K H p ys) ∧ Q (.int ys.length) H) := h ▸ call_len_seq
theorem pg_tupC {es : List Expr} {k : Nat} {t : TGs} {n : Nat} {pos : Pos} (hK : X.K = K) (hc : X.calm = true) (h : PGs X es t) (hn : (assignEach es X.env).length = n := by rfl) (hst : (assignEach es X.env).findIdx? (·.1) = none := by rfl) : PG X (.Tuple es k pos) (gTup K n t) := hK ▸ pg_tup hc h hn hst
theorem pi_listC {tg l : Expr} {tl : TE} (hK : X.K = K) (hl : PE X l tl) : PI X tg l (iList K tl) := hK ▸ pi_list hl
theorem pi_tupC {tg l : Expr} {tl : TE} (hK : X.K = K) (hl : PE X l tl) : PI X tg l (iTup K tl) := hK ▸ pi_tup hl
theorem op_eqDC (h : X.K = K) (hu : X.A.units + 64 < cLine) : OpR X (compareOp .Eq) (rEqD K) := h ▸ op_eqD hu
theorem op_neDC (h : X.K = K) (hu : X.A.units + 64 < cLine) : OpR X (compareOp .NotEq) (rNeD K) := h ▸ op_neD hu
end
theorem bt_lit {n : Nat} {x : Int} (h : x.natAbs < 2 ^ n) : Bt n x := h
theorem ite_yes {c A B : Prop} [Decidable c] (h : c) (a : A) : if c then A else B := by
  rw [if_pos h]
  exact a
theorem ite_no {c A B : Prop} [Decidable c] (h : ¬ c) (a : B) : if c then A else B := by
  rw [if_neg h]
  exact a
theorem sz_n {n : Nat} (h : n ≤ 1000) : n ≤ sizeLine := Nat.le_trans h (by decide)
/-! ### readings, one by one -/
theorem rd_v {i : Nat} {v : V} {σ : L2.St} {H : Hp} {Q : VK} (h : σ[i]? = some (some v)) (q : Q v H) : tVar i σ H Q := ⟨v, h, q⟩
theorem rd_c {v : V} {σ : L2.St} {H : Hp} {Q : VK} (q : Q v H) : tC v σ H Q := q
theorem rd_yes {σ : L2.St} {H : Hp} {Q : Bool → Hp → Prop} (q : Q true H) : tYes σ H Q := q
theorem rd_ixT {K : PySem.W.Frag} {i : Nat} {p : Addr} {xs : List V} {j : Int} {v : V} {σ : L2.St} {H : Hp} {Q : VK} (h : σ[i]? = some (some (.ref p))) (hp : H p = some (.tup xs)) (ha : atI xs j = some v) (q : Q v H) :
    tOp (rIxT K) (tVar i) (tC (.int j)) σ H Q := ⟨.ref p, h, p, xs, j, v, rfl, rfl, SqT.of hp, ha, q⟩
theorem rd_ixL {K : PySem.W.Frag} {i : Nat} {p : Addr} {xs : List V} {j : Int} {v : V} {σ : L2.St} {H : Hp} {Q : VK} (h : σ[i]? = some (some (.ref p))) (hp : H p = some (.lst xs)) (ha : atI xs j = some v) (q : Q v H) :
    tOp (rIxL K) (tVar i) (tC (.int j)) σ H Q := ⟨.ref p, h, p, xs, j, v, rfl, rfl, SqL.of hp, ha, q⟩
theorem rd_mul {m n : Nat} {i j : Int} {H : Hp} {Q : VK} (hm : Bt m i) (hn : Bt n j) (h : m + n ≤ 134217728) (q : Q (.int (i * j)) H) : rI CMulX (fun i j => .int (i * j)) (.int i) (.int j) H Q := ⟨i, j, rfl, rfl, mulx_ok hm hn h, q⟩
theorem rd_i0 {g : Int → Int → V} {i j : Int} {H : Hp} {Q : VK} (q : Q (g i j) H) : rI0 g (.int i) (.int j) H Q := ⟨i, j, rfl, rfl, q⟩
theorem rd_eqi {i j : Int} {H : Hp} {Q : VK} (q : Q (.bl (decide (i = j))) H) : rEq (.int i) (.int j) H Q := by
  refine ⟨rfl, ?_⟩
  have e : decide (V.int i = V.int j) = decide (i = j) := by
    by_cases h : i = j
    · rw [decide_eq_true h, decide_eq_true (congrArg V.int h)]
    · rw [decide_eq_false h, decide_eq_false fun z => h (V.int.inj z)]
  rw [e]
  exact q
theorem rd_asg {te : TE} {g : TG} {rest : TS} {D : Ends} {σ : L2.St} {H : Hp} (q : te σ H fun v H1 => g v σ H1 (rest D)) : tSeq (tAsg te g) rest D σ H := q
theorem rd_op {r : R2} {ta tb : TE} {σ : L2.St} {H : Hp} {Q : VK} (q : ta σ H fun x H1 => tb σ H1 fun y H2 => r x y H2 Q) : tOp r ta tb σ H Q := q
theorem rd_lst {t : TA} {σ : L2.St} {H : Hp} {Q : VK} (q : t σ H fun xs H1 => xs.length ≤ sizeLine ∧ ∀ p, H1 p = none → Q (.ref p) (upd H1 p (.lst xs))) : tLst t σ H Q := q
def forK (g : TG) (tb : TS) (D : Ends) (σ0 : L2.St) : It → Hp → Prop := fun J H1 => ∃ W : Nat → Nat → L2.St → Hp → Prop, (∃ m, W 0 m σ0 H1) ∧ ∀ i m σ H, W i m σ H →
  (J.stop i H ∧ D.nx σ H) ∨ (J.go i H ∧ ∃ N : L2.St → Hp → Prop, (∀ σ' H', N σ' H' → ∃ m', m' < m ∧ W (i + 1) m' σ' H') ∧ ∀ x H', J.yld i H x H' → g x σ H' fun σ2 H2 => tb { D with nx := N, ct := N, bk := D.nx } σ2 H2)
theorem rd_for {wi : TI} {g : TG} {tb : TS} {D : Ends} {σ : L2.St} {H : Hp} (q : wi σ H (forK g tb D σ)) : tFor wi g tb D σ H := q
theorem rd_forS {wi : TI} {g : TG} {tb rest : TS} {D : Ends} {σ : L2.St} {H : Hp} (q : wi σ H (forK g tb { D with nx := rest D } σ)) : tSeq (tFor wi g tb) rest D σ H := q
theorem rd_iL {K : PySem.W.Frag} {tl : TE} {σ : L2.St} {H : Hp} {R : It → Hp → Prop} (q : tl σ H fun x H1 => ∃ a, x = .ref a ∧ (∃ xs, SqL K H1 a xs) ∧ R (Itl K a) H1) : iList K tl σ H R := q
theorem rd_cons {te : TE} {ta : TA} {σ : L2.St} {H : Hp} {Q : List V → Hp → Prop} (q : te σ H fun x H1 => ta σ H1 fun xs H2 => Q (x :: xs) H2) : tCons te ta σ H Q := q
theorem rd_ret {te : TE} {D : Ends} {σ : L2.St} {H : Hp} (q : te σ H D.rt) : tRet te D σ H := q
theorem rd_tup {t : TA} {σ : L2.St} {H : Hp} {Q : VK} (q : t σ H fun xs H1 => xs.length ≤ sizeLine ∧ ∀ p, H1 p = none → Q (.ref p) (upd H1 p (.tup xs))) : tTup t σ H Q := q
/-! ### heaps -/
theorem same_upd {H : Hp} {p : Addr} {o : HO} (h : H p = none) : Same H (upd H p o) := fun b x e => by
  rw [upd_ne (ne_of_none e h)]
  exact e
theorem same_tup {K : PySem.W.Frag} {H H' : Hp} {a : Addr} {xs : List V} (e : Same H H') (h : SqT K H a xs) : SqT K H' a xs := by
  rcases h with (h | ⟨o, h⟩) | h
  · exact .inl (.inl (e _ _ h))
  · exact .inl (.inr ⟨o, e _ _ h⟩)
  · exact .inr h
/-- a fraction as it stands -/
def FrV (H : Hp) (v : V) (q : Rat) : Prop := ∃ p, v = .ref p ∧ H p = some (.tup [.int q.num, .int (q.den : Int)])
theorem FrV.same {H H' : Hp} {v : V} {q : Rat} (e : Same H H') (h : FrV H v q) : FrV H' v q := by
  obtain ⟨p, rfl, h⟩ := h
  exact ⟨p, rfl, e _ _ h⟩
theorem frv_new {H : Hp} {p : Addr} {a b : Int} {q : Rat} (e1 : a = q.num) (e2 : b = (q.den : Int)) : FrV (upd H p (.tup [.int a, .int b])) (.ref p) q := by
  subst e1 e2
  exact ⟨p, rfl, upd_same⟩
theorem FrV.dp {K : PySem.W.Frag} {H : Hp} {v : V} {q : Rat} (h : FrV H v q) : Dp K H v (.tuple [.int q.num, .int (q.den : Int)]) := by
  obtain ⟨p, rfl, h⟩ := h
  exact Dp.tup (SqT.of h) (DpAll.cons (Dp.int _) (DpAll.cons (Dp.int _) DpAll.nil))
theorem nd_ne {a b : V} (e : (!decide (a = b)) = true) : a ≠ b := fun z => by
  rw [decide_eq_true z] at e
  cases e
theorem nd_eq {a b : V} (e : ¬ (!decide (a = b)) = true) : a = b := Decidable.byContradiction fun z => e (by
  rw [decide_eq_false z]
  rfl)
theorem eqv2 (x y a b : Int) : PyData.eqv (.tuple [.int x, .int y]) (.tuple [.int a, .int b]) = (decide (x = a) && decide (y = b)) := by
  simp [PyData.eqv, PyData.eqvAll, Bool.beq_eq_decide_eq]
/-! ### the deck: all else stands -/
def Keep (d l : Addr) (H H' : Hp) : Prop := ∀ a o, H a = some o → a ≠ d → a ≠ l → H' a = some o
theorem Keep.refl {d l : Addr} {H : Hp} : Keep d l H H := fun _ _ h _ _ => h
theorem Keep.trans {d l : Addr} {H H1 H2 : Hp} (a : Keep d l H H1) (b : Keep d l H1 H2) : Keep d l H H2 := fun x o h h1 h2 => b x o (a x o h h1 h2) h1 h2
theorem same_keep {d l : Addr} {H H' : Hp} (e : Same H H') : Keep d l H H' := fun a o h _ _ => e a o h
theorem keep_d {d l : Addr} {H : Hp} {o : HO} : Keep d l H (upd H d o) := fun a u h h1 _ => by
  rw [upd_ne h1]
  exact h
theorem keep_l {d l : Addr} {H : Hp} {o : HO} : Keep d l H (upd H l o) := fun a u h _ h2 => by
  rw [upd_ne h2]
  exact h
theorem keep_new {d l p : Addr} {H : Hp} {o : HO} (h : H p = none) : Keep d l H (upd H p o) := same_keep (same_upd h)
theorem Keep.sq {K : PySem.W.Frag} {d l s : Addr} {H H' : Hp} {xs : List V} (k : Keep d l H H') (h1 : s ≠ d) (h2 : s ≠ l) (h : SqL K H s xs) : SqL K H' s xs := by
  rcases h with (h | ⟨o, h⟩) | h
  · exact .inl (.inl (k _ _ h h1 h2))
  · exact .inl (.inr ⟨o, k _ _ h h1 h2⟩)
  · exact .inr h
/-- the script: of the written part, or tracked beside the deck -/
def Sct (K : PySem.W.Frag) (H : Hp) (d l s : Addr) (xs : List V) : Prop := (∀ H', SqL K H' s xs) ∨ (SqL K H s xs ∧ s ≠ d ∧ s ≠ l)
theorem Sct.sq {K : PySem.W.Frag} {H : Hp} {d l s : Addr} {xs : List V} (h : Sct K H d l s xs) : SqL K H s xs := by
  rcases h with h | h
  · exact h H
  · exact h.1
theorem Sct.keep {K : PySem.W.Frag} {H H' : Hp} {d l s : Addr} {xs : List V} (h : Sct K H d l s xs) (k : Keep d l H H') : Sct K H' d l s xs := by
  rcases h with h | ⟨h, h1, h2⟩
  · exact .inl h
  · exact .inr ⟨k.sq h1 h2 h, h1, h2⟩
theorem sct_of {K : PySem.W.Frag} {H H' : Hp} {d l s : Addr} {xs : List V} (h : SqL K H s xs) (e : Same H H') (nd : H d = none) (nl : H l = none) : Sct K H' d l s xs := by
  rcases h with (h | ⟨o, h⟩) | h
  · exact .inr ⟨.inl (.inl (e _ _ h)), ne_of_none h nd, ne_of_none h nl⟩
  · exact .inr ⟨.inl (.inr ⟨o, e _ _ h⟩), ne_of_none h nd, ne_of_none h nl⟩
  · exact .inl fun _ => .inr h
/-- the deck at d: the script at s, the numbers at l -/
def Dk (K : PySem.W.Frag) (H : Hp) (d l s : Addr) (ns : List Int) (c : Nat) : Prop :=
  ∃ (xs : List Int) (i k : Nat), H d = some (.lst [.ref s, .ref l, .int (i : Int), .int (k : Int)]) ∧ H l = some (.lst (xs.map V.int)) ∧ k ≤ c ∧ Sct K H d l s (ns.map V.int)
theorem Dk.mono {K : PySem.W.Frag} {H : Hp} {d l s : Addr} {ns : List Int} {c c' : Nat} (h : Dk K H d l s ns c) (hc : c ≤ c') : Dk K H d l s ns c' := by
  obtain ⟨xs, i, k, h1, h2, h3, h4⟩ := h
  exact ⟨xs, i, k, h1, h2, Nat.le_trans h3 hc, h4⟩
theorem Dk.same {K : PySem.W.Frag} {H H' : Hp} {d l s : Addr} {ns : List Int} {c : Nat} (h : Dk K H d l s ns c) (e : Same H H') : Dk K H' d l s ns c := by
  obtain ⟨xs, i, k, h1, h2, h3, h4⟩ := h
  exact ⟨xs, i, k, e _ _ h1, e _ _ h2, h3, h4.keep (same_keep e)⟩
theorem Dk.new {K : PySem.W.Frag} {H : Hp} {d l s p : Addr} {o : HO} {ns : List Int} {c : Nat} (h : Dk K H d l s ns c) (hp : H p = none) : Dk K (upd H p o) d l s ns c := h.same (same_upd hp)
/-- what is no list is not the deck's -/
theorem Keep.at {K : PySem.W.Frag} {H H' : Hp} {d l s a : Addr} {ns : List Int} {c : Nat} {o : HO} (k : Keep d l H H') (h : Dk K H d l s ns c) (e : H a = some o) (no : ∀ xs, o ≠ .lst xs) : H' a = some o := by
  obtain ⟨xs, i, n, h1, h2, _⟩ := h
  exact k a o e (ne_of e h1 (no _)) (ne_of e h2 (no _))
theorem Keep.tup {K : PySem.W.Frag} {H H' : Hp} {d l s a : Addr} {ns : List Int} {c : Nat} {xs : List V} (k : Keep d l H H') (h : Dk K H d l s ns c) (e : H a = some (.tup xs)) : H' a = some (.tup xs) :=
  k.at h e fun _ z => by cases z
theorem Keep.fr {K : PySem.W.Frag} {H H' : Hp} {d l s : Addr} {ns : List Int} {c : Nat} {v : V} {q : Rat} (k : Keep d l H H') (h : Dk K H d l s ns c) (f : FrV H v q) : FrV H' v q := by
  obtain ⟨p, rfl, e⟩ := f
  exact ⟨p, rfl, k.tup h e⟩
theorem Dk.ne {K : PySem.W.Frag} {H : Hp} {d l s : Addr} {ns : List Int} {c : Nat} (h : Dk K H d l s ns c) : d ≠ l := by
  obtain ⟨xs, i, n, h1, h2, _⟩ := h
  refine ne_of h1 h2 fun z => ?_
  cases xs with
  | nil => cases z
  | cons x r => cases z

/-! ### rows of fractions -/
def AF (H : Hp) : List V → List Rat → Prop
  | [], [] => True
  | v :: vs, q :: qs => FrV H v q ∧ AF H vs qs
  | _, _ => False
theorem AF.imp {H H' : Hp} (k : ∀ v q, FrV H v q → FrV H' v q) : ∀ {vs : List V} {qs : List Rat}, AF H vs qs → AF H' vs qs
  | [], [], _ => trivial
  | v :: vs, q :: qs, h => ⟨k v q h.1, AF.imp k h.2⟩
  | [], _ :: _, h => h.elim
  | _ :: _, [], h => h.elim
theorem AF.len {H : Hp} : ∀ {vs : List V} {qs : List Rat}, AF H vs qs → vs.length = qs.length
  | [], [], _ => rfl
  | v :: vs, q :: qs, h => congrArg (· + 1) (AF.len h.2)
  | [], _ :: _, h => h.elim
  | _ :: _, [], h => h.elim
theorem AF.get {H : Hp} : ∀ {vs : List V} {qs : List Rat} {i : Nat} {v : V}, AF H vs qs → vs[i]? = some v → ∃ q, qs[i]? = some q ∧ FrV H v q
  | [], [], _, _, _, e => by simp at e
  | w :: vs, q :: qs, 0, v, h, e => ⟨q, rfl, by
      have e : w = v := Option.some.inj e
      exact e ▸ h.1⟩
  | w :: vs, q :: qs, i + 1, v, h, e => AF.get (i := i) h.2 e
  | [], _ :: _, _, _, h, _ => h.elim
  | _ :: _, [], _, _, h, _ => h.elim
theorem AF.snoc {H : Hp} {v : V} {q : Rat} (hv : FrV H v q) : ∀ {vs : List V} {qs : List Rat}, AF H vs qs → AF H (vs ++ [v]) (qs ++ [q])
  | [], [], _ => ⟨hv, trivial⟩
  | w :: vs, r :: qs, h => ⟨h.1, AF.snoc hv h.2⟩
  | [], _ :: _, h => h.elim
  | _ :: _, [], h => h.elim
theorem AF.same {H H' : Hp} (e : Same H H') {vs : List V} {qs : List Rat} (h : AF H vs qs) : AF H' vs qs := AF.imp (fun _ _ f => f.same e) h
theorem frv_lst {H : Hp} {D : Addr} {acc acc' : List V} {v : V} {q : Rat} (hD : H D = some (.lst acc)) (h : FrV H v q) : FrV (upd H D (.lst acc')) v q := by
  obtain ⟨p, rfl, h⟩ := h
  refine ⟨p, rfl, ?_⟩
  rw [upd_ne (ne_of h hD fun z => by cases z)]
  exact h
theorem AF.lst {H : Hp} {D : Addr} {acc acc' : List V} {vs : List V} {qs : List Rat} (hD : H D = some (.lst acc)) (h : AF H vs qs) : AF (upd H D (.lst acc')) vs qs := AF.imp (fun _ _ f => frv_lst hD f) h
/-- a tuple of fractions: a point -/
def PtV (H : Hp) (v : V) (qs : List Rat) : Prop := ∃ p xs, v = .ref p ∧ H p = some (.tup xs) ∧ AF H xs qs
theorem PtV.same {H H' : Hp} {v : V} {qs : List Rat} (e : Same H H') (h : PtV H v qs) : PtV H' v qs := by
  obtain ⟨p, xs, rfl, h, a⟩ := h
  exact ⟨p, xs, rfl, e _ _ h, a.same e⟩
theorem Keep.pt {K : PySem.W.Frag} {H H' : Hp} {d l s : Addr} {ns : List Int} {c : Nat} {v : V} {qs : List Rat} (k : Keep d l H H') (h : Dk K H d l s ns c) (f : PtV H v qs) : PtV H' v qs := by
  obtain ⟨p, xs, rfl, e, a⟩ := f
  exact ⟨p, xs, rfl, k.tup h e, AF.imp (fun _ _ f => k.fr h f) a⟩
def Rs (n : Nat) (qs : List Rat) : Prop := ∀ q ∈ qs, Rb n q
theorem rs_get {n : Nat} {qs : List Rat} {i : Nat} {q : Rat} (h : Rs n qs) (e : qs[i]? = some q) : Rb n q := h q (List.mem_of_getElem? e)
def rsum : List Rat → Rat
  | [] => 0
  | q :: r => q + rsum r
theorem rsum_snoc (q : Rat) : ∀ l : List Rat, rsum (l ++ [q]) = rsum l + q
  | [] => by
    show q + 0 = 0 + q
    grind
  | r :: l => by
    show r + rsum (l ++ [q]) = r + rsum l + q
    rw [rsum_snoc q l]
    grind
def prods (qs rs : List Rat) : List Rat := List.zipWith (fun q r => q * r) qs rs
theorem take_succ {α : Type} {l : List α} {i : Nat} {x : α} (h : l[i]? = some x) : l.take (i + 1) = l.take i ++ [x] := by
  rw [List.take_add_one, h]
  rfl
theorem prods_at {qs rs : List Rat} {i : Nat} {q r : Rat} (h1 : qs[i]? = some q) (h2 : rs[i]? = some r) : (prods qs rs)[i]? = some (q * r) := by
  unfold prods
  rw [List.getElem?_zipWith, h1, h2]
theorem dot_step {qs rs : List Rat} {i : Nat} {q r : Rat} (h1 : qs[i]? = some q) (h2 : rs[i]? = some r) : rsum ((prods qs rs).take (i + 1)) = rsum ((prods qs rs).take i) + q * r := by
  rw [take_succ (prods_at h1 h2), rsum_snoc]
/-- one turn of dot over whole numbers -/
theorem dot_turn {a b : Int} {q r S : Rat} (hb : b ≠ 0) (e : Rat.divInt a b = S) :
    Rat.divInt (a * ((q.den : Int) * (r.den : Int)) + q.num * r.num * b) (b * ((q.den : Int) * (r.den : Int))) = S + q * r := by
  rw [← e, ← rat_prod q r, Rat.divInt_add_divInt _ _ hb (Int.mul_ne_zero (den_ne q) (den_ne r))]
theorem walk_zipT {K : PySem.W.Frag} {a b : Addr} {xs ys : List V} {n : Nat} (hn : n = min xs.length ys.length) : Walk (RZ.ItzT K a b) n (fun H => SqT K H a xs ∧ SqT K H b ys) (YPair (fun i => xs[i]?) (fun i => ys[i]?)) := by
  subst hn
  refine ⟨fun i _ hi q => ?_, fun _ q => ⟨xs, ys, q.1, q.2, by omega⟩, fun i H v H' _ q y => ?_⟩
  · have h1 : i < xs.length := by omega
    have h2 : i < ys.length := by omega
    exact ⟨xs, ys, xs[i], ys[i], q.1, q.2, by simp [h1], by simp [h2]⟩
  · obtain ⟨T, x, z, h1, h2, h3, h4, h5⟩ := y
    exact ⟨T, x, z, h1, h2, h3, h4 xs q.1, h5 ys q.2⟩

section
variable {P : Program} {w : World} {K : PySem.W.Frag} {mg : Str → Option Value} {base : Heap}
def sp_frac : Sp := fun vs H Q _ => ∃ a b : Int, vs = [.int a, .int b] ∧ b ≠ 0 ∧ Bt 9000 b ∧ ∀ H' v, Same H H' → FrV H' v (Rat.divInt a b) → Q v H'
theorem ok_frac (T : Tx K mg) : FnOk P w K mg base CX0 1 T.f_frac T.d_frac ["above", "below"] sp_frac := by
  refine T.F_frac.ok sc_frac (fun vs H Q E h => ?_) (fun cdv A outer s H vs Q E hr h => ?_)
  · obtain ⟨a, b, rfl, _⟩ := h
    rfl
  · obtain ⟨a, b, rfl, hb, hB, q⟩ := h
    refine ⟨_, (pss_cons (ps_par (i := 2) (j := 3) (by rfl) sc_frac.nd rfl rfl (by decide) rfl rfl (pa_cons (pv 1) (pa_cons (pe_op op_modN (pv 0) (pv 1)) pa_nil)) (by rfl))
      (pss_cons (ps_while PassesOwn.never (pt_truth (pv 3) (by intro _; rfl)) (pss_one (ps_par (i := 2) (j := 3) (by rfl) sc_frac.nd rfl rfl (by decide) rfl rfl (pa_cons (pv 3) (pa_cons (pe_op op_modN (pv 2) (pv 3)) pa_nil)) (by rfl))))
      (pss_one (ps_ret (pe_tup (pa_cons (pe_op op_fdX (pv 0) (pv 2)) (pa_cons (pe_op op_fdX (pv 1) (pv 2)) pa_nil))))))), ?_⟩
    refine ⟨.int b, rfl, .int a, rfl, .int b, rfl, a, b, rfl, rfl, hb, _, _, rfl, ?_⟩
    refine ⟨fun m σ H' => H' = H ∧ ∃ x y : Int, σ = [some (.int a), some (.int b), some (.int x), some (.int y)] ∧ m = y.natAbs ∧ GInv a b x y, ⟨_, rfl, b, a.fmod b, rfl, rfl, GInv.start hb⟩, fun m σ H2 hW => ?_⟩
    obtain ⟨rfl, x, y, rfl, rfl, inv⟩ := hW
    refine ⟨.int y, rfl, y != 0, rfl, ?_⟩
    by_cases hy : y = 0
    · subst hy
      refine iteF ?_
      have ex := inv.fin
      obtain ⟨n1, n2⟩ := inv.ne
      have bx : Bt 9000 x := hB.le n2
      refine ⟨.int a, rfl, .int x, rfl, a, x, rfl, rfl, ⟨n1, bx⟩, .int b, rfl, .int x, rfl, b, x, rfl, rfl, ⟨n1, bx⟩, sz_n (by decide : 2 ≤ 1000), fun p hp => q _ _ (same_upd hp) ?_⟩
      subst ex
      exact frv_new (sg_num hb) (sg_den hb)
    · have hyb : (y != 0) = true := by simpa using hy
      refine ite_yes hyb ?_
      have nx := inv.next hy
      refine ⟨fun σ' H' => ∃ m', m' < y.natAbs ∧ H' = H2 ∧ ∃ x y : Int, σ' = [some (.int a), some (.int b), some (.int x), some (.int y)] ∧ m' = y.natAbs ∧ GInv a b x y, fun _ _ h => h, ?_⟩
      exact ⟨.int y, rfl, .int x, rfl, .int y, rfl, x, y, rfl, rfl, hy, _, _, rfl, _, nx.2, rfl, y, x.fmod y, rfl, rfl, nx.1⟩
theorem b2 {m n : Nat} (hm : m ≤ 4000) (hn : n ≤ 4000) : m + n ≤ 134217728 := by omega
def sp_two (f : Rat → Rat → Rat) (ok : Rat → Prop) : Sp := fun vs H Q _ => ∃ v1 v2 q r, vs = [v1, v2] ∧ FrV H v1 q ∧ FrV H v2 r ∧ Rb 4000 q ∧ Rb 4000 r ∧ ok r ∧ ∀ H' v, Same H H' → FrV H' v (f q r) → Q v H'
/-- the same, of fractions of any sizes that a division bears -/
def sp_twoG (f : Rat → Rat → Rat) (ok : Rat → Prop) : Sp := fun vs H Q _ => ∃ v1 v2 q r m n, vs = [v1, v2] ∧ FrV H v1 q ∧ FrV H v2 r ∧ Rb m q ∧ Rb n r ∧ m + n ≤ 9000 ∧ ok r ∧ ∀ H' v, Same H H' → FrV H' v (f q r) → Q v H'
theorem two_lenG {f : Rat → Rat → Rat} {ok : Rat → Prop} {vs : List V} {H : Hp} {Q : VK} {E : XK} (h : sp_twoG f ok vs H Q E) : vs.length = 2 := by
  obtain ⟨_, _, _, _, _, _, rfl, _⟩ := h
  rfl
theorem two_G {f : Rat → Rat → Rat} {ok : Rat → Prop} (vs : List V) (H : Hp) (Q : VK) (E : XK) (h : sp_two f ok vs H Q E) : sp_twoG f ok vs H Q E := by
  obtain ⟨v1, v2, q, r, e, f1, f2, b1, b2, k⟩ := h
  exact ⟨v1, v2, q, r, 4000, 4000, e, f1, f2, b1, b2, by decide, k⟩
theorem two_len {f : Rat → Rat → Rat} {ok : Rat → Prop} {vs : List V} {H : Hp} {Q : VK} {E : XK} (h : sp_two f ok vs H Q E) : vs.length = 2 := by
  obtain ⟨_, _, _, _, rfl, _⟩ := h
  rfl
end

section
variable {P : Program} {w : World} {K : PySem.W.Frag} {mg : Str → Option Value} {base : Heap}
/-! ### gcd, share -/
def sp_gcd : Sp := fun vs H Q _ => ∃ a b : Int, vs = [.int a, .int b] ∧ Q (.int (Int.gcd a b : Int)) H
theorem ok__law_gcd (T : Tx K mg) : FnOk P w K mg base CX0 1 T.f__law_gcd T.d__law_gcd ["_law_one", "_law_other"] sp_gcd := by
  refine T.F__law_gcd.ok sc__law_gcd (fun vs H Q E h => ?_) (fun cdv A outer s H vs Q E hr h => ?_)
  · obtain ⟨a, b, rfl, _⟩ := h
    rfl
  · obtain ⟨a, b, rfl, q⟩ := h
    refine ⟨_, (pss_cons (ps_set (i := 0) sc__law_gcd.nd rfl (Or.inl rfl) (pe_callB call_abs (by rfl) T.m_abs (by decide +kernel) (pa_cons (pv 0) pa_nil)))
      (pss_cons (ps_set (i := 1) sc__law_gcd.nd rfl (Or.inl rfl) (pe_callB call_abs (by rfl) T.m_abs (by decide +kernel) (pa_cons (pv 1) pa_nil)))
      (pss_cons (ps_while PassesOwn.never (pt_cmpR op_gt (pv 1) pe_int (nomark _)) (pss_one (ps_par (i := 0) (j := 1) (by rfl) sc__law_gcd.nd rfl rfl (by decide) rfl rfl (pa_cons (pv 1) (pa_cons (pe_op op_modN (pv 0) (pv 1)) pa_nil)) (by rfl))))
      (pss_one (ps_ret (pv 0)))))), ?_⟩
    refine ⟨.int a, rfl, a, rfl, .int b, rfl, b, rfl, ?_⟩
    refine ⟨fun m σ H' => H' = H ∧ ∃ x y : Int, σ = [some (.int x), some (.int y)] ∧ m = y.natAbs ∧ HInv a b x y, ⟨_, rfl, _, _, rfl, rfl, gcd_abs a b, by split <;> omega, by split <;> omega⟩, fun m σ H2 hW => ?_⟩
    obtain ⟨rfl, x, y, rfl, rfl, inv⟩ := hW
    refine ⟨.int y, rfl, y, 0, rfl, rfl, _, rfl, ite2 (fun e => ?_) (fun e => ?_)⟩
    · have hy := of_decide_eq_true e
      have nx := inv.next hy
      refine ⟨fun σ' H' => ∃ m', m' < y.natAbs ∧ H' = H2 ∧ ∃ x y : Int, σ' = [some (.int x), some (.int y)] ∧ m' = y.natAbs ∧ HInv a b x y, fun _ _ h => h, ?_⟩
      exact ⟨.int y, rfl, .int x, rfl, .int y, rfl, x, y, rfl, rfl, by omega, _, _, rfl, _, nx.2, rfl, y, x.fmod y, rfl, rfl, nx.1⟩
    · have hy : ¬ 0 < y := fun z => e (decide_eq_true z)
      have ex := inv.fin hy
      subst ex
      exact ⟨_, rfl, q⟩
theorem ok__law_share (T : Tx K mg) : FnOk P w K mg base CX0 2 T.f__law_share T.d__law_share ["_law_top", "_law_bottom"] sp_frac := by
  have G__law_gcd := ok__law_gcd (P := P) (w := w) (base := base) T
  refine T.F__law_share.ok sc__law_share (fun vs H Q E h => ?_) (fun cdv A outer s H vs Q E hr h => ?_)
  · obtain ⟨a, b, rfl, _⟩ := h
    rfl
  · obtain ⟨a, b, rfl, hb, hB, q⟩ := h
    refine ⟨_, (pss_cons (ps_set (i := 2) sc__law_share.nd rfl (Or.inl rfl) (pe_call G__law_gcd (hr.mono (by first | decide | omega)) (by rfl) T.g__law_gcd T.F__law_gcd.kp T.b__law_gcd .nil pass0 (pa_cons (pv 0) (pa_cons (pv 1) pa_nil))))
      (pss_cons (ps_if (pt_cmpR op_lt (pv 1) pe_int (nomark _)) (pss_one (ps_set (i := 2) sc__law_share.nd rfl (Or.inl rfl) (pe_un un_neg (pv 2)))) pss_nil)
      (pss_one (ps_ret (pe_tup (pa_cons (pe_op op_fdX (pv 0) (pv 2)) (pa_cons (pe_op op_fdX (pv 1) (pv 2)) pa_nil))))))), ?_⟩
    have sn := sg_ne (a := a) hb
    have bx : Bt 9000 (sg a b) := hB.le sn.2
    have fin : ∀ x : Int, x = sg a b → tRet (tTup (tCons (tOp (rI (fun _ j => j ≠ 0 ∧ Bt 9000 j) fun i j => V.int (i.fdiv j)) (tVar 0) (tVar 2)) (tCons (tOp (rI (fun _ j => j ≠ 0 ∧ Bt 9000 j) fun i j => V.int (i.fdiv j)) (tVar 1) (tVar 2)) tNil))) { nx := fun _ H' => Q .non H', rt := Q } [some (.int a), some (.int b), some (.int x)] H := fun x ex => by
      subst ex
      exact ⟨.int a, rfl, .int (sg a b), rfl, a, sg a b, rfl, rfl, ⟨sn.1, bx⟩, .int b, rfl, .int (sg a b), rfl, b, sg a b, rfl, rfl, ⟨sn.1, bx⟩, sz_n (by decide : 2 ≤ 1000), fun p hp => q _ _ (same_upd hp) (frv_new (sg_num hb) (sg_den hb))⟩
    refine ⟨.int a, rfl, .int b, rfl, a, b, rfl, ?_⟩
    refine ⟨.int b, rfl, b, 0, rfl, rfl, _, rfl, ite2 (fun e => ?_) (fun e => ?_)⟩
    · have e := of_decide_eq_true e
      refine ⟨_, rfl, _, rfl, fin _ ?_⟩
      unfold sg
      rw [if_pos e]
    · have e : ¬ b < 0 := fun z => e (decide_eq_true z)
      refine fin _ ?_
      unfold sg
      rw [if_neg e]
theorem bt_small {x : Int} (h : x.natAbs < 2 ^ 100) : Bt 9000 x := Nat.lt_of_lt_of_le h (Nat.pow_le_pow_right (by decide) (by decide))
theorem bt13 : Bt 9000 13 := bt_small (by decide)
/-! ### draws -/
def sp_cell (K : PySem.W.Frag) : Sp := fun vs H Q _ => ∃ (s : Addr) (ns : List Int) (k : Nat), vs = [.ref s, .int (k : Int)] ∧ SqL K H s (ns.map V.int) ∧ k < 2 ^ 41 ∧ ∀ v, 0 ≤ v → Q (.int v) H
theorem ok__law_cell (T : Tx K mg) : FnOk P w K mg base CX0 1 T.f__law_cell T.d__law_cell ["_law_script", "_law_k"] (sp_cell K) := by
  refine T.F__law_cell.ok sc__law_cell (fun vs H Q E h => ?_) (fun cdv A outer s H vs Q E hr h => ?_)
  · obtain ⟨a, b, c, rfl, _⟩ := h
    rfl
  · obtain ⟨s, ns, k, rfl, hs, hk, q⟩ := h
    refine ⟨_, (pss_cons (ps_if (pt_cmpR op_eq (pe_callB call_len_seq (by rfl) T.m_len (by decide +kernel) (pa_cons (pv 0) pa_nil)) pe_int (nomark _)) (pss_one (ps_ret (pe_op op_add (pe_op op_mulX pe_int (pv 1)) pe_int))) pss_nil)
      (pss_one (ps_ret (pe_callB call_abs (by rfl) T.m_abs (by decide +kernel) (pa_cons (pe_ix ix_list (pv 0) (pe_op op_modN (pv 1) (pe_callB call_len_seq (by rfl) T.m_len (by decide +kernel) (pa_cons (pv 0) pa_nil))) (fun _ _ => rfl)) pa_nil))))), ?_⟩
    refine ⟨.ref s, rfl, s, _, rfl, .inl hs, rd_c (rd_eqi ⟨_, rfl, ite2 (fun e => ?_) (fun e => ?_)⟩)⟩
    · exact ⟨.int (k : Int), rfl, 7, (k : Int), rfl, rfl, mulx_ok (a := 3) (b := 41) (by decide) (by omega) (by decide), _, 3, rfl, rfl, q _ (by omega)⟩
    · have e : ¬ (((ns.map V.int).length : Int) = 0) := fun z => e (decide_eq_true z)
      rw [List.length_map] at e
      have f := @fmod_pos (k : Int) (ns.length : Int) (by omega)
      have hj : ((k : Int).fmod (ns.length : Int)).toNat < ns.length := by omega
      refine ⟨.ref s, rfl, .int (k : Int), rfl, .ref s, rfl, s, _, rfl, .inl hs, (k : Int), ((ns.map V.int).length : Int), rfl, rfl, (by rw [List.length_map]; exact e), s, _, _, .int ns[((k : Int).fmod (ns.length : Int)).toNat], rfl, rfl, hs, ?_, _, rfl, q _ (by split <;> omega)⟩
      refine at_of (j := ((k : Int).fmod (ns.length : Int)).toNat) ?_ ?_
      · show (k : Int).fmod ((ns.map V.int).length : Int) = _
        rw [List.length_map]
        omega
      · rw [List.getElem?_map, List.getElem?_eq_getElem hj]
        rfl
def sp_mixed (K : PySem.W.Frag) : Sp := fun vs H Q _ => ∃ (s : Addr) (ns : List Int) (k : Nat) (m : Int), vs = [.ref s, .int (k : Int), .int m] ∧ SqL K H s (ns.map V.int) ∧ k < 2 ^ 41 ∧ 0 < m ∧ ∀ v, 0 ≤ v → v < m → Q (.int v) H
theorem ok__law_mixed (T : Tx K mg) : FnOk P w K mg base CX0 2 T.f__law_mixed T.d__law_mixed ["_law_script", "_law_k", "_law_many"] (sp_mixed K) := by
  have G__law_cell := ok__law_cell (P := P) (w := w) (base := base) T
  refine T.F__law_mixed.ok sc__law_mixed (fun vs H Q E h => ?_) (fun cdv A outer s H vs Q E hr h => ?_)
  · obtain ⟨a, b, c, d, rfl, _⟩ := h
    rfl
  · obtain ⟨s, ns, k, m, rfl, hs, hk, hm, q⟩ := h
    refine ⟨_, (pss_cons (ps_set (i := 3) sc__law_mixed.nd rfl (Or.inl rfl) (pe_op op_modN (pe_op op_pow (pe_op op_add (pe_op op_mulX (pe_op op_add (pe_op op_modN (pe_call G__law_cell (hr.mono (by first | decide | omega)) (by rfl) T.g__law_cell T.F__law_cell.kp T.b__law_cell .nil pass0 (pa_cons (pv 0) (pa_cons (pv 1) pa_nil))) pe_int) pe_int) (pe_op op_add (pv 1) pe_int)) (pe_op op_mulX pe_int (pv 1))) pe_int) pe_int))
      (pss_one (ps_ret (pe_op op_modN (pe_op op_fdX (pv 3) pe_int) (pv 2))))), ?_⟩
    refine ⟨.ref s, rfl, .int (k : Int), rfl, s, ns, k, rfl, hs, hk, fun v hv => ?_⟩
    have f := @fmod_pos v 1000003 (by decide)
    refine ⟨v, 1000003, rfl, rfl, (show (1000003 : Int) ≠ 0 by decide), _, 5, rfl, rfl, .int (k : Int), rfl, (k : Int), 2, rfl, rfl, _, _, rfl, rfl, mulx_ok (a := 20) (b := 42) (by omega) (by omega) (by decide), .int (k : Int), rfl, 7919, (k : Int), rfl, rfl, mulx_ok (a := 13) (b := 41) (by decide) (by omega) (by decide), _, _, rfl, rfl, ?_⟩
    have hu : ((v.fmod 1000003 + 5) * ((k : Int) + 2) + 7919 * (k : Int)).natAbs < 2 ^ 64 := by
      have h1 : (v.fmod 1000003 + 5) * ((k : Int) + 2) ≤ 1000008 * ((k : Int) + 2) := Int.mul_le_mul_of_nonneg_right (by omega) (by omega)
      have h0 : 0 ≤ (v.fmod 1000003 + 5) * ((k : Int) + 2) := Int.mul_nonneg (by omega) (by omega)
      omega
    refine ⟨_, 5, rfl, rfl, ⟨by decide, by decide, hu⟩, _, 2147483647, rfl, rfl, (show (2147483647 : Int) ≠ 0 by decide), ?_⟩
    refine ⟨_, rfl, _, 13, rfl, rfl, ⟨by decide, bt13⟩, .int m, rfl, _, m, rfl, rfl, (show m ≠ 0 by omega), ?_⟩
    have g := @fmod_pos (((((v.fmod 1000003 + 5) * ((k : Int) + 2) + 7919 * (k : Int)) ^ (5 : Int).toNat).fmod 2147483647).fdiv 13) m hm
    exact q _ g.1 g.2
end

section
variable {P : Program} {w : World} {K : PySem.W.Frag} {mg : Str → Option Value} {base : Heap}
def sp_take (K : PySem.W.Frag) : Sp := fun vs H Q _ => ∃ (d l s : Addr) (ns : List Int) (c : Nat) (m : Int), vs = [.ref d, .int m] ∧ Dk K H d l s ns c ∧ c < 2 ^ 40 ∧ 0 < m ∧ m < 2 ^ 60 ∧
  ∀ H' v, Keep d l H H' → Dk K H' d l s ns (c + 1) → 0 ≤ v → v < m → Q (.int v) H'
theorem ok__law_take (T : Tx K mg) : FnOk P w K mg base CX0 3 T.f__law_take T.d__law_take ["_law_deck_here", "_law_many"] (sp_take K) := by
  have G__law_mixed := ok__law_mixed (P := P) (w := w) (base := base) T
  refine T.F__law_take.ok sc__law_take (fun vs H Q E h => ?_) (fun cdv A outer s H vs Q E hr h => ?_)
  · obtain ⟨_, _, _, _, _, _, rfl, _⟩ := h
    rfl
  · obtain ⟨d, l, s, ns, c, m, rfl, hD, hc, hm, hm2, q⟩ := h
    refine ⟨_, (pss_cons (ps_while PassesOwn.never (pt_cmpR op_lt (pe_ix ix_list (pv 0) pe_int (fun _ _ => rfl)) (pe_callB call_len_seq (by rfl) T.m_len (by decide +kernel) (pa_cons (pe_ix ix_list (pv 0) pe_int (fun _ _ => rfl)) pa_nil)) (nomark _)) (pss_cons (ps_set (i := 2) sc__law_take.nd rfl (Or.inl rfl) (pe_ix ix_list (pe_ix ix_list (pv 0) pe_int (fun _ _ => rfl)) (pe_ix ix_list (pv 0) pe_int (fun _ _ => rfl)) (fun _ _ => rfl)))
      (pss_cons (ps_if (pt_cmpR op_gt (pv 2) pe_int (nomark _)) (pss_cons (ps_asg (pe_op op_fdX (pv 2) (pv 1)) (pg_sub (pe_ix ix_list (pv 0) pe_int (fun _ _ => rfl)) (pe_ix ix_list (pv 0) pe_int (fun _ _ => rfl)) set_list))
      (pss_one (ps_ret (pe_op op_modN (pv 2) (pv 1))))) pss_nil)
      (pss_one (ps_asg (pe_op op_add (pe_ix ix_list (pv 0) pe_int (fun _ _ => rfl)) pe_int) (pg_sub (pv 0) pe_int set_list))))))
      (pss_cons (ps_asg (pe_op op_add (pe_ix ix_list (pv 0) pe_int (fun _ _ => rfl)) pe_int) (pg_sub (pv 0) pe_int set_list))
      (pss_one (ps_ret (pe_call G__law_mixed (hr.mono (by first | decide | omega)) (by rfl) T.g__law_mixed T.F__law_mixed.kp T.b__law_mixed .nil pass0 (pa_cons (pe_ix ix_list (pv 0) pe_int (fun _ _ => rfl)) (pa_cons (pe_ix ix_list (pv 0) pe_int (fun _ _ => rfl)) (pa_cons (pv 1) pa_nil)))))))), ?_⟩
    have hdl := hD.ne
    obtain ⟨xs, i, k, hd, hl, hk, hs⟩ := hD
    refine ⟨fun n σ H1 => ∃ (xs : List Int) (i k : Nat) (y : Option V), σ = [some (.ref d), some (.int m), y] ∧ Keep d l H H1 ∧ H1 d = some (.lst [.ref s, .ref l, .int (i : Int), .int (k : Int)]) ∧ H1 l = some (.lst (xs.map V.int)) ∧ k ≤ c ∧ Sct K H1 d l s (ns.map V.int) ∧ n = xs.length - i,
      ⟨_, xs, i, k, none, rfl, Keep.refl, hd, hl, hk, hs, rfl⟩, fun n σ H1 hW => ?_⟩
    obtain ⟨xs, i, k, y, rfl, kp, hd, hl, hk, hs, rfl⟩ := hW
    refine ⟨.ref d, rfl, d, _, 2, .int (i : Int), rfl, rfl, SqL.of hd, rfl, .ref d, rfl, d, _, 1, .ref l, rfl, rfl, SqL.of hd, rfl, l, _, rfl, .inl (SqL.of hl), (i : Int), ((xs.map V.int).length : Int), rfl, rfl, _, rfl, ite2 (fun e => ?_) (fun e => ?_)⟩
    · have hi := of_decide_eq_true e
      rw [List.length_map] at hi
      have hi : i < xs.length := by omega
      refine ⟨fun σ' H' => ∃ m', m' < xs.length - i ∧ ∃ (xs : List Int) (i k : Nat) (y : Option V), σ' = [some (.ref d), some (.int m), y] ∧ Keep d l H H' ∧ H' d = some (.lst [.ref s, .ref l, .int (i : Int), .int (k : Int)]) ∧ H' l = some (.lst (xs.map V.int)) ∧ k ≤ c ∧ Sct K H' d l s (ns.map V.int) ∧ m' = xs.length - i,
        fun _ _ h => h, ?_⟩
      have ga : (xs.map V.int)[i]? = some (.int xs[i]) := by
        rw [List.getElem?_map, List.getElem?_eq_getElem hi]
        rfl
      refine ⟨.ref d, rfl, d, _, 1, .ref l, rfl, rfl, SqL.of hd, rfl, .ref d, rfl, d, _, 2, .int (i : Int), rfl, rfl, SqL.of hd, rfl, l, _, (i : Int), .int xs[i], rfl, rfl, SqL.of hl, atI_nat ga, ?_⟩
      refine ⟨.int xs[i], rfl, xs[i], 0, rfl, rfl, _, rfl, ite2 (fun e => ?_) (fun e => ?_)⟩
      · have f := @fmod_pos xs[i] m hm
        have ix : ixN (xs.map V.int).length (i : Int) = some i := by
          unfold ixN
          rw [List.length_map, if_pos (by omega), if_pos (by omega)]
          rfl
        refine ⟨.int xs[i], rfl, .int m, rfl, xs[i], m, rfl, rfl, ⟨(show m ≠ 0 by omega), bt_small (by omega)⟩, .ref d, rfl, d, _, 1, .ref l, rfl, rfl, SqL.of hd, rfl, .ref d, rfl, d, _, 2, .int (i : Int), rfl, rfl, SqL.of hd, rfl, l, _, (i : Int), i, rfl, rfl, hl, ix, ?_⟩
        refine ⟨.int xs[i], rfl, .int m, rfl, xs[i], m, rfl, rfl, (show m ≠ 0 by omega), q _ _ (kp.trans keep_l) ?_ f.1 f.2⟩
        refine ⟨xs.set i (xs[i].fdiv m), i, k, ?_, ?_, by omega, hs.keep keep_l⟩
        · rw [upd_ne hdl]
          exact hd
        · rw [upd_same, List.map_set]
      · refine ⟨.ref d, rfl, d, _, 2, .int (i : Int), rfl, rfl, SqL.of hd, rfl, (i : Int), 1, rfl, rfl, .ref d, rfl, d, _, 2, 2, rfl, rfl, hd, rfl, ?_⟩
        refine ⟨_, ?_, xs, i + 1, k, some (.int xs[i]), rfl, kp.trans keep_d, upd_same, ?_, hk, hs.keep keep_d, rfl⟩
        · omega
        · rw [upd_ne hdl.symm]
          exact hl
    · refine ⟨.ref d, rfl, d, _, 3, .int (k : Int), rfl, rfl, SqL.of hd, rfl, (k : Int), 1, rfl, rfl, .ref d, rfl, d, _, 3, 3, rfl, rfl, hd, rfl, ?_⟩
      have hd' : upd H1 d (.lst [.ref s, .ref l, .int (i : Int), .int ((k + 1 : Nat) : Int)]) d = some (.lst [.ref s, .ref l, .int (i : Int), .int ((k + 1 : Nat) : Int)]) := upd_same
      have hs' : Sct K (upd H1 d (.lst [.ref s, .ref l, .int (i : Int), .int ((k + 1 : Nat) : Int)])) d l s (ns.map V.int) := hs.keep keep_d
      refine ⟨.ref d, rfl, d, _, 0, .ref s, rfl, rfl, SqL.of hd', rfl, .ref d, rfl, d, _, 3, .int ((k + 1 : Nat) : Int), rfl, rfl, SqL.of hd', rfl, .int m, rfl, s, ns, k + 1, m, rfl, hs'.sq, by omega, hm, fun v v0 v1 => ?_⟩
      refine q _ v (kp.trans keep_d) ⟨xs, i, k + 1, hd', ?_, by omega, hs'⟩ v0 v1
      rw [upd_ne hdl.symm]
      exact hl
def sp_deck (K : PySem.W.Frag) : Sp := fun vs H Q _ => ∃ (s : Addr) (ns : List Int), vs = [.ref s] ∧ SqL K H s (ns.map V.int) ∧ ns.length ≤ 63 ∧
  ∀ H' d l, Same H H' → Dk K H' d l s ns 0 → H d = none → H l = none → Q (.ref d) H'
theorem ok__law_deck (T : Tx K mg) : FnOk P w K mg base CX0 1 T.f__law_deck T.d__law_deck ["_law_script"] (sp_deck K) := by
  refine T.F__law_deck.ok sc__law_deck (fun vs H Q E h => ?_) (fun cdv A outer s H vs Q E hr h => ?_)
  · obtain ⟨_, _, rfl, _⟩ := h
    rfl
  · obtain ⟨s, ns, rfl, hs, hn, q⟩ := h
    refine ⟨_, (pss_one (ps_ret (pe_lst (pa_cons (pv 0) (pa_cons (pe_lc (own := [("_law_part", 1)]) (g := gName 1) (by rfl) sc__law_deck.nd (pi_list (pv 0)) (blkOk_by (own := [("_law_part", 1)]) (N := nm__law_deck) (sc := defScope s__law_deck) (by decide +kernel)) (fun _ _ _ _ _ => (pg_name (i := 1) sc__law_deck.nd rfl (Or.inl rfl))) (fun _ _ _ _ _ => (pts_one (pt_cmpR op_ge (pe_callB call_abs (by rfl) T.m_abs (by decide +kernel) (pa_cons (pv 1) pa_nil)) (pe_op op_pow pe_int pe_int) (nomark _)))) (fun _ _ _ _ _ => (pe_callB call_abs (by rfl) T.m_abs (by decide +kernel) (pa_cons (pv 1) pa_nil)))) (pa_cons pe_int (pa_cons pe_int pa_nil))))))), ?_⟩
    refine ⟨.ref s, rfl, .ref s, rfl, s, rfl, ⟨_, hs⟩, fun D nD => ?_⟩
    refine lc_list (K := K) (a := s) (xs := ns.map V.int) (fun i H' => Same H H' ∧ ∃ xs : List Int, H' D = some (.lst (xs.map V.int)) ∧ xs.length ≤ i) ⟨same_upd nD, [], upd_same, Nat.le_refl _⟩ (fun i H' _ h => h.1.seq hs) (fun i x H' hx h => ?_) (fun H' h => ?_)
    · obtain ⟨hS, xs, hx', hxl⟩ := h
      have hil : i < (ns.map V.int).length := (List.getElem?_eq_some_iff.mp hx).1
      rw [List.length_map] at hil
      obtain ⟨z, rfl⟩ : ∃ z, x = .int z := by
        rw [List.getElem?_map, List.getElem?_eq_getElem hil] at hx
        exact ⟨_, (Option.some.inj hx).symm⟩
      refine ⟨rfl, .int z, rfl, z, rfl, 10, 18, rfl, rfl, ⟨by decide, by decide, by decide⟩, _, _, rfl, rfl, _, rfl, ite2 (fun e => ?_) (fun e => ?_)⟩
      · refine ⟨.int z, rfl, z, rfl, _, hx', small1000 (by rw [List.length_map]; omega), fun a o e => ?_, xs ++ [if z < 0 then -z else z], ?_, ?_⟩
        · rw [upd_ne (ne_of_none e nD)]
          exact hS a o e
        · rw [upd_same, List.map_append]
          rfl
        · rw [List.length_append]
          exact Nat.add_le_add_right hxl 1
      · exact ⟨hS, xs, hx', by omega⟩
    · obtain ⟨hS, xs, hx', hxl⟩ := h
      refine ⟨sz_n (by decide : 4 ≤ 1000), fun d nd => ?_⟩
      have nd0 : H d = none := hS.free nd
      refine q _ d D (hS.trans (same_upd nd)) ⟨xs, 0, 0, upd_same, ?_, Nat.le_refl _, sct_of hs (hS.trans (same_upd nd)) nd0 nD⟩ nd0 nD
      rw [upd_ne (ne_of_none hx' nd)]
      exact hx'
def sp_figures (K : PySem.W.Frag) : Sp := fun vs H Q _ => ∃ (d l s : Addr) (ns : List Int) (c : Nat), vs = [.ref d] ∧ Dk K H d l s ns c ∧ c + 4 < 2 ^ 40 ∧
  ∀ H' v, Keep d l H H' → Dk K H' d l s ns (c + 3) → 0 ≤ v → v ≤ 999999 → Q (.int v) H'
theorem ok__law_figures (T : Tx K mg) : FnOk P w K mg base CX0 4 T.f__law_figures T.d__law_figures ["_law_deck_here"] (sp_figures K) := by
  have G__law_take := ok__law_take (P := P) (w := w) (base := base) T
  refine T.F__law_figures.ok sc__law_figures (fun vs H Q E h => ?_) (fun cdv A outer s H vs Q E hr h => ?_)
  · obtain ⟨_, _, _, _, _, rfl, _⟩ := h
    rfl
  · obtain ⟨d, l, s, ns, c, rfl, hD, hc, q⟩ := h
    refine ⟨_, (pss_cons (ps_set (i := 1) sc__law_figures.nd rfl (Or.inl rfl) (pe_call G__law_take (hr.mono (by first | decide | omega)) (by rfl) T.g__law_take T.F__law_take.kp T.b__law_take .nil pass0 (pa_cons (pv 0) (pa_cons pe_int pa_nil))))
      (pss_cons (ps_if (pt_cmpR op_lt (pv 1) pe_int (nomark _)) (pss_one (ps_ret (pe_call G__law_take (hr.mono (by first | decide | omega)) (by rfl) T.g__law_take T.F__law_take.kp T.b__law_take .nil pass0 (pa_cons (pv 0) (pa_cons pe_int pa_nil))))) pss_nil)
      (pss_cons (ps_if (pt_cmpR op_eq (pv 1) pe_int (nomark _)) (pss_one (ps_ret (pe_op op_add (pe_op op_mulX (pe_call G__law_take (hr.mono (by first | decide | omega)) (by rfl) T.g__law_take T.F__law_take.kp T.b__law_take .nil pass0 (pa_cons (pv 0) (pa_cons pe_int pa_nil))) pe_int) (pe_call G__law_take (hr.mono (by first | decide | omega)) (by rfl) T.g__law_take T.F__law_take.kp T.b__law_take .nil pass0 (pa_cons (pv 0) (pa_cons pe_int pa_nil)))))) pss_nil)
      (pss_one (ps_ret (pe_op op_sub pe_int (pe_call G__law_take (hr.mono (by first | decide | omega)) (by rfl) T.g__law_take T.F__law_take.kp T.b__law_take .nil pass0 (pa_cons (pv 0) (pa_cons pe_int pa_nil))))))))), ?_⟩
    refine ⟨.ref d, rfl, d, l, s, ns, c, 4, rfl, hD, by omega, by decide, by decide, fun H1 k k1 D1 _ _ => ?_⟩
    refine ⟨.int k, rfl, k, 2, rfl, rfl, _, rfl, ite2 (fun _ => ?_) (fun _ => ?_)⟩
    · exact ⟨.ref d, rfl, d, l, s, ns, c + 1, 12, rfl, D1, by omega, by decide, by decide, fun H2 v k2 D2 v0 v1 => q H2 v (k1.trans k2) (D2.mono (by omega)) v0 (by omega)⟩
    · refine ⟨.int k, rfl, rfl, _, rfl, ite2 (fun _ => ?_) (fun _ => ?_)⟩
      · refine ⟨.ref d, rfl, d, l, s, ns, c + 1, 1000, rfl, D1, by omega, by decide, by decide, fun H2 v k2 D2 v0 v1 => ?_⟩
        refine ⟨v, 1000, rfl, rfl, mulx_ok (a := 10) (b := 10) (by omega) (by decide) (by decide), ?_⟩
        exact ⟨.ref d, rfl, d, l, s, ns, c + 2, 1000, rfl, D2, by omega, by decide, by decide, fun H3 u k3 D3 u0 u1 => ⟨_, _, rfl, rfl, q H3 _ (k1.trans (k2.trans k3)) (D3.mono (by omega)) (by omega) (by omega)⟩⟩
      · exact ⟨.ref d, rfl, d, l, s, ns, c + 1, 3, rfl, D1, by omega, by decide, by decide, fun H2 v k2 D2 v0 v1 => ⟨_, _, rfl, rfl, q H2 _ (k1.trans k2) (D2.mono (by omega)) (by omega) (by omega)⟩⟩
end

section
variable {P : Program} {w : World} {K : PySem.W.Frag} {mg : Str → Option Value} {base : Heap}
def sp_fraction (K : PySem.W.Frag) : Sp := fun vs H Q _ => ∃ (d l s : Addr) (ns : List Int) (c : Nat), vs = [.ref d] ∧ Dk K H d l s ns c ∧ c + 10 < 2 ^ 40 ∧
  ∀ H' v f, Keep d l H H' → Dk K H' d l s ns (c + 8) → FrV H' v f → Rb 20 f → Q v H'
theorem ok__law_fraction (T : Tx K mg) : FnOk P w K mg base CX0 5 T.f__law_fraction T.d__law_fraction ["_law_deck_here"] (sp_fraction K) := by
  have G__law_figures := ok__law_figures (P := P) (w := w) (base := base) T
  have G__law_share := ok__law_share (P := P) (w := w) (base := base) T
  have G__law_take := ok__law_take (P := P) (w := w) (base := base) T
  refine T.F__law_fraction.ok sc__law_fraction (fun vs H Q E h => ?_) (fun cdv A outer s H vs Q E hr h => ?_)
  · obtain ⟨_, _, _, _, _, rfl, _⟩ := h
    rfl
  · obtain ⟨d, l, s, ns, c, rfl, hD, hc, q⟩ := h
    refine ⟨_, (pss_cons (ps_set (i := 1) sc__law_fraction.nd rfl (Or.inl rfl) (pe_op op_mulX (pe_call G__law_figures (hr.mono (by first | decide | omega)) (by rfl) T.g__law_figures T.F__law_figures.kp T.b__law_figures .nil pass0 (pa_cons (pv 0) pa_nil)) (pe_op op_sub pe_int (pe_op op_mulX pe_int (pe_call G__law_take (hr.mono (by first | decide | omega)) (by rfl) T.g__law_take T.F__law_take.kp T.b__law_take .nil pass0 (pa_cons (pv 0) (pa_cons pe_int pa_nil)))))))
      (pss_one (ps_ret (pe_call G__law_share (hr.mono (by first | decide | omega)) (by rfl) T.g__law_share T.F__law_share.kp T.b__law_share .nil pass0 (pa_cons (pv 1) (pa_cons (pe_callB (call_max2 rfl) (by rfl) T.m_max (by decide +kernel) (pa_cons pe_int (pa_cons (pe_ix ix_list (pe_lst (pa_cons pe_int (pa_cons (pe_call G__law_figures (hr.mono (by first | decide | omega)) (by rfl) T.g__law_figures T.F__law_figures.kp T.b__law_figures .nil pass0 (pa_cons (pv 0) pa_nil)) pa_nil))) (pe_call G__law_take (hr.mono (by first | decide | omega)) (by rfl) T.g__law_take T.F__law_take.kp T.b__law_take .nil pass0 (pa_cons (pv 0) (pa_cons pe_int pa_nil))) (fun _ _ => rfl)) pa_nil))) pa_nil)))))), ?_⟩
    refine ⟨.ref d, rfl, d, l, s, ns, c, rfl, hD, by omega, fun H1 v k1 D1 v0 v1 => ?_⟩
    refine ⟨.ref d, rfl, d, l, s, ns, c + 3, 2, rfl, D1, by omega, by decide, by decide, fun H2 b k2 D2 b0 b1 => ?_⟩
    refine ⟨2, b, rfl, rfl, mulx_ok (a := 2) (b := 2) (by decide) (by omega) (by decide), 1, _, rfl, rfl, v, _, rfl, rfl, mulx_ok (a := 20) (b := 3) (by omega) (by omega) (by decide), ?_⟩
    have bt : Bt 20 (v * (1 - 2 * b)) := by
      have hb : b = 0 ∨ b = 1 := by omega
      unfold Bt
      rcases hb with rfl | rfl <;> omega
    refine ⟨_, rfl, .ref d, rfl, d, l, s, ns, c + 4, rfl, D2, by omega, fun H3 u k3 D3 u0 u1 => ?_⟩
    refine ⟨sz_n (by decide : 2 ≤ 1000), fun p hp => ?_⟩
    have pd : p ≠ d := fun z => by
      obtain ⟨_, _, _, h, _⟩ := D3
      rw [z, h] at hp
      cases hp
    have pl : p ≠ l := fun z => by
      obtain ⟨_, _, _, _, h, _⟩ := D3
      rw [z, h] at hp
      cases hp
    refine ⟨.ref d, rfl, d, l, s, ns, c + 7, 2, rfl, D3.new hp, by omega, by decide, by decide, fun H4 e k4 D4 e0 e1 => ?_⟩
    have hp4 := k4 p _ upd_same pd pl
    have he : e = 0 ∨ e = 1 := by omega
    obtain ⟨x, hx, x0, x1⟩ : ∃ x : Int, atI [V.int 1, V.int u] e = some (.int x) ∧ 0 ≤ x ∧ x ≤ 999999 := by
      rcases he with rfl | rfl
      · exact ⟨1, rfl, by decide, by decide⟩
      · exact ⟨u, rfl, u0, u1⟩
    refine ⟨p, _, e, .int x, rfl, rfl, SqL.of hp4, hx, 1, x, rfl, ?_⟩
    have hm : 1 ≤ (if x > 1 then x else 1) ∧ (if x > 1 then x else 1) ≤ 999999 := by split <;> omega
    generalize (if x > 1 then x else 1) = bot at hm
    refine ⟨v * (1 - 2 * b), bot, rfl, (show bot ≠ 0 by omega), bt_small (by omega), fun H5 v5 s5 f5 => ?_⟩
    exact q H5 v5 _ (k1.trans (k2.trans (k3.trans ((keep_new hp).trans (k4.trans (same_keep s5)))))) ((D4.same s5).mono (by omega)) f5 (rb_div (by omega) bt (by show bot.natAbs < 2 ^ 20; omega))
end

section
variable {P : Program} {w : World} {K : PySem.W.Frag} {mg : Str → Option Value} {base : Heap}
def sp_is : Sp := fun vs H Q _ => ∃ v1 v2 q, vs = [v1, v2] ∧ FrV H v1 q ∧ FrV H v2 q ∧ ∀ H', Same H H' → Q (.bl true) H'
theorem ok__law_is (T : Tx K mg) : FnOk P w K mg base CX0 1 T.f__law_is T.d__law_is ["_law_found", "_law_due"] sp_is := by
  refine T.F__law_is.ok sc__law_is (fun vs H Q E h => ?_) (fun cdv A outer s H vs Q E hr h => ?_)
  · obtain ⟨_, _, _, rfl, _⟩ := h
    rfl
  · obtain ⟨_, _, f, rfl, ⟨p1, rfl, h1⟩, ⟨p2, rfl, h2⟩, q⟩ := h
    refine ⟨_, (pss_cons (ps_if (PW.pt (pw_or (pt_not (pt_val (pe_callB call_isi (by rfl) T.m_isinstance (by decide +kernel) (pa_cons (pv 0) (pa_cons (pe_bltn (v := .ty "tuple") (by rfl) T.m_tuple (by decide +kernel) rfl) pa_nil))))) (pw_or (pt_cmpR op_ne (pe_callB call_len_seq (by rfl) T.m_len (by decide +kernel) (pa_cons (pv 0) pa_nil)) pe_int (nomark _)) (pw_or1 (pt_cmpR (op_neD hr.units) (pv 0) (pv 1) (nomark _)))))) (pss_one (ps_ret pe_bl)) pss_nil)
      (pss_one (ps_ret (pe_cmpR (op_eqD hr.units) (pe_lc (own := [("_law_part", 2)]) (g := gName 2) (by rfl) sc__law_is.nd (pi_tup (pv 0)) (blkOk_by (own := [("_law_part", 2)]) (N := nm__law_is) (sc := defScope s__law_is) (by decide +kernel)) (fun _ _ _ _ _ => (pg_name (i := 2) sc__law_is.nd rfl (Or.inl rfl))) (fun _ _ _ _ _ => (pts_one (PW.pt (pw_or (pt_not (pt_val (pe_callB (call_isiC (K := K) rfl) (by rfl) T.m_isinstance (by decide +kernel) (pa_cons (pv 2) (pa_cons (pe_bltn (v := .ty "int") (by rfl) T.m_int (by decide +kernel) rfl) pa_nil))))) (pw_or1 (pt_val (pe_callB (call_isiC (K := K) rfl) (by rfl) T.m_isinstance (by decide +kernel) (pa_cons (pv 2) (pa_cons (pe_bltn (v := .ty "bool") (by rfl) T.m_bool (by decide +kernel) rfl) pa_nil))))))))) (fun _ _ _ _ _ => (pv 2))) (pe_lst pa_nil) (nomark _))))), ?_⟩
    refine ⟨.ref p1, rfl, _, _, _, _, true, rfl, .ty _, .base (.tup h1), kit_ty (by decide +kernel), true, rfl, iteF ?_⟩
    refine ⟨.ref p1, rfl, p1, _, rfl, .inr (SqT.of h1), rfl, _, rfl, iteNS rfl ?_⟩
    refine ⟨.ref p1, rfl, .ref p2, rfl, _, _, Dp.tup (SqT.of h1) (DpAll.cons (Dp.int _) (DpAll.cons (Dp.int _) DpAll.nil)), Dp.tup (SqT.of h2) (DpAll.cons (Dp.int _) (DpAll.cons (Dp.int _) DpAll.nil)), rfl, rfl, _, rfl, ?_⟩
    refine ite_no (by rw [SeqAt.eqv_refl] <;> first | rfl | decide) ?_
    refine ⟨.ref p1, rfl, p1, rfl, ⟨_, SqT.of h1⟩, fun D nD => ?_⟩
    refine lc_tup (K := K) (a := p1) (xs := [V.int f.num, V.int (f.den : Int)]) (fun i H' => H' = upd H D (.lst [])) rfl (fun i H' _ e => ?_) (fun i x H' hx e => ?_) (fun H' e => ?_)
    · subst e
      exact same_tup (same_upd nD) (SqT.of h1)
    · subst e
      obtain ⟨z, rfl⟩ : ∃ z, x = .int z := by
        match i, hx with
        | 0, hx => exact ⟨_, (Option.some.inj hx).symm⟩
        | 1, hx => exact ⟨_, (Option.some.inj hx).symm⟩
      refine ⟨rfl, .int z, rfl, _, _, _, _, true, rfl, .ty _, .base (.int z), kit_ty (by decide +kernel), true, rfl, iteF ?_⟩
      exact ⟨.int z, rfl, _, _, _, _, false, rfl, .ty _, .base (.int z), kit_ty (by decide +kernel), false, rfl, iteF rfl⟩
    · subst e
      refine ⟨Nat.zero_le _, fun p3 h3 => ?_⟩
      have hD : upd (upd H D (.lst [])) p3 (.lst []) D = some (.lst []) := by
        rw [upd_ne (ne_of_none upd_same h3)]
        exact upd_same
      exact ⟨_, _, Dp.lst (SqL.of hD) DpAll.nil, Dp.lst (SqL.of upd_same) DpAll.nil, rfl, rfl, q _ ((same_upd nD).trans (same_upd h3))⟩
end

section
variable {P : Program} {w : World} {K : PySem.W.Frag} {mg : Str → Option Value} {base : Heap}
def sp_dot : Sp := fun vs H Q _ => ∃ v1 v2 qs rs, vs = [v1, v2] ∧ PtV H v1 qs ∧ PtV H v2 rs ∧ qs.length = 3 ∧ rs.length = 3 ∧ Rs 1000 qs ∧ Rs 1000 rs ∧ ∀ H' v, Same H H' → FrV H' v (rsum (prods qs rs)) → Q v H'
theorem ok_dot (T : Tx K mg) : FnOk P w K mg base CX0 2 T.f_dot T.d_dot ["one", "other"] sp_dot := by
  have G_frac := ok_frac (P := P) (w := w) (base := base) T
  refine T.F_dot.ok sc_dot (fun vs H Q E h => ?_) (fun cdv A outer s H vs Q E hr h => ?_)
  · obtain ⟨_, _, _, _, rfl, _⟩ := h
    rfl
  · obtain ⟨_, _, qs, rs, rfl, ⟨p1, xs, rfl, h1, a1⟩, ⟨p2, ys, rfl, h2, a2⟩, l1, l2, b1, b2, k⟩ := h
    refine ⟨_, (pss_cons (ps_asg (pe_tup (pa_cons pe_int (pa_cons pe_int pa_nil))) (pg_tup (by rfl) (pgs_cons (pg_name (i := 2) sc_dot.nd rfl (Or.inl rfl)) (pgs_cons (pg_name (i := 3) sc_dot.nd rfl (Or.inl rfl)) pgs_nil))))
      (pss_cons (ps_for PassesOwn.never rfl (RZ.pi_zipA (by rfl) T.m_zip (pa_cons (pv 0) (pa_cons (pv 1) pa_nil))) (pg_tup (by rfl) (pgs_cons (pg_name (i := 4) sc_dot.nd rfl (Or.inl rfl)) (pgs_cons (pg_name (i := 5) sc_dot.nd rfl (Or.inl rfl)) pgs_nil))) (pss_cons (ps_set (i := 6) sc_dot.nd rfl (Or.inl rfl) (pe_op op_mulX (pe_ix ix_tup (pv 4) pe_int (fun _ _ => rfl)) (pe_ix ix_tup (pv 5) pe_int (fun _ _ => rfl))))
      (pss_cons (ps_set (i := 2) sc_dot.nd rfl (Or.inl rfl) (pe_op op_add (pe_op op_mulX (pv 2) (pv 6)) (pe_op op_mulX (pe_op op_mulX (pe_ix ix_tup (pv 4) pe_int (fun _ _ => rfl)) (pe_ix ix_tup (pv 5) pe_int (fun _ _ => rfl))) (pv 3))))
      (pss_one (ps_set (i := 3) sc_dot.nd rfl (Or.inl rfl) (pe_op op_mulX (pv 3) (pv 6)))))))
      (pss_one (ps_ret (pe_call G_frac (hr.mono (by first | decide | omega)) (by rfl) T.g_frac T.F_frac.kp T.b_frac .nil pass0 (pa_cons (pv 2) (pa_cons (pv 3) pa_nil))))))), ?_⟩
    have hl : xs.length = 3 := a1.len.trans l1
    have hl2 : ys.length = 3 := a2.len.trans l2
    refine ⟨sz_n (by decide : 2 ≤ 1000), fun t0 n0 => ⟨t0, _, rfl, SqT.of upd_same, rfl, _, _, rfl, _, _, rfl, rfl, .ref p1, rfl, .ref p2, rfl, p1, p2, xs, ys, rfl, .inr ⟨SqT.of (same_upd n0 _ _ h1), SqT.of (same_upd n0 _ _ h2), ?_⟩⟩⟩
    refine RZ.for_zipT (hl.trans hl2.symm) (fun i σ H' => i ≤ 3 ∧ Same H H' ∧ ∃ (a b : Int) (y4 y5 y6 : Option V), σ = [some (.ref p1), some (.ref p2), some (.int a), some (.int b), y4, y5, y6] ∧ b ≠ 0 ∧ Bt (2001 * i + 1) a ∧ Bt (2001 * i + 1) b ∧ Rat.divInt a b = rsum ((prods qs rs).take i))
      ⟨by decide, same_upd n0, 0, 1, none, none, none, rfl, by decide, bt_lit (by decide), bt_lit (by decide), rfl⟩ (fun i σ H' h => ⟨same_tup h.2.1 (SqT.of h1), same_tup h.2.1 (SqT.of h2)⟩) (fun i x y t σ H' hx hy h nt => ?_) (fun σ H' h => ?_)
    · obtain ⟨hi, hS, a, b, y4, y5, y6, rfl, hb, ba, bb, e⟩ := h
      obtain ⟨q, hq, f1⟩ := a1.get hx
      obtain ⟨r, hr', f2⟩ := a2.get hy
      have hi3 : i < 3 := by
        have := (List.getElem?_eq_some_iff.mp hx).1
        omega
      have sT : Same H (upd H' t (.tup [x, y])) := hS.trans (same_upd nt)
      obtain ⟨px, rfl, hx'⟩ := f1.same sT
      obtain ⟨py, rfl, hy'⟩ := f2.same sT
      obtain ⟨c1, c1'⟩ := rs_get b1 hq
      obtain ⟨c2, c2'⟩ := rs_get b2 hr'
      refine ⟨t, _, rfl, SqT.of upd_same, rfl, _, _, rfl, _, _, rfl, rfl, ?_⟩
      refine ⟨_, rfl, px, _, 1, _, rfl, rfl, SqT.of hx', rfl, _, rfl, py, _, 1, _, rfl, rfl, SqT.of hy', rfl, (q.den : Int), (r.den : Int), rfl, rfl, mulx_ok c1' c2' (by decide), ?_⟩
      refine ⟨_, rfl, _, rfl, a, _, rfl, rfl, mulx_ok ba (c1'.mul c2') (by omega), _, rfl, px, _, 0, _, rfl, rfl, SqT.of hx', rfl, _, rfl, py, _, 0, _, rfl, rfl, SqT.of hy', rfl, q.num, r.num, rfl, rfl, mulx_ok c1 c2 (by decide), _, rfl, _, b, rfl, rfl, mulx_ok (c1.mul c2) bb (by omega), _, _, rfl, rfl, ?_⟩
      refine ⟨_, rfl, _, rfl, b, _, rfl, rfl, mulx_ok bb (c1'.mul c2') (by omega), ?_⟩
      refine ⟨by omega, sT, _, _, _, _, _, rfl, Int.mul_ne_zero hb (Int.mul_ne_zero (den_ne q) (den_ne r)), ?_, ?_, ?_⟩
      · exact (((ba.mul (c1'.mul c2')).mono (show _ ≤ 2001 * i + 2001 by omega)).add (((c1.mul c2).mul bb).mono (show _ ≤ 2001 * i + 2001 by omega))).mono (by omega)
      · exact (bb.mul (c1'.mul c2')).mono (by omega)
      · rw [dot_step hq hr']
        exact dot_turn hb e
    · rw [hl] at h
      obtain ⟨_, hS, a, b, y4, y5, y6, rfl, hb, ba, bb, e⟩ := h
      refine ⟨_, rfl, _, rfl, a, b, rfl, hb, bb.mono (by decide), fun H2 v s2 f2 => k H2 v (hS.trans s2) ?_⟩
      rw [e, List.take_of_length_le] at f2
      · exact f2
      · unfold prods
        rw [List.length_zipWith, l1, l2]
        decide
end

section
variable {P : Program} {w : World} {K : PySem.W.Frag} {mg : Str → Option Value} {base : Heap}
theorem ok__law_plus (T : Tx K mg) : FnOk P w K mg base CX0 3 T.f__law_plus T.d__law_plus ["_law_one", "_law_other"] (sp_two (fun q r => q + r) (fun _ => True)) := by
  have G__law_share := ok__law_share (P := P) (w := w) (base := base) T
  refine T.F__law_plus.ok sc__law_plus (fun vs H Q E h => two_len h) (fun cdv A outer s H vs Q E hr h => ?_)
  obtain ⟨_, _, q, r, rfl, ⟨p1, rfl, h1⟩, ⟨p2, rfl, h2⟩, ⟨bq, bq'⟩, ⟨br, br'⟩, ok, k⟩ := h
  refine ⟨_, (pss_one (ps_ret (pe_call G__law_share (hr.mono (by first | decide | omega)) (by rfl) T.g__law_share T.F__law_share.kp T.b__law_share .nil pass0 (pa_cons (pe_op op_add (pe_op op_mulX (pe_ix ix_tup (pv 0) pe_int (fun _ _ => rfl)) (pe_ix ix_tup (pv 1) pe_int (fun _ _ => rfl))) (pe_op op_mulX (pe_ix ix_tup (pv 1) pe_int (fun _ _ => rfl)) (pe_ix ix_tup (pv 0) pe_int (fun _ _ => rfl)))) (pa_cons (pe_op op_mulX (pe_ix ix_tup (pv 0) pe_int (fun _ _ => rfl)) (pe_ix ix_tup (pv 1) pe_int (fun _ _ => rfl))) pa_nil))))), ?_⟩
  refine rd_ixT rfl h1 rfl (rd_ixT rfl h2 rfl (rd_mul bq br' (by decide) (rd_ixT rfl h2 rfl (rd_ixT rfl h1 rfl (rd_mul br bq' (by decide) (rd_i0 (rd_ixT rfl h1 rfl (rd_ixT rfl h2 rfl (rd_mul bq' br' (by decide) ?_)))))))))
  exact ⟨_, _, rfl, Int.mul_ne_zero (den_ne q) (den_ne r), (bq'.mul br').mono (by decide), fun H' v s f => k H' v s (by rw [rat_sum] at f; exact f)⟩
theorem ok__law_times (T : Tx K mg) : FnOk P w K mg base CX0 3 T.f__law_times T.d__law_times ["_law_one", "_law_other"] (sp_two (fun q r => q * r) (fun _ => True)) := by
  have G__law_share := ok__law_share (P := P) (w := w) (base := base) T
  refine T.F__law_times.ok sc__law_times (fun vs H Q E h => two_len h) (fun cdv A outer s H vs Q E hr h => ?_)
  obtain ⟨_, _, q, r, rfl, ⟨p1, rfl, h1⟩, ⟨p2, rfl, h2⟩, ⟨bq, bq'⟩, ⟨br, br'⟩, ok, k⟩ := h
  refine ⟨_, (pss_one (ps_ret (pe_call G__law_share (hr.mono (by first | decide | omega)) (by rfl) T.g__law_share T.F__law_share.kp T.b__law_share .nil pass0 (pa_cons (pe_op op_mulX (pe_ix ix_tup (pv 0) pe_int (fun _ _ => rfl)) (pe_ix ix_tup (pv 1) pe_int (fun _ _ => rfl))) (pa_cons (pe_op op_mulX (pe_ix ix_tup (pv 0) pe_int (fun _ _ => rfl)) (pe_ix ix_tup (pv 1) pe_int (fun _ _ => rfl))) pa_nil))))), ?_⟩
  refine rd_ixT rfl h1 rfl (rd_ixT rfl h2 rfl (rd_mul bq br (by decide) (rd_ixT rfl h1 rfl (rd_ixT rfl h2 rfl (rd_mul bq' br' (by decide) ?_)))))
  exact ⟨_, _, rfl, Int.mul_ne_zero (den_ne q) (den_ne r), (bq'.mul br').mono (by decide), fun H' v s f => k H' v s (by rw [rat_prod] at f; exact f)⟩
end

section
variable {P : Program} {w : World} {K : PySem.W.Frag} {mg : Str → Option Value} {base : Heap}
def sp_point (K : PySem.W.Frag) : Sp := fun vs H Q _ => ∃ (d l s : Addr) (ns : List Int) (c : Nat), vs = [.ref d] ∧ Dk K H d l s ns c ∧ c + 40 < 2 ^ 40 ∧
  ∀ H' v a b e, Keep d l H H' → Dk K H' d l s ns (c + 24) → PtV H' v [a, b, e] → Rs 20 [a, b, e] → Q v H'
theorem rs3 {n : Nat} {a b c : Rat} (ha : Rb n a) (hb : Rb n b) (hc : Rb n c) : Rs n [a, b, c] := fun q hq => by
  rcases List.mem_cons.mp hq with e | hq
  · exact e ▸ ha
  · rcases List.mem_cons.mp hq with e | hq
    · exact e ▸ hb
    · exact (List.mem_singleton.mp hq) ▸ hc
theorem rs_mono {m n : Nat} {qs : List Rat} (h : Rs m qs) (hn : m ≤ n) : Rs n qs := fun q hq => (h q hq).mono hn
theorem ok__law_point (T : Tx K mg) : FnOk P w K mg base CX0 6 T.f__law_point T.d__law_point ["_law_deck_here"] (sp_point K) := by
  have G__law_fraction := ok__law_fraction (P := P) (w := w) (base := base) T
  refine T.F__law_point.ok sc__law_point (fun vs H Q E h => ?_) (fun cdv A outer s H vs Q E hr h => ?_)
  · obtain ⟨_, _, _, _, _, rfl, _⟩ := h
    rfl
  · obtain ⟨d, l, s, ns, c, rfl, hD, hc, q⟩ := h
    refine ⟨_, (pss_one (ps_ret (pe_tup (pa_cons (pe_call G__law_fraction (hr.mono (by first | decide | omega)) (by rfl) T.g__law_fraction T.F__law_fraction.kp T.b__law_fraction .nil pass0 (pa_cons (pv 0) pa_nil)) (pa_cons (pe_call G__law_fraction (hr.mono (by first | decide | omega)) (by rfl) T.g__law_fraction T.F__law_fraction.kp T.b__law_fraction .nil pass0 (pa_cons (pv 0) pa_nil)) (pa_cons (pe_call G__law_fraction (hr.mono (by first | decide | omega)) (by rfl) T.g__law_fraction T.F__law_fraction.kp T.b__law_fraction .nil pass0 (pa_cons (pv 0) pa_nil)) pa_nil)))))), ?_⟩
    refine ⟨.ref d, rfl, d, l, s, ns, c, rfl, hD, by omega, fun H1 v1 a k1 D1 f1 b1 => ?_⟩
    refine ⟨.ref d, rfl, d, l, s, ns, c + 8, rfl, D1, by omega, fun H2 v2 b k2 D2 f2 b2 => ?_⟩
    refine ⟨.ref d, rfl, d, l, s, ns, c + 8 + 8, rfl, D2, by omega, fun H3 v3 e k3 D3 f3 b3 => ?_⟩
    refine ⟨sz_n (by decide : 3 ≤ 1000), fun p hp => ?_⟩
    refine q _ _ a b e (k1.trans (k2.trans (k3.trans (keep_new hp)))) ((D3.new hp).mono (by omega)) ⟨p, _, rfl, upd_same, ?_⟩ (rs3 b1 b2 b3)
    exact ⟨(k3.fr D2 (k2.fr D1 f1)).same (same_upd hp), (k3.fr D2 f2).same (same_upd hp), f3.same (same_upd hp), trivial⟩
def sp_ldot : Sp := fun vs H Q _ => ∃ v1 v2 qs rs, vs = [v1, v2] ∧ PtV H v1 qs ∧ PtV H v2 rs ∧ qs.length = 3 ∧ rs.length = 3 ∧ Rs 100 qs ∧ Rs 100 rs ∧ ∀ H' v, Same H H' → FrV H' v (rsum (prods qs rs)) → Rb 700 (rsum (prods qs rs)) → Q v H'
theorem ok__law_dot (T : Tx K mg) : FnOk P w K mg base CX0 4 T.f__law_dot T.d__law_dot ["_law_one", "_law_other"] sp_ldot := by
  have G__law_plus := ok__law_plus (P := P) (w := w) (base := base) T
  have G__law_times := ok__law_times (P := P) (w := w) (base := base) T
  refine T.F__law_dot.ok sc__law_dot (fun vs H Q E h => ?_) (fun cdv A outer s H vs Q E hr h => ?_)
  · obtain ⟨_, _, _, _, rfl, _⟩ := h
    rfl
  · obtain ⟨_, _, qs, rs, rfl, ⟨p1, xs, rfl, h1, a1⟩, ⟨p2, ys, rfl, h2, a2⟩, l1, l2, b1, b2, k⟩ := h
    refine ⟨_, (pss_cons (ps_set (i := 2) sc__law_dot.nd rfl (Or.inl rfl) (pe_tup (pa_cons pe_int (pa_cons pe_int pa_nil))))
      (pss_cons (ps_for PassesOwn.never rfl (pi_range1 (by rfl) T.m_range (pa_cons pe_int pa_nil)) (pg_name (i := 3) sc__law_dot.nd rfl (Or.inl rfl)) (pss_one (ps_set (i := 2) sc__law_dot.nd rfl (Or.inl rfl) (pe_call G__law_plus (hr.mono (by first | decide | omega)) (by rfl) T.g__law_plus T.F__law_plus.kp T.b__law_plus .nil pass0 (pa_cons (pv 2) (pa_cons (pe_call G__law_times (hr.mono (by first | decide | omega)) (by rfl) T.g__law_times T.F__law_times.kp T.b__law_times .nil pass0 (pa_cons (pe_ix ix_tup (pv 0) (pv 3) (fun _ _ => rfl)) (pa_cons (pe_ix ix_tup (pv 1) (pv 3) (fun _ _ => rfl)) pa_nil))) pa_nil))))))
      (pss_one (ps_ret (pv 2))))), ?_⟩
    have hl : xs.length = 3 := a1.len.trans l1
    have hl2 : ys.length = 3 := a2.len.trans l2
    refine ⟨sz_n (by decide : 2 ≤ 1000), fun t0 n0 => ⟨3, rfl, by decide, by decide, ?_⟩⟩
    refine for_range (lo := 0) (n := 3) (fun i σ H' => Same H H' ∧ ∃ (v : V) (y : Option V), σ = [some (.ref p1), some (.ref p2), some v, y] ∧ FrV H' v (rsum ((prods qs rs).take i)) ∧ Rb (201 * i + 1) (rsum ((prods qs rs).take i)))
      ⟨same_upd n0, _, none, rfl, frv_new rfl rfl, ⟨(by decide : (0 : Int).natAbs < 2 ^ 1), (by decide : (1 : Int).natAbs < 2 ^ 1)⟩⟩ (fun i σ H' hi h => ?_) (fun σ H' h => ?_)
    · obtain ⟨hS, v, y, rfl, fv, bv⟩ := h
      have gx : xs[i]? = some (xs[i]'(by omega)) := List.getElem?_eq_getElem (by omega)
      have gy : ys[i]? = some (ys[i]'(by omega)) := List.getElem?_eq_getElem (by omega)
      obtain ⟨q, hq, f1⟩ := a1.get gx
      obtain ⟨r, hr', f2⟩ := a2.get gy
      have c1 := rs_get b1 hq
      have c2 := rs_get b2 hr'
      refine ⟨v, rfl, _, rfl, _, rfl, p1, xs, _, _, rfl, rfl, same_tup hS (SqT.of h1), at_of (Int.zero_add _) gx, _, rfl, _, rfl, p2, ys, _, _, rfl, rfl, same_tup hS (SqT.of h2), at_of (Int.zero_add _) gy, ?_⟩
      refine ⟨_, _, q, r, rfl, f1.same hS, f2.same hS, c1.mono (by decide), c2.mono (by decide), trivial, fun H2 v2 s2 f2 => ?_⟩
      refine ⟨_, _, _, q * r, rfl, fv.same s2, f2, bv.mono (by omega), (c1.mul c2).mono (by decide), trivial, fun H3 v3 s3 f3 => ?_⟩
      refine ⟨hS.trans (s2.trans s3), v3, _, rfl, ?_, ?_⟩
      · rw [dot_step hq hr']
        exact f3
      · rw [dot_step hq hr']
        exact (bv.add (c1.mul c2)).mono (by omega)
    · obtain ⟨hS, v, y, rfl, fv, bv⟩ := h
      rw [List.take_of_length_le (by unfold prods; rw [List.length_zipWith, l1, l2]; decide)] at fv bv
      exact ⟨v, rfl, k H' v hS fv (bv.mono (by decide))⟩
def sp_second3 (K : PySem.W.Frag) : Sp := fun vs H Q _ => ∃ (d l s : Addr) (ns : List Int) (c : Nat) (v : V) (a b e : Rat), vs = [.ref d, v] ∧ Dk K H d l s ns c ∧ c + 60 < 2 ^ 40 ∧ PtV H v [a, b, e] ∧ Rs 20 [a, b, e] ∧
  ∀ H' v' a' b' e', Keep d l H H' → Dk K H' d l s ns (c + 25) → PtV H' v' [a', b', e'] → Rs 22 [a', b', e'] → Q v' H'
theorem pt3 {H : Hp} {v : V} {a b e : Rat} (h : PtV H v [a, b, e]) : ∃ p x y z, v = .ref p ∧ H p = some (.tup [x, y, z]) ∧ FrV H x a ∧ FrV H y b ∧ FrV H z e := by
  obtain ⟨p, xs, rfl, h, h'⟩ := h
  match xs, h, h' with
  | [x, y, z], h, h' => exact ⟨p, x, y, z, rfl, h, h'.1, h'.2.1, h'.2.2.1⟩
theorem ok__law_second (T : Tx K mg) : FnOk P w K mg base CX0 7 T.f__law_second T.d__law_second ["_law_deck_here", "_law_one"] (sp_second3 K) := by
  have G__law_point := ok__law_point (P := P) (w := w) (base := base) T
  have G__law_take := ok__law_take (P := P) (w := w) (base := base) T
  have G__law_times := ok__law_times (P := P) (w := w) (base := base) T
  refine T.F__law_second.ok sc__law_second (fun vs H Q E h => ?_) (fun cdv A outer s H vs Q E hr h => ?_)
  · obtain ⟨_, _, _, _, _, _, _, _, _, rfl, _⟩ := h
    rfl
  · obtain ⟨d, l, s, ns, c, v, a, b, e, rfl, hD, hc, hf, bf, q⟩ := h
    refine ⟨_, (pss_cons (ps_set (i := 2) sc__law_second.nd rfl (Or.inl rfl) (pe_call G__law_take (hr.mono (by first | decide | omega)) (by rfl) T.g__law_take T.F__law_take.kp T.b__law_take .nil pass0 (pa_cons (pv 0) (pa_cons pe_int pa_nil))))
      (pss_cons (ps_if (pt_cmpR op_eq (pv 2) pe_int (nomark _)) (pss_one (ps_ret (pv 1))) pss_nil)
      (pss_cons (ps_if (pt_cmpR op_eq (pv 2) pe_int (nomark _)) (pss_one (ps_ret (pe_tup (pa_cons (pe_tup (pa_cons (pe_un un_neg (pe_ix ix_tup (pe_ix ix_tup (pv 1) pe_int (fun _ _ => rfl)) pe_int (fun _ _ => rfl))) (pa_cons (pe_ix ix_tup (pe_ix ix_tup (pv 1) pe_int (fun _ _ => rfl)) pe_int (fun _ _ => rfl)) pa_nil))) (pa_cons (pe_ix ix_tup (pv 1) pe_int (fun _ _ => rfl)) (pa_cons (pe_tup (pa_cons pe_int (pa_cons pe_int pa_nil))) pa_nil)))))) pss_nil)
      (pss_cons (ps_if (pt_cmpR op_eq (pv 2) pe_int (nomark _)) (pss_one (ps_ret (pe_callTy call_tuple_of (by rfl) T.m_tuple (by decide +kernel) (pa_cons (pe_lc (own := [("_law_part", 3)]) (g := gName 3) (by rfl) sc__law_second.nd (pi_tup (pv 1)) (blkOk_by (own := [("_law_part", 3)]) (N := nm__law_second) (sc := defScope s__law_second) (by decide +kernel)) (fun _ _ _ _ _ => (pg_name (i := 3) sc__law_second.nd rfl (Or.inl rfl))) (fun _ _ _ _ _ => pts_nil) (fun _ _ _ _ _ => (pe_call G__law_times (hr.mono (by first | decide | omega)) (by rfl) T.g__law_times T.F__law_times.kp T.b__law_times .nil pass0 (pa_cons (pv 3) (pa_cons (pe_tup (pa_cons pe_int (pa_cons pe_int pa_nil))) pa_nil))))) pa_nil)))) pss_nil)
      (pss_one (ps_ret (pe_call G__law_point (hr.mono (by first | decide | omega)) (by rfl) T.g__law_point T.F__law_point.kp T.b__law_point .nil pass0 (pa_cons (pv 0) pa_nil)))))))), ?_⟩
    refine ⟨.ref d, rfl, d, l, s, ns, c, 4, rfl, hD, by omega, by decide, by decide, fun H1 k k1 D1 _ _ => ?_⟩
    have hf1 := k1.pt hD hf
    refine ⟨.int k, rfl, rfl, _, rfl, ite2 (fun _ => ?_) (fun _ => ?_)⟩
    · exact ⟨v, rfl, q _ _ a b e k1 (D1.mono (by omega)) hf1 (rs_mono bf (by decide))⟩
    · obtain ⟨p, x, y, z, rfl, hp, fx, fy, fz⟩ := pt3 hf1
      refine ⟨.int k, rfl, rfl, _, rfl, ite2 (fun _ => ?_) (fun _ => ?_)⟩
      · obtain ⟨py, rfl, hy⟩ := fy
        refine ⟨.ref p, rfl, p, _, 1, _, rfl, rfl, SqT.of hp, rfl, py, _, 0, _, rfl, rfl, SqT.of hy, rfl, b.num, rfl, .ref p, rfl, p, _, 1, _, rfl, rfl, SqT.of hp, rfl, py, _, 1, _, rfl, rfl, SqT.of hy, rfl, sz_n (by decide : 2 ≤ 1000), fun g ng => ?_⟩
        have sg1 := same_upd (o := .tup [.int (-b.num), .int (b.den : Int)]) ng
        refine ⟨.ref p, rfl, p, _, 0, _, rfl, rfl, SqT.of (sg1 _ _ hp), rfl, sz_n (by decide : 2 ≤ 1000), fun g2 ng2 => ⟨sz_n (by decide : 3 ≤ 1000), fun g3 ng3 => ?_⟩⟩
        have sg2 := same_upd (o := .tup [.int 0, .int 1]) ng2
        have sg3 := same_upd (o := .tup [.ref g, x, .ref g2]) ng3
        refine q _ _ (-b) a 0 (k1.trans (same_keep (sg1.trans (sg2.trans sg3)))) ((D1.same (sg1.trans (sg2.trans sg3))).mono (by omega)) ⟨g3, _, rfl, upd_same, FrV.same (sg2.trans sg3) (frv_new (Rat.neg_num b).symm (by rw [Rat.neg_den])), fx.same (sg1.trans (sg2.trans sg3)), FrV.same sg3 (frv_new rfl rfl), trivial⟩ (rs3 ?_ ((bf a (by simp)).mono (by decide)) ⟨bt_lit (by decide), bt_lit (by decide)⟩)
        have hb := (bf b (by simp)).mono (show 20 ≤ 22 by decide)
        exact ⟨by rw [Rat.neg_num]; exact hb.1.neg, by rw [Rat.neg_den]; exact hb.2⟩
      · refine ⟨.int k, rfl, rfl, _, rfl, ite2 (fun _ => ?_) (fun _ => ?_)⟩
        · refine ⟨.ref p, rfl, p, rfl, ⟨_, SqT.of hp⟩, fun D nD => ?_⟩
          have af : AF H1 [x, y, z] [a, b, e] := ⟨fx, fy, fz, trivial⟩
          let t : Rat := ⟨3, 2, by decide, by decide⟩
          have bt : Rb 2 t := ⟨bt_lit (by decide), bt_lit (by decide)⟩
          refine lc_tup (K := K) (a := p) (xs := [x, y, z]) (fun i H' => Same H1 H' ∧ ∃ acc, H' D = some (.lst acc) ∧ acc.length = i ∧ AF H' acc (([a, b, e].map (fun u => u * t)).take i)) ⟨same_upd nD, [], upd_same, rfl, trivial⟩ (fun i H' _ h => same_tup h.1 (SqT.of hp)) (fun i x' H' hx h => ?_) (fun H' h => ?_)
          · obtain ⟨hS, acc, hacc, hal, haf⟩ := h
            obtain ⟨u, hu, fu⟩ := af.get hx
            have hi : i < 3 := (List.getElem?_eq_some_iff.mp hx).1
            have bu := rs_get bf hu
            refine ⟨rfl, rd_yes (iteT ?_)⟩
            refine ⟨x', rfl, sz_n (by decide : 2 ≤ 1000), fun g ng => ?_⟩
            have sg1 := same_upd (o := .tup [.int 3, .int 2]) ng
            refine ⟨_, _, u, t, rfl, fu.same (hS.trans sg1), frv_new rfl rfl, bu.mono (by decide), bt.mono (by decide), trivial, fun H2 v2 s2 f2 => ?_⟩
            have hD2 := s2 _ _ (sg1 _ _ hacc)
            refine ⟨acc, hD2, small1000 (by omega), fun a' o' e' => ?_, acc ++ [v2], upd_same, ?_, ?_⟩
            · rw [upd_ne (ne_of_none e' nD)]
              exact s2 _ _ (sg1 _ _ (hS _ _ e'))
            · rw [List.length_append, hal]
              rfl
            · have hm : ([a, b, e].map (fun u => u * t))[i]? = some (u * t) := by
                rw [List.getElem?_map, hu]
                rfl
              rw [take_succ hm]
              exact AF.snoc (frv_lst hD2 f2) (AF.lst hD2 (haf.same (sg1.trans s2)))
          · obtain ⟨hS, acc, hacc, hal, haf⟩ := h
            refine ⟨D, acc, rfl, .inl ⟨SqL.of hacc, fun g ng => ?_⟩⟩
            have sg1 := same_upd (o := .tup acc) ng
            refine q _ _ (a * t) (b * t) (e * t) (k1.trans (same_keep (hS.trans sg1))) ((D1.same (hS.trans sg1)).mono (by omega)) ⟨g, acc, rfl, upd_same, haf.same sg1⟩ (rs3 ?_ ?_ ?_)
            · exact (bf a (by simp)).mul bt
            · exact (bf b (by simp)).mul bt
            · exact (bf e (by simp)).mul bt
        · exact ⟨.ref d, rfl, d, l, s, ns, c + 1, rfl, D1, by omega, fun H2 v2 a2 b2 e2 k2 D2 h2 b2' => q H2 v2 a2 b2 e2 (k1.trans k2) (D2.mono (by omega)) h2 (rs_mono b2' (by decide))⟩
theorem dots_sum (a b c x y z u v w : Rat) : rsum (prods [a, b, c] [x + u, y + v, z + w]) = rsum (prods [a, b, c] [x, y, z]) + rsum (prods [a, b, c] [u, v, w]) := by
  show a * (x + u) + (b * (y + v) + (c * (z + w) + 0)) = (a * x + (b * y + (c * z + 0))) + (a * u + (b * v + (c * w + 0)))
  grind
theorem dots_comm (a b c x y z : Rat) : rsum (prods [a, b, c] [x, y, z]) = rsum (prods [x, y, z] [a, b, c]) := by
  show a * x + (b * y + (c * z + 0)) = x * a + (y * b + (z * c + 0))
  grind
/-! ### the law -/
def sp_law (K : PySem.W.Frag) : Sp := fun vs H Q _ => ∃ (a : Addr) (ns : List Int), vs = [.ref a] ∧ SqL K H a (ns.map V.int) ∧ ns.length ≤ 63 ∧ ∀ H', Q (.bl true) H'
theorem ok_law {f : Addr} {fd : FuncData} (F : Fun K "law" "law" s_law f fd) (T : Tx K mg) : FnOk P w K mg base CX0 8 f fd ["_law_script"] (sp_law K) := by
  have G__law_deck := ok__law_deck (P := P) (w := w) (base := base) T
  have G__law_dot := ok__law_dot (P := P) (w := w) (base := base) T
  have G__law_is := ok__law_is (P := P) (w := w) (base := base) T
  have G__law_plus := ok__law_plus (P := P) (w := w) (base := base) T
  have G__law_point := ok__law_point (P := P) (w := w) (base := base) T
  have G__law_second := ok__law_second (P := P) (w := w) (base := base) T
  have G__law_take := ok__law_take (P := P) (w := w) (base := base) T
  have G_dot := ok_dot (P := P) (w := w) (base := base) T
  refine F.ok sc_law (fun vs H Q E h => ?_) (fun cdv A outer s H vs Q E hr h => ?_)
  · obtain ⟨_, _, rfl, _⟩ := h
    rfl
  · obtain ⟨sa, ns, rfl, hS, hlen, q⟩ := h
    refine ⟨_, (pss_cons (ps_set (i := 1) sc_law.nd rfl (Or.inl rfl) (pe_call G__law_deck (hr.mono (by first | decide | omega)) (by rfl) T.g__law_deck T.F__law_deck.kp T.b__law_deck .nil pass0 (pa_cons (pv 0) pa_nil)))
      (pss_cons (ps_for PassesOwn.never rfl (pi_range1 (by rfl) T.m_range (pa_cons pe_int pa_nil)) (pg_name (i := 2) sc_law.nd rfl (Or.inl rfl)) (pss_cons (ps_set (i := 3) sc_law.nd rfl (Or.inl rfl) (pe_call G__law_point (hr.mono (by first | decide | omega)) (by rfl) T.g__law_point T.F__law_point.kp T.b__law_point .nil pass0 (pa_cons (pv 1) pa_nil)))
      (pss_cons (ps_set (i := 4) sc_law.nd rfl (Or.inl rfl) (pe_call G__law_second (hr.mono (by first | decide | omega)) (by rfl) T.g__law_second T.F__law_second.kp T.b__law_second .nil pass0 (pa_cons (pv 1) (pa_cons (pv 3) pa_nil))))
      (pss_cons (ps_set (i := 5) sc_law.nd rfl (Or.inl rfl) (pe_call G__law_dot (hr.mono (by first | decide | omega)) (by rfl) T.g__law_dot T.F__law_dot.kp T.b__law_dot .nil pass0 (pa_cons (pv 3) (pa_cons (pv 4) pa_nil))))
      (pss_cons (ps_if (PW.pt (pw_or (pt_not (pt_val (pe_call G__law_is (hr.mono (by first | decide | omega)) (by rfl) T.g__law_is T.F__law_is.kp T.b__law_is .nil pass0 (pa_cons (pe_call G_dot (hr.mono (by first | decide | omega)) (by rfl) T.g_dot T.F_dot.kp T.b_dot .nil pass0 (pa_cons (pv 3) (pa_cons (pv 4) pa_nil))) (pa_cons (pv 5) pa_nil))))) (pw_or1 (pt_not (pt_val (pe_call G__law_is (hr.mono (by first | decide | omega)) (by rfl) T.g__law_is T.F__law_is.kp T.b__law_is .nil pass0 (pa_cons (pe_call G_dot (hr.mono (by first | decide | omega)) (by rfl) T.g_dot T.F_dot.kp T.b_dot .nil pass0 (pa_cons (pv 4) (pa_cons (pv 3) pa_nil))) (pa_cons (pv 5) pa_nil)))))))) (pss_one (ps_ret pe_bl)) pss_nil)
      (pss_cons (ps_set (i := 6) sc_law.nd rfl (Or.inl rfl) (pe_tup (pa_cons (pe_tup (pa_cons (pe_call G__law_take (hr.mono (by first | decide | omega)) (by rfl) T.g__law_take T.F__law_take.kp T.b__law_take .nil pass0 (pa_cons (pv 1) (pa_cons pe_int pa_nil))) (pa_cons pe_int pa_nil))) (pa_cons (pe_tup (pa_cons pe_int (pa_cons pe_int pa_nil))) (pa_cons (pe_tup (pa_cons pe_int (pa_cons pe_int pa_nil))) pa_nil)))))
      (pss_cons (ps_set (i := 7) sc_law.nd rfl (Or.inl rfl) (pe_callTy call_tuple_of (by rfl) T.m_tuple (by decide +kernel) (pa_cons (pe_lc (own := [("_law_here", 8), ("_law_there", 9)]) (g := gTup K 2 (gCons (gName 8) (gCons (gName 9) gNil))) (by rfl) sc_law.nd (RZ.pi_zipA (by rfl) T.m_zip (pa_cons (pv 4) (pa_cons (pv 6) pa_nil))) (blkOk_by (own := [("_law_here", 8), ("_law_there", 9)]) (N := nm_law) (sc := defScope s_law) (by decide +kernel)) (fun _ _ _ _ _ => (pg_tupC (K := K) rfl (by rfl) (pgs_cons (pg_name (i := 8) sc_law.nd rfl (Or.inl rfl)) (pgs_cons (pg_name (i := 9) sc_law.nd rfl (Or.inl rfl)) pgs_nil)))) (fun _ _ _ _ _ => pts_nil) (fun _ _ _ _ _ => (pe_call G__law_plus (hr.mono (by first | decide | omega)) (by rfl) T.g__law_plus T.F__law_plus.kp T.b__law_plus .nil pass0 (pa_cons (pv 8) (pa_cons (pv 9) pa_nil))))) pa_nil)))
      (pss_one (ps_if (pt_not (pt_val (pe_call G__law_is (hr.mono (by first | decide | omega)) (by rfl) T.g__law_is T.F__law_is.kp T.b__law_is .nil pass0 (pa_cons (pe_call G_dot (hr.mono (by first | decide | omega)) (by rfl) T.g_dot T.F_dot.kp T.b_dot .nil pass0 (pa_cons (pv 3) (pa_cons (pv 7) pa_nil))) (pa_cons (pe_call G__law_plus (hr.mono (by first | decide | omega)) (by rfl) T.g__law_plus T.F__law_plus.kp T.b__law_plus .nil pass0 (pa_cons (pv 5) (pa_cons (pe_call G__law_dot (hr.mono (by first | decide | omega)) (by rfl) T.g__law_dot T.F__law_dot.kp T.b__law_dot .nil pass0 (pa_cons (pv 3) (pa_cons (pv 6) pa_nil))) pa_nil))) pa_nil))))) (pss_one (ps_ret pe_bl)) pss_nil)))))))))
      (pss_one (ps_ret pe_bl)))), ?_⟩
    refine ⟨.ref sa, rfl, sa, ns, rfl, hS, hlen, fun H1 d l s1 D1 _ _ => ?_⟩
    refine ⟨6, rfl, by decide, by decide, for_range (lo := 0) (n := 6) (fun i σ H' => ∃ y0 y1 y2 y3 y4 y5 y6 y7, σ = [some (.ref sa), some (.ref d), y0, y1, y2, y3, y4, y5, y6, y7] ∧ Dk K H' d l sa ns (100 * i)) ⟨none, none, none, none, none, none, none, none, rfl, D1⟩ (fun i σ H' hi h => ?_) (fun σ H' h => ?_)⟩
    · obtain ⟨y0, y1, y2, y3, y4, y5, y6, y7, rfl, D2⟩ := h
      refine ⟨.ref d, rfl, d, l, sa, ns, _, rfl, D2, by omega, fun H3 v a b c k3 D3 f3 b3 => ?_⟩
      refine ⟨.ref d, rfl, v, rfl, d, l, sa, ns, _, v, a, b, c, rfl, D3, by omega, f3, b3, fun H4 v' x y z k4 D4 f4 b4 => ?_⟩
      have g4 := k4.pt D3 f3
      refine ⟨v, rfl, v', rfl, v, v', [a, b, c], [x, y, z], rfl, g4, f4, rfl, rfl, rs_mono b3 (by decide), rs_mono b4 (by decide), fun H5 v5 s5 f5 b5 => ?_⟩
      refine ⟨v, rfl, v', rfl, v, v', [a, b, c], [x, y, z], rfl, g4.same s5, f4.same s5, rfl, rfl, rs_mono b3 (by decide), rs_mono b4 (by decide), fun H6 v6 s6 f6 => ?_⟩
      refine ⟨v5, rfl, v6, v5, _, rfl, f6, f5.same s6, fun H7 s7 => ⟨true, rfl, iteF ?_⟩⟩
      have S7 := s5.trans (s6.trans s7)
      refine ⟨v', rfl, v, rfl, v', v, [x, y, z], [a, b, c], rfl, f4.same S7, g4.same S7, rfl, rfl, rs_mono b4 (by decide), rs_mono b3 (by decide), fun H8 v8 s8 f8 => ?_⟩
      rw [← dots_comm] at f8
      refine ⟨v5, rfl, v8, v5, _, rfl, f8, f5.same (s6.trans (s7.trans s8)), fun H9 s9 => ⟨true, rfl, iteF ?_⟩⟩
      have S9 := S7.trans (s8.trans s9)
      -- third
      refine ⟨.ref d, rfl, d, l, sa, ns, _, 9, rfl, D4.same S9, by omega, by decide, by decide, fun H10 n k10 D10 n0 n1 => ?_⟩
      refine ⟨sz_n (by decide : 2 ≤ 1000), fun t1 m1 => ⟨sz_n (by decide : 2 ≤ 1000), fun t2 m2 => ⟨sz_n (by decide : 2 ≤ 1000), fun t3 m3 => ⟨sz_n (by decide : 3 ≤ 1000), fun t4 m4 => ?_⟩⟩⟩⟩
      have e1 := same_upd (o := .tup [.int n, .int 1]) m1
      have e2 := same_upd (o := .tup [.int 1, .int 2]) m2
      have e3 := same_upd (o := .tup [.int 0, .int 1]) m3
      have e4 := same_upd (o := .tup [.ref t1, .ref t2, .ref t3]) m4
      have E4 := e1.trans (e2.trans (e3.trans e4))
      let h2 : Rat := ⟨1, 2, by decide, by decide⟩
      have f10 : PtV (upd (upd (upd (upd H10 t1 (.tup [.int n, .int 1])) t2 (.tup [.int 1, .int 2])) t3 (.tup [.int 0, .int 1])) t4 (.tup [.ref t1, .ref t2, .ref t3])) (.ref t4) [(n : Rat), h2, 0] := ⟨t4, [.ref t1, .ref t2, .ref t3], rfl, upd_same, FrV.same (e2.trans (e3.trans e4)) (frv_new (Rat.num_intCast n).symm (by rw [Rat.den_intCast]; rfl)), FrV.same (e3.trans e4) (frv_new rfl rfl), FrV.same e4 (frv_new rfl rfl), trivial⟩
      have b10 : Rs 4 [(n : Rat), h2, 0] := rs3 ⟨by rw [Rat.num_intCast]; exact bt_lit (by omega), by rw [Rat.den_intCast]; exact bt_lit (by decide)⟩ ⟨bt_lit (by decide), bt_lit (by decide)⟩ ⟨bt_lit (by decide), bt_lit (by decide)⟩
      have K10 : Keep d l H4 _ := (same_keep S9).trans (k10.trans (same_keep E4))
      have g10 := K10.pt D4 g4
      have o10 := K10.pt D4 f4
      have u10 := (k10.trans (same_keep E4)).fr (D4.same S9) (f5.same (s6.trans (s7.trans (s8.trans s9))))
      have D11 := D10.same E4
      generalize upd (upd (upd (upd H10 t1 (.tup [.int n, .int 1])) t2 (.tup [.int 1, .int 2])) t3 (.tup [.int 0, .int 1])) t4 (.tup [.ref t1, .ref t2, .ref t3]) = H11 at *
      clear e1 e2 e3 e4 E4 m4
      -- both
      obtain ⟨po, ox, oy, oz, rfl, ho, fox, foy, foz⟩ := pt3 o10
      obtain ⟨pt, tx, ty, tz, et, ht, ftx, fty, ftz⟩ := pt3 f10
      cases et
      refine ⟨_, rfl, _, rfl, po, _, _, _, rfl, .inr ⟨SqT.of ho, SqT.of ht, fun D nD => ?_⟩⟩
      have afo : AF H11 [ox, oy, oz] [x, y, z] := ⟨fox, foy, foz, trivial⟩
      have aft : AF H11 [tx, ty, tz] [(n : Rat), h2, 0] := ⟨ftx, fty, ftz, trivial⟩
      refine lc_it (walk_zipT (xs := [ox, oy, oz]) (ys := [tx, ty, tz]) (n := 3) rfl) (fun i H' => Same H11 H' ∧ ∃ acc, H' D = some (.lst acc) ∧ acc.length = i ∧ AF H' acc ([x + (n : Rat), y + h2, z + 0].take i)) ⟨same_upd nD, [], upd_same, rfl, trivial⟩ (fun i H' _ h => ⟨same_tup h.1 (SqT.of ho), same_tup h.1 (SqT.of ht)⟩) (fun i vx H' H'' hi h hy => ?_) (fun H' h => ?_)
      · obtain ⟨hS, acc, hacc, hal, haf⟩ := h
        obtain ⟨T1, x1, x2, rfl, nT, rfl, hx1, hx2⟩ := hy
        obtain ⟨r1, hr1, fr1⟩ := afo.get hx1
        obtain ⟨r2, hr2, fr2⟩ := aft.get hx2
        have c1 := rs_get b4 hr1
        have c2 := rs_get b10 hr2
        have sT := same_upd (o := .tup [x1, x2]) nT
        refine ⟨T1, _, rfl, SqT.of upd_same, rfl, _, _, rfl, _, _, rfl, rfl, rfl, rd_yes (iteT ?_)⟩
        refine ⟨x1, rfl, x2, rfl, x1, x2, r1, r2, rfl, fr1.same (hS.trans sT), fr2.same (hS.trans sT), c1.mono (by decide), c2.mono (by decide), trivial, fun H12 v12 s12 f12 => ?_⟩
        have hD2 := s12 _ _ (sT _ _ hacc)
        refine ⟨acc, hD2, small1000 (by omega), fun a' o' e' => ?_, acc ++ [v12], upd_same, ?_, ?_⟩
        · rw [upd_ne (ne_of_none e' nD)]
          exact s12 _ _ (sT _ _ (hS _ _ e'))
        · rw [List.length_append, hal]
          rfl
        · have hm : [x + (n : Rat), y + h2, z + 0][i]? = some (r1 + r2) := by
            match i, hr1, hr2 with
            | 0, hr1, hr2 => rw [← Option.some.inj hr1, ← Option.some.inj hr2]; rfl
            | 1, hr1, hr2 => rw [← Option.some.inj hr1, ← Option.some.inj hr2]; rfl
            | 2, hr1, hr2 => rw [← Option.some.inj hr1, ← Option.some.inj hr2]; rfl
          rw [take_succ hm]
          exact AF.snoc (frv_lst hD2 f12) (AF.lst hD2 (haf.same (sT.trans s12)))
      · obtain ⟨hS, acc, hacc, hal, haf⟩ := h
        refine ⟨D, acc, rfl, .inl ⟨SqL.of hacc, fun g ng => ?_⟩⟩
        have sg1 := same_upd (o := .tup acc) ng
        have Sg := hS.trans sg1
        have fb : PtV (upd H' g (.tup acc)) (.ref g) [x + (n : Rat), y + h2, z + 0] := ⟨g, acc, rfl, upd_same, haf.same sg1⟩
        have bb : Rs 27 [x + (n : Rat), y + h2, z + 0] := rs3 ((b4 x (by simp)).add (b10 _ (by simp))) ((b4 y (by simp)).add (b10 _ (by simp))) ((b4 z (by simp)).add (b10 0 (by simp)))
        refine ⟨v, rfl, .ref g, rfl, v, .ref g, [a, b, c], _, rfl, g10.same Sg, fb, rfl, rfl, rs_mono b3 (by decide), rs_mono bb (by decide), fun H13 v13 s13 f13 => ?_⟩
        refine ⟨v5, rfl, v, rfl, .ref t4, rfl, v, .ref t4, [a, b, c], _, rfl, g10.same (Sg.trans s13), f10.same (Sg.trans s13), rfl, rfl, rs_mono b3 (by decide), rs_mono b10 (by decide), fun H14 v14 s14 f14 b14 => ?_⟩
        refine ⟨v5, v14, _, _, rfl, u10.same (Sg.trans (s13.trans s14)), f14, b5.mono (by decide), b14.mono (by decide), trivial, fun H15 v15 s15 f15 => ?_⟩
        rw [dots_sum] at f13
        refine ⟨v13, v15, _, rfl, f13.same (s14.trans s15), f15, fun H16 s16 => ⟨true, rfl, iteF ?_⟩⟩
        exact ⟨_, _, _, _, _, _, _, _, rfl, (D11.same (Sg.trans (s13.trans (s14.trans (s15.trans s16))))).mono (by omega)⟩
    · exact q _
end

theorem all_mk {l : PySem.W.OpenLaw} {w : World} {K : PySem.W.Frag} {h : Heap} {mg : Str → Option Value} {fa : Addr} (X : K.In h) (G : h.Ns mainGlobals mg) (hfa : mg "law" = some (.ref fa))
    {f0 : Addr} {od0 an0 : Option Addr} {sl0 : Array (Option Value)} {oc0 kV0 dc0 pm0 cd0 ct0 : Value}
    (a0 : PySem.W.nsIn K mainGlobals "frac" = some (some (.ref f0))) (l0 : K.lookup f0 = some ⟨oc0, od0, .func (PySem.W.fnOf "frac" "frac" (defArgs s_frac) (defBody s_frac) (defScope s_frac) .none kV0 dc0 pm0 an0 cd0 ct0), sl0⟩) (c0 : PySem.W.codeIn K cd0 "frac" = true) (k0 : PySem.W.keepIn K (.ref f0) = true)
    {f1 : Addr} {od1 an1 : Option Addr} {sl1 : Array (Option Value)} {oc1 kV1 dc1 pm1 cd1 ct1 : Value}
    (a1 : PySem.W.nsIn K mainGlobals "dot" = some (some (.ref f1))) (l1 : K.lookup f1 = some ⟨oc1, od1, .func (PySem.W.fnOf "dot" "dot" (defArgs s_dot) (defBody s_dot) (defScope s_dot) .none kV1 dc1 pm1 an1 cd1 ct1), sl1⟩) (c1 : PySem.W.codeIn K cd1 "dot" = true) (k1 : PySem.W.keepIn K (.ref f1) = true)
    {f2 : Addr} {od2 an2 : Option Addr} {sl2 : Array (Option Value)} {oc2 kV2 dc2 pm2 cd2 ct2 : Value}
    (a2 : PySem.W.nsIn K mainGlobals "_law_cell" = some (some (.ref f2))) (l2 : K.lookup f2 = some ⟨oc2, od2, .func (PySem.W.fnOf "_law_cell" "_law_cell" (defArgs s__law_cell) (defBody s__law_cell) (defScope s__law_cell) .none kV2 dc2 pm2 an2 cd2 ct2), sl2⟩) (c2 : PySem.W.codeIn K cd2 "_law_cell" = true) (k2 : PySem.W.keepIn K (.ref f2) = true)
    {f3 : Addr} {od3 an3 : Option Addr} {sl3 : Array (Option Value)} {oc3 kV3 dc3 pm3 cd3 ct3 : Value}
    (a3 : PySem.W.nsIn K mainGlobals "_law_mixed" = some (some (.ref f3))) (l3 : K.lookup f3 = some ⟨oc3, od3, .func (PySem.W.fnOf "_law_mixed" "_law_mixed" (defArgs s__law_mixed) (defBody s__law_mixed) (defScope s__law_mixed) .none kV3 dc3 pm3 an3 cd3 ct3), sl3⟩) (c3 : PySem.W.codeIn K cd3 "_law_mixed" = true) (k3 : PySem.W.keepIn K (.ref f3) = true)
    {f4 : Addr} {od4 an4 : Option Addr} {sl4 : Array (Option Value)} {oc4 kV4 dc4 pm4 cd4 ct4 : Value}
    (a4 : PySem.W.nsIn K mainGlobals "_law_deck" = some (some (.ref f4))) (l4 : K.lookup f4 = some ⟨oc4, od4, .func (PySem.W.fnOf "_law_deck" "_law_deck" (defArgs s__law_deck) (defBody s__law_deck) (defScope s__law_deck) .none kV4 dc4 pm4 an4 cd4 ct4), sl4⟩) (c4 : PySem.W.codeIn K cd4 "_law_deck" = true) (k4 : PySem.W.keepIn K (.ref f4) = true)
    {f5 : Addr} {od5 an5 : Option Addr} {sl5 : Array (Option Value)} {oc5 kV5 dc5 pm5 cd5 ct5 : Value}
    (a5 : PySem.W.nsIn K mainGlobals "_law_take" = some (some (.ref f5))) (l5 : K.lookup f5 = some ⟨oc5, od5, .func (PySem.W.fnOf "_law_take" "_law_take" (defArgs s__law_take) (defBody s__law_take) (defScope s__law_take) .none kV5 dc5 pm5 an5 cd5 ct5), sl5⟩) (c5 : PySem.W.codeIn K cd5 "_law_take" = true) (k5 : PySem.W.keepIn K (.ref f5) = true)
    {f6 : Addr} {od6 an6 : Option Addr} {sl6 : Array (Option Value)} {oc6 kV6 dc6 pm6 cd6 ct6 : Value}
    (a6 : PySem.W.nsIn K mainGlobals "_law_gcd" = some (some (.ref f6))) (l6 : K.lookup f6 = some ⟨oc6, od6, .func (PySem.W.fnOf "_law_gcd" "_law_gcd" (defArgs s__law_gcd) (defBody s__law_gcd) (defScope s__law_gcd) .none kV6 dc6 pm6 an6 cd6 ct6), sl6⟩) (c6 : PySem.W.codeIn K cd6 "_law_gcd" = true) (k6 : PySem.W.keepIn K (.ref f6) = true)
    {f7 : Addr} {od7 an7 : Option Addr} {sl7 : Array (Option Value)} {oc7 kV7 dc7 pm7 cd7 ct7 : Value}
    (a7 : PySem.W.nsIn K mainGlobals "_law_share" = some (some (.ref f7))) (l7 : K.lookup f7 = some ⟨oc7, od7, .func (PySem.W.fnOf "_law_share" "_law_share" (defArgs s__law_share) (defBody s__law_share) (defScope s__law_share) .none kV7 dc7 pm7 an7 cd7 ct7), sl7⟩) (c7 : PySem.W.codeIn K cd7 "_law_share" = true) (k7 : PySem.W.keepIn K (.ref f7) = true)
    {f8 : Addr} {od8 an8 : Option Addr} {sl8 : Array (Option Value)} {oc8 kV8 dc8 pm8 cd8 ct8 : Value}
    (a8 : PySem.W.nsIn K mainGlobals "_law_plus" = some (some (.ref f8))) (l8 : K.lookup f8 = some ⟨oc8, od8, .func (PySem.W.fnOf "_law_plus" "_law_plus" (defArgs s__law_plus) (defBody s__law_plus) (defScope s__law_plus) .none kV8 dc8 pm8 an8 cd8 ct8), sl8⟩) (c8 : PySem.W.codeIn K cd8 "_law_plus" = true) (k8 : PySem.W.keepIn K (.ref f8) = true)
    {f9 : Addr} {od9 an9 : Option Addr} {sl9 : Array (Option Value)} {oc9 kV9 dc9 pm9 cd9 ct9 : Value}
    (a9 : PySem.W.nsIn K mainGlobals "_law_times" = some (some (.ref f9))) (l9 : K.lookup f9 = some ⟨oc9, od9, .func (PySem.W.fnOf "_law_times" "_law_times" (defArgs s__law_times) (defBody s__law_times) (defScope s__law_times) .none kV9 dc9 pm9 an9 cd9 ct9), sl9⟩) (c9 : PySem.W.codeIn K cd9 "_law_times" = true) (k9 : PySem.W.keepIn K (.ref f9) = true)
    {f10 : Addr} {od10 an10 : Option Addr} {sl10 : Array (Option Value)} {oc10 kV10 dc10 pm10 cd10 ct10 : Value}
    (a10 : PySem.W.nsIn K mainGlobals "_law_figures" = some (some (.ref f10))) (l10 : K.lookup f10 = some ⟨oc10, od10, .func (PySem.W.fnOf "_law_figures" "_law_figures" (defArgs s__law_figures) (defBody s__law_figures) (defScope s__law_figures) .none kV10 dc10 pm10 an10 cd10 ct10), sl10⟩) (c10 : PySem.W.codeIn K cd10 "_law_figures" = true) (k10 : PySem.W.keepIn K (.ref f10) = true)
    {f11 : Addr} {od11 an11 : Option Addr} {sl11 : Array (Option Value)} {oc11 kV11 dc11 pm11 cd11 ct11 : Value}
    (a11 : PySem.W.nsIn K mainGlobals "_law_fraction" = some (some (.ref f11))) (l11 : K.lookup f11 = some ⟨oc11, od11, .func (PySem.W.fnOf "_law_fraction" "_law_fraction" (defArgs s__law_fraction) (defBody s__law_fraction) (defScope s__law_fraction) .none kV11 dc11 pm11 an11 cd11 ct11), sl11⟩) (c11 : PySem.W.codeIn K cd11 "_law_fraction" = true) (k11 : PySem.W.keepIn K (.ref f11) = true)
    {f12 : Addr} {od12 an12 : Option Addr} {sl12 : Array (Option Value)} {oc12 kV12 dc12 pm12 cd12 ct12 : Value}
    (a12 : PySem.W.nsIn K mainGlobals "_law_is" = some (some (.ref f12))) (l12 : K.lookup f12 = some ⟨oc12, od12, .func (PySem.W.fnOf "_law_is" "_law_is" (defArgs s__law_is) (defBody s__law_is) (defScope s__law_is) .none kV12 dc12 pm12 an12 cd12 ct12), sl12⟩) (c12 : PySem.W.codeIn K cd12 "_law_is" = true) (k12 : PySem.W.keepIn K (.ref f12) = true)
    {f13 : Addr} {od13 an13 : Option Addr} {sl13 : Array (Option Value)} {oc13 kV13 dc13 pm13 cd13 ct13 : Value}
    (a13 : PySem.W.nsIn K mainGlobals "_law_point" = some (some (.ref f13))) (l13 : K.lookup f13 = some ⟨oc13, od13, .func (PySem.W.fnOf "_law_point" "_law_point" (defArgs s__law_point) (defBody s__law_point) (defScope s__law_point) .none kV13 dc13 pm13 an13 cd13 ct13), sl13⟩) (c13 : PySem.W.codeIn K cd13 "_law_point" = true) (k13 : PySem.W.keepIn K (.ref f13) = true)
    {f14 : Addr} {od14 an14 : Option Addr} {sl14 : Array (Option Value)} {oc14 kV14 dc14 pm14 cd14 ct14 : Value}
    (a14 : PySem.W.nsIn K mainGlobals "_law_dot" = some (some (.ref f14))) (l14 : K.lookup f14 = some ⟨oc14, od14, .func (PySem.W.fnOf "_law_dot" "_law_dot" (defArgs s__law_dot) (defBody s__law_dot) (defScope s__law_dot) .none kV14 dc14 pm14 an14 cd14 ct14), sl14⟩) (c14 : PySem.W.codeIn K cd14 "_law_dot" = true) (k14 : PySem.W.keepIn K (.ref f14) = true)
    {f15 : Addr} {od15 an15 : Option Addr} {sl15 : Array (Option Value)} {oc15 kV15 dc15 pm15 cd15 ct15 : Value}
    (a15 : PySem.W.nsIn K mainGlobals "_law_second" = some (some (.ref f15))) (l15 : K.lookup f15 = some ⟨oc15, od15, .func (PySem.W.fnOf "_law_second" "_law_second" (defArgs s__law_second) (defBody s__law_second) (defScope s__law_second) .none kV15 dc15 pm15 an15 cd15 ct15), sl15⟩) (c15 : PySem.W.codeIn K cd15 "_law_second" = true) (k15 : PySem.W.keepIn K (.ref f15) = true)
    {f16 : Addr} {od16 an16 : Option Addr} {sl16 : Array (Option Value)} {oc16 kV16 dc16 pm16 cd16 ct16 : Value}
    (a16 : PySem.W.nsIn K mainGlobals "law" = some (some (.ref f16))) (l16 : K.lookup f16 = some ⟨oc16, od16, .func (PySem.W.fnOf "law" "law" (defArgs s_law) (defBody s_law) (defScope s_law) .none kV16 dc16 pm16 an16 cd16 ct16), sl16⟩) (c16 : PySem.W.codeIn K cd16 "law" = true) (k16 : PySem.W.keepIn K (.ref f16) = true)
    (z0 : PySem.W.nsIn K mainGlobals "abs" = some none)
    (z1 : PySem.W.nsIn K mainGlobals "bool" = some none)
    (z2 : PySem.W.nsIn K mainGlobals "int" = some none)
    (z3 : PySem.W.nsIn K mainGlobals "isinstance" = some none)
    (z4 : PySem.W.nsIn K mainGlobals "len" = some none)
    (z5 : PySem.W.nsIn K mainGlobals "max" = some none)
    (z6 : PySem.W.nsIn K mainGlobals "range" = some none)
    (z7 : PySem.W.nsIn K mainGlobals "tuple" = some none)
    (z8 : PySem.W.nsIn K mainGlobals "zip" = some none)
    : ∃ fd : FuncData, (∀ (s : Shared) (v : Value), BindsTo s fd ⟨[v], []⟩ [("_law_script", v)]) ∧ ∀ base : Heap, K.In base → base.Ns mainGlobals mg → FnOk l.prog w K mg base CX0 8 fa fd ["_law_script"] (sp_law K) := by
  have e := hfa.symm.trans (PySem.W.mg_of X G a16)
  cases e
  have F0 := fun_mk (st := s_frac) l0 c0 k0
  have b0 := F0.binds (ps := ["above", "below"]) fun _ _ _ _ _ _ us hl => match us, hl with | [_, _], _ => rfl
  have F1 := fun_mk (st := s_dot) l1 c1 k1
  have b1 := F1.binds (ps := ["one", "other"]) fun _ _ _ _ _ _ us hl => match us, hl with | [_, _], _ => rfl
  have F2 := fun_mk (st := s__law_cell) l2 c2 k2
  have b2 := F2.binds (ps := ["_law_script", "_law_k"]) fun _ _ _ _ _ _ us hl => match us, hl with | [_, _], _ => rfl
  have F3 := fun_mk (st := s__law_mixed) l3 c3 k3
  have b3 := F3.binds (ps := ["_law_script", "_law_k", "_law_many"]) fun _ _ _ _ _ _ us hl => match us, hl with | [_, _, _], _ => rfl
  have F4 := fun_mk (st := s__law_deck) l4 c4 k4
  have b4 := F4.binds (ps := ["_law_script"]) fun _ _ _ _ _ _ us hl => match us, hl with | [_], _ => rfl
  have F5 := fun_mk (st := s__law_take) l5 c5 k5
  have b5 := F5.binds (ps := ["_law_deck_here", "_law_many"]) fun _ _ _ _ _ _ us hl => match us, hl with | [_, _], _ => rfl
  have F6 := fun_mk (st := s__law_gcd) l6 c6 k6
  have b6 := F6.binds (ps := ["_law_one", "_law_other"]) fun _ _ _ _ _ _ us hl => match us, hl with | [_, _], _ => rfl
  have F7 := fun_mk (st := s__law_share) l7 c7 k7
  have b7 := F7.binds (ps := ["_law_top", "_law_bottom"]) fun _ _ _ _ _ _ us hl => match us, hl with | [_, _], _ => rfl
  have F8 := fun_mk (st := s__law_plus) l8 c8 k8
  have b8 := F8.binds (ps := ["_law_one", "_law_other"]) fun _ _ _ _ _ _ us hl => match us, hl with | [_, _], _ => rfl
  have F9 := fun_mk (st := s__law_times) l9 c9 k9
  have b9 := F9.binds (ps := ["_law_one", "_law_other"]) fun _ _ _ _ _ _ us hl => match us, hl with | [_, _], _ => rfl
  have F10 := fun_mk (st := s__law_figures) l10 c10 k10
  have b10 := F10.binds (ps := ["_law_deck_here"]) fun _ _ _ _ _ _ us hl => match us, hl with | [_], _ => rfl
  have F11 := fun_mk (st := s__law_fraction) l11 c11 k11
  have b11 := F11.binds (ps := ["_law_deck_here"]) fun _ _ _ _ _ _ us hl => match us, hl with | [_], _ => rfl
  have F12 := fun_mk (st := s__law_is) l12 c12 k12
  have b12 := F12.binds (ps := ["_law_found", "_law_due"]) fun _ _ _ _ _ _ us hl => match us, hl with | [_, _], _ => rfl
  have F13 := fun_mk (st := s__law_point) l13 c13 k13
  have b13 := F13.binds (ps := ["_law_deck_here"]) fun _ _ _ _ _ _ us hl => match us, hl with | [_], _ => rfl
  have F14 := fun_mk (st := s__law_dot) l14 c14 k14
  have b14 := F14.binds (ps := ["_law_one", "_law_other"]) fun _ _ _ _ _ _ us hl => match us, hl with | [_, _], _ => rfl
  have F15 := fun_mk (st := s__law_second) l15 c15 k15
  have b15 := F15.binds (ps := ["_law_deck_here", "_law_one"]) fun _ _ _ _ _ _ us hl => match us, hl with | [_, _], _ => rfl
  have F16 := fun_mk (st := s_law) l16 c16 k16
  have T : Tx K mg := ⟨f0, _, F0, b0, PySem.W.mg_of X G a0, f1, _, F1, b1, PySem.W.mg_of X G a1, f2, _, F2, b2, PySem.W.mg_of X G a2, f3, _, F3, b3, PySem.W.mg_of X G a3, f4, _, F4, b4, PySem.W.mg_of X G a4, f5, _, F5, b5, PySem.W.mg_of X G a5, f6, _, F6, b6, PySem.W.mg_of X G a6, f7, _, F7, b7, PySem.W.mg_of X G a7, f8, _, F8, b8, PySem.W.mg_of X G a8, f9, _, F9, b9, PySem.W.mg_of X G a9, f10, _, F10, b10, PySem.W.mg_of X G a10, f11, _, F11, b11, PySem.W.mg_of X G a11, f12, _, F12, b12, PySem.W.mg_of X G a12, f13, _, F13, b13, PySem.W.mg_of X G a13, f14, _, F14, b14, PySem.W.mg_of X G a14, f15, _, F15, b15, PySem.W.mg_of X G a15, PySem.W.mg_none_of X G z0, PySem.W.mg_none_of X G z1, PySem.W.mg_none_of X G z2, PySem.W.mg_none_of X G z3, PySem.W.mg_none_of X G z4, PySem.W.mg_none_of X G z5, PySem.W.mg_none_of X G z6, PySem.W.mg_none_of X G z7, PySem.W.mg_none_of X G z8⟩
  exact ⟨PySem.W.fnOf "law" "law" (defArgs s_law) (defBody s_law) (defScope s_law) .none kV16 dc16 pm16 an16 cd16 ct16, fun s v => .of_eq rfl, fun base _ _ => ok_law F16 T⟩
end Sc
open PySem PySem.W PyProof.Rows
set_option maxHeartbeats 0 in
theorem PySem.Challenge.cw_scenetongue_k03_dots_holds : PySem.Challenge.rw_scenetongue_k03_dots.Holds := by
  w_on; o_law; k_head; (case hw => w_witness2)
  k_fill
  refine L2.walk_of (l := PySem.Challenge.rw_scenetongue_k03_dots) (n := 63) (k := 8) (x := "_law_script") (CX := fun _ => L2.CX0) (sp := fun w => Sc.sp_law _) rfl (by decide) rfl ⟨rfl, by decide, by decide⟩ (fun w h Y => PySem.W.kIn_of Y) ?F (fun _ _ a ns hl _ hS => ⟨a, ns, rfl, hS, hl, fun _ => rfl⟩) (fun _ _ _ _ _ h => h)
  case F =>
    intro w mg fa h KX G hmg
    refine' Sc.all_mk KX G hmg ?a0 ?l0 ?c0 ?k0 ?a1 ?l1 ?c1 ?k1 ?a2 ?l2 ?c2 ?k2 ?a3 ?l3 ?c3 ?k3 ?a4 ?l4 ?c4 ?k4 ?a5 ?l5 ?c5 ?k5 ?a6 ?l6 ?c6 ?k6 ?a7 ?l7 ?c7 ?k7 ?a8 ?l8 ?c8 ?k8 ?a9 ?l9 ?c9 ?k9 ?a10 ?l10 ?c10 ?k10 ?a11 ?l11 ?c11 ?k11 ?a12 ?l12 ?c12 ?k12 ?a13 ?l13 ?c13 ?k13 ?a14 ?l14 ?c14 ?k14 ?a15 ?l15 ?c15 ?k15 ?a16 ?l16 ?c16 ?k16 ?z0 ?z1 ?z2 ?z3 ?z4 ?z5 ?z6 ?z7 ?z8
    (case a0 => k_is); (case l0 => k_is); (case c0 => k_is); (case k0 => k_is); (case a1 => k_is); (case l1 => k_is); (case c1 => k_is); (case k1 => k_is); (case a2 => k_is); (case l2 => k_is); (case c2 => k_is); (case k2 => k_is); (case a3 => k_is); (case l3 => k_is); (case c3 => k_is); (case k3 => k_is); (case a4 => k_is); (case l4 => k_is); (case c4 => k_is); (case k4 => k_is); (case a5 => k_is); (case l5 => k_is); (case c5 => k_is); (case k5 => k_is); (case a6 => k_is); (case l6 => k_is); (case c6 => k_is); (case k6 => k_is); (case a7 => k_is); (case l7 => k_is); (case c7 => k_is); (case k7 => k_is); (case a8 => k_is); (case l8 => k_is); (case c8 => k_is); (case k8 => k_is); (case a9 => k_is); (case l9 => k_is); (case c9 => k_is); (case k9 => k_is); (case a10 => k_is); (case l10 => k_is); (case c10 => k_is); (case k10 => k_is); (case a11 => k_is); (case l11 => k_is); (case c11 => k_is); (case k11 => k_is); (case a12 => k_is); (case l12 => k_is); (case c12 => k_is); (case k12 => k_is); (case a13 => k_is); (case l13 => k_is); (case c13 => k_is); (case k13 => k_is); (case a14 => k_is); (case l14 => k_is); (case c14 => k_is); (case k14 => k_is); (case a15 => k_is); (case l15 => k_is); (case c15 => k_is); (case k15 => k_is); (case a16 => k_is); (case l16 => k_is); (case c16 => k_is); (case k16 => k_is); (case z0 => k_is); (case z1 => k_is); (case z2 => k_is); (case z3 => k_is); (case z4 => k_is); (case z5 => k_is); (case z6 => k_is); (case z7 => k_is); (case z8 => k_is)
