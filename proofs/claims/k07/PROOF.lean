import PyProof.Rows.All
import Wide.All
import OpenK.AllK
import Wide.FinOn
import HandS.ForMost
import HandS.Wide
import HandS.WideBits
import HandS.IsInst
import HandS.Walk
import HandS.Zip
import HandS.Style
import PySem.Challenge.RW_scenetongue_k07_whole_fractions_agree
set_option Elab.async false
set_option linter.all false
set_option maxRecDepth 100000
set_option maxHeartbeats 4000000

namespace Sc
open PySem PySem.Spec PyProof.Rows L2

def topS (i : Nat) : Stmt := PySem.Challenge.pw_scenetongue_k07_whole_fractions_agree.main.body.getD i (.Pass ⟨0, 0, 0, 0⟩)
abbrev s_frac : Stmt := topS 1
abbrev nm_frac : List Str := ["above", "below", "shared", "rest"]
theorem sc_frac : FnScope nm_frac ["above", "below"] (defScope s_frac) := ⟨rfl, rfl, rfl, by decide +kernel, rfl, by decide +kernel, by decide +kernel⟩
abbrev s_plus : Stmt := topS 2
abbrev nm_plus : List Str := ["one", "other"]
theorem sc_plus : FnScope nm_plus ["one", "other"] (defScope s_plus) := ⟨rfl, rfl, rfl, by decide +kernel, rfl, by decide +kernel, by decide +kernel⟩
abbrev s_minus : Stmt := topS 3
abbrev nm_minus : List Str := ["one", "other"]
theorem sc_minus : FnScope nm_minus ["one", "other"] (defScope s_minus) := ⟨rfl, rfl, rfl, by decide +kernel, rfl, by decide +kernel, by decide +kernel⟩
abbrev s_times : Stmt := topS 4
abbrev nm_times : List Str := ["one", "other"]
theorem sc_times : FnScope nm_times ["one", "other"] (defScope s_times) := ⟨rfl, rfl, rfl, by decide +kernel, rfl, by decide +kernel, by decide +kernel⟩
abbrev s_over : Stmt := topS 5
abbrev nm_over : List Str := ["one", "other"]
theorem sc_over : FnScope nm_over ["one", "other"] (defScope s_over) := ⟨rfl, rfl, rfl, by decide +kernel, rfl, by decide +kernel, by decide +kernel⟩
abbrev s_sign : Stmt := topS 6
abbrev nm_sign : List Str := ["one"]
theorem sc_sign : FnScope nm_sign ["one"] (defScope s_sign) := ⟨rfl, rfl, rfl, by decide +kernel, rfl, by decide +kernel, by decide +kernel⟩
abbrev s_is_whole : Stmt := topS 7
abbrev nm_is_whole : List Str := ["thing"]
theorem sc_is_whole : FnScope nm_is_whole ["thing"] (defScope s_is_whole) := ⟨rfl, rfl, rfl, by decide +kernel, rfl, by decide +kernel, by decide +kernel⟩
abbrev s_is_fraction : Stmt := topS 8
abbrev nm_is_fraction : List Str := ["thing", "above", "below"]
theorem sc_is_fraction : FnScope nm_is_fraction ["thing"] (defScope s_is_fraction) := ⟨rfl, rfl, rfl, by decide +kernel, rfl, by decide +kernel, by decide +kernel⟩
abbrev s__law_cell : Stmt := topS 10
abbrev nm__law_cell : List Str := ["_law_script", "_law_k"]
theorem sc__law_cell : FnScope nm__law_cell ["_law_script", "_law_k"] (defScope s__law_cell) := ⟨rfl, rfl, rfl, by decide +kernel, rfl, by decide +kernel, by decide +kernel⟩
abbrev s__law_mixed : Stmt := topS 11
abbrev nm__law_mixed : List Str := ["_law_script", "_law_k", "_law_many", "_law_number"]
theorem sc__law_mixed : FnScope nm__law_mixed ["_law_script", "_law_k", "_law_many"] (defScope s__law_mixed) := ⟨rfl, rfl, rfl, by decide +kernel, rfl, by decide +kernel, by decide +kernel⟩
abbrev s__law_deck : Stmt := topS 12
abbrev nm__law_deck : List Str := ["_law_script", "_law_part"]
theorem sc__law_deck : FnScope nm__law_deck ["_law_script"] (defScope s__law_deck) := ⟨rfl, rfl, rfl, by decide +kernel, rfl, by decide +kernel, by decide +kernel⟩
abbrev s__law_take : Stmt := topS 13
abbrev nm__law_take : List Str := ["_law_deck_here", "_law_many", "_law_part"]
theorem sc__law_take : FnScope nm__law_take ["_law_deck_here", "_law_many"] (defScope s__law_take) := ⟨rfl, rfl, rfl, by decide +kernel, rfl, by decide +kernel, by decide +kernel⟩
abbrev s__law_gcd : Stmt := topS 14
abbrev nm__law_gcd : List Str := ["_law_one", "_law_other"]
theorem sc__law_gcd : FnScope nm__law_gcd ["_law_one", "_law_other"] (defScope s__law_gcd) := ⟨rfl, rfl, rfl, by decide +kernel, rfl, by decide +kernel, by decide +kernel⟩
abbrev s__law_share : Stmt := topS 15
abbrev nm__law_share : List Str := ["_law_top", "_law_bottom", "_law_part"]
theorem sc__law_share : FnScope nm__law_share ["_law_top", "_law_bottom"] (defScope s__law_share) := ⟨rfl, rfl, rfl, by decide +kernel, rfl, by decide +kernel, by decide +kernel⟩
abbrev s__law_plus : Stmt := topS 16
abbrev nm__law_plus : List Str := ["_law_one", "_law_other"]
theorem sc__law_plus : FnScope nm__law_plus ["_law_one", "_law_other"] (defScope s__law_plus) := ⟨rfl, rfl, rfl, by decide +kernel, rfl, by decide +kernel, by decide +kernel⟩
abbrev s__law_times : Stmt := topS 17
abbrev nm__law_times : List Str := ["_law_one", "_law_other"]
theorem sc__law_times : FnScope nm__law_times ["_law_one", "_law_other"] (defScope s__law_times) := ⟨rfl, rfl, rfl, by decide +kernel, rfl, by decide +kernel, by decide +kernel⟩
abbrev s__law_figures : Stmt := topS 18
abbrev nm__law_figures : List Str := ["_law_deck_here", "_law_kind"]
theorem sc__law_figures : FnScope nm__law_figures ["_law_deck_here"] (defScope s__law_figures) := ⟨rfl, rfl, rfl, by decide +kernel, rfl, by decide +kernel, by decide +kernel⟩
abbrev s__law_fraction : Stmt := topS 19
abbrev nm__law_fraction : List Str := ["_law_deck_here", "_law_top"]
theorem sc__law_fraction : FnScope nm__law_fraction ["_law_deck_here"] (defScope s__law_fraction) := ⟨rfl, rfl, rfl, by decide +kernel, rfl, by decide +kernel, by decide +kernel⟩
abbrev s__law_is : Stmt := topS 20
abbrev nm__law_is : List Str := ["_law_found", "_law_due_here", "_law_part"]
theorem sc__law_is : FnScope nm__law_is ["_law_found", "_law_due_here"] (defScope s__law_is) := ⟨rfl, rfl, rfl, by decide +kernel, rfl, by decide +kernel, by decide +kernel⟩
abbrev s__law_sums : Stmt := topS 21
abbrev nm__law_sums : List Str := ["_law_row", "_law_total", "_law_product", "_law_one"]
theorem sc__law_sums : FnScope nm__law_sums ["_law_row"] (defScope s__law_sums) := ⟨rfl, rfl, rfl, by decide +kernel, rfl, by decide +kernel, by decide +kernel⟩
abbrev s__law_due : Stmt := topS 22
abbrev nm__law_due : List Str := ["_law_row", "_law_total", "_law_product", "_law_one"]
theorem sc__law_due : FnScope nm__law_due ["_law_row"] (defScope s__law_due) := ⟨rfl, rfl, rfl, by decide +kernel, rfl, by decide +kernel, by decide +kernel⟩
abbrev s__law_undone : Stmt := topS 23
abbrev nm__law_undone : List Str := ["_law_row", "_law_total", "_law_product", "_law_one"]
theorem sc__law_undone : FnScope nm__law_undone ["_law_row", "_law_total", "_law_product"] (defScope s__law_undone) := ⟨rfl, rfl, rfl, by decide +kernel, rfl, by decide +kernel, by decide +kernel⟩
abbrev s_law : Stmt := topS 24
abbrev nm_law : List Str := ["_law_script", "_law_deck_here", "_law_row", "_law_due_here", "_law_total", "_law_product", "_law_back", "_law_one", "_law_other", "_law_left", "_law_right", "_law_k"]
theorem sc_law : FnScope nm_law ["_law_script"] (defScope s_law) := ⟨rfl, rfl, rfl, by decide +kernel, rfl, by decide +kernel, by decide +kernel⟩
structure Tx (K : PySem.W.Frag) (mg : Str → Option Value) where
  f_frac : Addr
  d_frac : FuncData
  F_frac : Fun K "frac" "frac" s_frac f_frac d_frac
  b_frac : Binds K d_frac ["above", "below"] []
  g_frac : mg "frac" = some (.ref f_frac)
  f_plus : Addr
  d_plus : FuncData
  F_plus : Fun K "plus" "plus" s_plus f_plus d_plus
  b_plus : Binds K d_plus ["one", "other"] []
  g_plus : mg "plus" = some (.ref f_plus)
  f_minus : Addr
  d_minus : FuncData
  F_minus : Fun K "minus" "minus" s_minus f_minus d_minus
  b_minus : Binds K d_minus ["one", "other"] []
  g_minus : mg "minus" = some (.ref f_minus)
  f_times : Addr
  d_times : FuncData
  F_times : Fun K "times" "times" s_times f_times d_times
  b_times : Binds K d_times ["one", "other"] []
  g_times : mg "times" = some (.ref f_times)
  f_over : Addr
  d_over : FuncData
  F_over : Fun K "over" "over" s_over f_over d_over
  b_over : Binds K d_over ["one", "other"] []
  g_over : mg "over" = some (.ref f_over)
  f_sign : Addr
  d_sign : FuncData
  F_sign : Fun K "sign" "sign" s_sign f_sign d_sign
  b_sign : Binds K d_sign ["one"] []
  g_sign : mg "sign" = some (.ref f_sign)
  f_is_whole : Addr
  d_is_whole : FuncData
  F_is_whole : Fun K "is_whole" "is_whole" s_is_whole f_is_whole d_is_whole
  b_is_whole : Binds K d_is_whole ["thing"] []
  g_is_whole : mg "is_whole" = some (.ref f_is_whole)
  f_is_fraction : Addr
  d_is_fraction : FuncData
  F_is_fraction : Fun K "is_fraction" "is_fraction" s_is_fraction f_is_fraction d_is_fraction
  b_is_fraction : Binds K d_is_fraction ["thing"] []
  g_is_fraction : mg "is_fraction" = some (.ref f_is_fraction)
  f__law_cell : Addr
  d__law_cell : FuncData
  F__law_cell : Fun K "_law_cell" "_law_cell" s__law_cell f__law_cell d__law_cell
  b__law_cell : Binds K d__law_cell ["_law_script", "_law_k"] []
  g__law_cell : mg "_law_cell" = some (.ref f__law_cell)
  f__law_mixed : Addr
  d__law_mixed : FuncData
  F__law_mixed : Fun K "_law_mixed" "_law_mixed" s__law_mixed f__law_mixed d__law_mixed
  b__law_mixed : Binds K d__law_mixed ["_law_script", "_law_k", "_law_many"] []
  g__law_mixed : mg "_law_mixed" = some (.ref f__law_mixed)
  f__law_deck : Addr
  d__law_deck : FuncData
  F__law_deck : Fun K "_law_deck" "_law_deck" s__law_deck f__law_deck d__law_deck
  b__law_deck : Binds K d__law_deck ["_law_script"] []
  g__law_deck : mg "_law_deck" = some (.ref f__law_deck)
  f__law_take : Addr
  d__law_take : FuncData
  F__law_take : Fun K "_law_take" "_law_take" s__law_take f__law_take d__law_take
  b__law_take : Binds K d__law_take ["_law_deck_here", "_law_many"] []
  g__law_take : mg "_law_take" = some (.ref f__law_take)
  f__law_gcd : Addr
  d__law_gcd : FuncData
  F__law_gcd : Fun K "_law_gcd" "_law_gcd" s__law_gcd f__law_gcd d__law_gcd
  b__law_gcd : Binds K d__law_gcd ["_law_one", "_law_other"] []
  g__law_gcd : mg "_law_gcd" = some (.ref f__law_gcd)
  f__law_share : Addr
  d__law_share : FuncData
  F__law_share : Fun K "_law_share" "_law_share" s__law_share f__law_share d__law_share
  b__law_share : Binds K d__law_share ["_law_top", "_law_bottom"] []
  g__law_share : mg "_law_share" = some (.ref f__law_share)
  f__law_plus : Addr
  d__law_plus : FuncData
  F__law_plus : Fun K "_law_plus" "_law_plus" s__law_plus f__law_plus d__law_plus
  b__law_plus : Binds K d__law_plus ["_law_one", "_law_other"] []
  g__law_plus : mg "_law_plus" = some (.ref f__law_plus)
  f__law_times : Addr
  d__law_times : FuncData
  F__law_times : Fun K "_law_times" "_law_times" s__law_times f__law_times d__law_times
  b__law_times : Binds K d__law_times ["_law_one", "_law_other"] []
  g__law_times : mg "_law_times" = some (.ref f__law_times)
  f__law_figures : Addr
  d__law_figures : FuncData
  F__law_figures : Fun K "_law_figures" "_law_figures" s__law_figures f__law_figures d__law_figures
  b__law_figures : Binds K d__law_figures ["_law_deck_here"] []
  g__law_figures : mg "_law_figures" = some (.ref f__law_figures)
  f__law_fraction : Addr
  d__law_fraction : FuncData
  F__law_fraction : Fun K "_law_fraction" "_law_fraction" s__law_fraction f__law_fraction d__law_fraction
  b__law_fraction : Binds K d__law_fraction ["_law_deck_here"] []
  g__law_fraction : mg "_law_fraction" = some (.ref f__law_fraction)
  f__law_is : Addr
  d__law_is : FuncData
  F__law_is : Fun K "_law_is" "_law_is" s__law_is f__law_is d__law_is
  b__law_is : Binds K d__law_is ["_law_found", "_law_due_here"] []
  g__law_is : mg "_law_is" = some (.ref f__law_is)
  f__law_sums : Addr
  d__law_sums : FuncData
  F__law_sums : Fun K "_law_sums" "_law_sums" s__law_sums f__law_sums d__law_sums
  b__law_sums : Binds K d__law_sums ["_law_row"] []
  g__law_sums : mg "_law_sums" = some (.ref f__law_sums)
  f__law_due : Addr
  d__law_due : FuncData
  F__law_due : Fun K "_law_due" "_law_due" s__law_due f__law_due d__law_due
  b__law_due : Binds K d__law_due ["_law_row"] []
  g__law_due : mg "_law_due" = some (.ref f__law_due)
  f__law_undone : Addr
  d__law_undone : FuncData
  F__law_undone : Fun K "_law_undone" "_law_undone" s__law_undone f__law_undone d__law_undone
  b__law_undone : Binds K d__law_undone ["_law_row", "_law_total", "_law_product"] []
  g__law_undone : mg "_law_undone" = some (.ref f__law_undone)
  m_abs : mg "abs" = none
  m_bool : mg "bool" = none
  m_int : mg "int" = none
  m_isinstance : mg "isinstance" = none
  m_len : mg "len" = none
  m_max : mg "max" = none
  m_min : mg "min" = none
  m_range : mg "range" = none
  m_tuple : mg "tuple" = none
  m_zip : mg "zip" = none

/-- the greatest common divisor with the sign of b -/
def sg (a b : Int) : Int := if b < 0 then -(Int.gcd a b : Int) else (Int.gcd a b : Int)
/-- the loop of frac between two turns -/
def GInv (a b x y : Int) : Prop := Int.gcd x y = Int.gcd a b ∧ ((0 < b ∧ 0 ≤ y ∧ y < x ∧ x ≤ b) ∨ (b < 0 ∧ y ≤ 0 ∧ x < y ∧ b ≤ x))
theorem gcd_step (x y : Int) : Int.gcd y (x.fmod y) = Int.gcd x y := by
  rw [Int.fmod_def, Int.mul_comm, Int.gcd_sub_mul_right_right, Int.gcd_comm]
theorem fmod_pos {x y : Int} (h : 0 < y) : 0 ≤ x.fmod y ∧ x.fmod y < y := ⟨Int.fmod_nonneg_of_pos x h, Int.fmod_lt_of_pos x h⟩
theorem fmod_neg {x y : Int} (h : y < 0) : x.fmod y ≤ 0 ∧ y < x.fmod y := by
  have h' : 0 < -y := by omega
  have e := Int.neg_fmod_neg (-x) (-y)
  rw [Int.neg_neg, Int.neg_neg] at e
  have h1 := Int.fmod_nonneg_of_pos (-x) h'
  have h2 := Int.fmod_lt_of_pos (-x) h'
  omega
theorem GInv.start {a b : Int} (hb : b ≠ 0) : GInv a b b (a.fmod b) := by
  refine ⟨gcd_step a b, ?_⟩
  by_cases hp : 0 < b
  · have := @fmod_pos a b hp
    exact .inl ⟨hp, by omega, by omega, Int.le_refl _⟩
  · have hn : b < 0 := by omega
    have := @fmod_neg a b hn
    exact .inr ⟨hn, by omega, by omega, Int.le_refl _⟩
theorem GInv.next {a b x y : Int} (h : GInv a b x y) (hy : y ≠ 0) : GInv a b y (x.fmod y) ∧ (x.fmod y).natAbs < y.natAbs := by
  obtain ⟨hg, hs⟩ := h
  rcases hs with ⟨h1, h2, h3, h4⟩ | ⟨h1, h2, h3, h4⟩
  · have f := @fmod_pos x y (by omega)
    exact ⟨⟨by rw [gcd_step, hg], .inl ⟨h1, by omega, by omega, by omega⟩⟩, by omega⟩
  · have f := @fmod_neg x y (by omega)
    exact ⟨⟨by rw [gcd_step, hg], .inr ⟨h1, by omega, by omega, by omega⟩⟩, by omega⟩
theorem GInv.fin {a b x : Int} (h : GInv a b x 0) : x = sg a b := by
  obtain ⟨hg, hs⟩ := h
  rw [Int.gcd_zero_right] at hg
  unfold sg
  rw [← hg]
  split <;> omega
theorem GInv.ne {a b x y : Int} (h : GInv a b x y) : x ≠ 0 ∧ x.natAbs ≤ b.natAbs := by
  obtain ⟨hg, hs⟩ := h
  omega
/-- the law's own: without signs -/
def HInv (a b x y : Int) : Prop := Int.gcd x y = Int.gcd a b ∧ 0 ≤ x ∧ 0 ≤ y
theorem HInv.next {a b x y : Int} (h : HInv a b x y) (hy : 0 < y) : HInv a b y (x.fmod y) ∧ (x.fmod y).natAbs < y.natAbs := by
  obtain ⟨hg, hx, _⟩ := h
  have f := @fmod_pos x y hy
  exact ⟨⟨by rw [gcd_step, hg], by omega, f.1⟩, by omega⟩
theorem HInv.fin {a b x y : Int} (h : HInv a b x y) (hy : ¬ 0 < y) : x = (Int.gcd a b : Int) := by
  obtain ⟨hg, hx, h3⟩ := h
  have e : y = 0 := by omega
  subst e
  rw [Int.gcd_zero_right] at hg
  omega
theorem gcd_abs (a b : Int) : Int.gcd (if a < 0 then -a else a) (if b < 0 then -b else b) = Int.gcd a b := by
  have h : ∀ z : Int, (if z < 0 then -z else z).natAbs = z.natAbs := fun z => by split <;> omega
  unfold Int.gcd
  rw [h, h]
theorem sg_ne {a b : Int} (hb : b ≠ 0) : sg a b ≠ 0 ∧ (sg a b).natAbs ≤ b.natAbs := by
  have h1 : 0 < Int.gcd a b := Int.gcd_pos_of_ne_zero_right a hb
  have h2 : Int.gcd a b ≤ b.natAbs := Nat.le_of_dvd (by omega) (Int.gcd_dvd_natAbs_right a b)
  unfold sg
  split <;> omega
theorem sg_num {a b : Int} (hb : b ≠ 0) : a.fdiv (sg a b) = (Rat.divInt a b).num := by
  rw [Rat.num_divInt, Int.gcd_comm]
  have d : ((Int.gcd a b : Nat) : Int) ∣ a := Int.gcd_dvd_left a b
  unfold sg
  by_cases h : b < 0
  · rw [if_pos h, Int.sign_eq_neg_one_of_neg h, Int.fdiv_eq_ediv_of_dvd (Int.neg_dvd.mpr d), Int.ediv_neg, Int.neg_mul, Int.one_mul, Int.neg_ediv_of_dvd d]
  · rw [if_neg h, Int.fdiv_eq_ediv_of_dvd d]
    rw [Int.sign_eq_one_of_pos (by omega), Int.one_mul]
theorem sg_den {a b : Int} (hb : b ≠ 0) : b.fdiv (sg a b) = ((Rat.divInt a b).den : Int) := by
  rw [Rat.den_divInt, if_neg hb, Int.gcd_comm b a]
  have d : ((Int.gcd a b : Nat) : Int) ∣ b := Int.gcd_dvd_right a b
  unfold sg
  by_cases h : b < 0
  · rw [if_pos h, Int.fdiv_eq_ediv_of_dvd (Int.neg_dvd.mpr d), Int.ediv_neg, ← Int.neg_ediv_of_dvd d, Int.natCast_ediv]
    congr 1
    omega
  · rw [if_neg h, Int.fdiv_eq_ediv_of_dvd d, Int.natCast_ediv]
    congr 1
    omega

/-! ### sizes -/
def Bt (n : Nat) (x : Int) : Prop := x.natAbs < 2 ^ n
theorem Bt.mono {m n : Nat} {x : Int} (h : Bt m x) (hn : m ≤ n) : Bt n x := Nat.lt_of_lt_of_le h (Nat.pow_le_pow_right (by decide) hn)
theorem Bt.le {n : Nat} {x y : Int} (hy : Bt n y) (h : x.natAbs ≤ y.natAbs) : Bt n x := Nat.lt_of_le_of_lt h hy
theorem Bt.mul {m n : Nat} {x y : Int} (hx : Bt m x) (hy : Bt n y) : Bt (m + n) (x * y) := by
  unfold Bt at *
  rw [Int.natAbs_mul, Nat.pow_add]
  exact Nat.mul_lt_mul'' hx hy
theorem Bt.add {n : Nat} {x y : Int} (hx : Bt n x) (hy : Bt n y) : Bt (n + 1) (x + y) := by
  unfold Bt at *
  rw [Nat.pow_succ]
  omega
theorem Bt.neg {n : Nat} {x : Int} (hx : Bt n x) : Bt n (-x) := by
  unfold Bt at *
  rw [Int.natAbs_neg]
  exact hx
theorem Bt.sub {n : Nat} {x y : Int} (hx : Bt n x) (hy : Bt n y) : Bt (n + 1) (x - y) := by
  unfold Bt at *
  rw [Nat.pow_succ]
  omega
/-- a fraction's two parts -/
def Rb (n : Nat) (q : Rat) : Prop := Bt n q.num ∧ Bt n (q.den : Int)
theorem Rb.mono {m n : Nat} {q : Rat} (h : Rb m q) (hn : m ≤ n) : Rb n q := ⟨h.1.mono hn, h.2.mono hn⟩
theorem den_ne (q : Rat) : ((q.den : Nat) : Int) ≠ 0 := by
  have := q.den_pos
  omega
theorem rb_div {n : Nat} {a b : Int} (hb : b ≠ 0) (h1 : Bt n a) (h2 : Bt n b) : Rb n (Rat.divInt a b) := by
  have hs := (sg_ne (a := a) hb).1
  have e1 : a.fdiv (sg a b) * sg a b = a := Int.fdiv_mul_cancel (by
    unfold sg
    split
    · exact Int.neg_dvd.mpr (Int.gcd_dvd_left a b)
    · exact Int.gcd_dvd_left a b)
  have e2 : b.fdiv (sg a b) * sg a b = b := Int.fdiv_mul_cancel (by
    unfold sg
    split
    · exact Int.neg_dvd.mpr (Int.gcd_dvd_right a b)
    · exact Int.gcd_dvd_right a b)
  have k : ∀ x y : Int, x * sg a b = y → x.natAbs ≤ y.natAbs := fun x y e => by
    rw [← e, Int.natAbs_mul]
    exact Nat.le_mul_of_pos_right _ (by omega)
  rw [sg_num hb] at e1
  rw [sg_den hb] at e2
  exact ⟨h1.le (k _ _ e1), h2.le (k _ _ e2)⟩
theorem rat_sum (q r : Rat) : Rat.divInt (q.num * r.den + r.num * q.den) (q.den * r.den) = q + r := by
  rw [← Rat.divInt_add_divInt _ _ (den_ne q) (den_ne r), Rat.num_divInt_den, Rat.num_divInt_den]
theorem rat_less (q r : Rat) : Rat.divInt (q.num * r.den - r.num * q.den) (q.den * r.den) = q - r := by
  rw [← Rat.divInt_sub_divInt _ _ (den_ne q) (den_ne r), Rat.num_divInt_den, Rat.num_divInt_den]
theorem rat_prod (q r : Rat) : Rat.divInt (q.num * r.num) (q.den * r.den) = q * r := by
  rw [← Rat.divInt_mul_divInt, Rat.num_divInt_den, Rat.num_divInt_den]
theorem rat_quot (q r : Rat) : Rat.divInt (q.num * r.den) (q.den * r.num) = q / r := by
  rw [Rat.div_def, Rat.inv_def, ← Rat.divInt_mul_divInt, Rat.num_divInt_den]
theorem Rb.add {m n : Nat} {q r : Rat} (hq : Rb m q) (hr : Rb n r) : Rb (m + n + 1) (q + r) := by
  rw [← rat_sum]
  exact rb_div (Int.mul_ne_zero (den_ne q) (den_ne r)) ((hq.1.mul hr.2).add ((hr.1.mul hq.2).mono (by omega))) ((hq.2.mul hr.2).mono (by omega))
theorem Rb.sub {m n : Nat} {q r : Rat} (hq : Rb m q) (hr : Rb n r) : Rb (m + n + 1) (q - r) := by
  rw [← rat_less]
  exact rb_div (Int.mul_ne_zero (den_ne q) (den_ne r)) ((hq.1.mul hr.2).sub ((hr.1.mul hq.2).mono (by omega))) ((hq.2.mul hr.2).mono (by omega))
theorem Rb.mul {m n : Nat} {q r : Rat} (hq : Rb m q) (hr : Rb n r) : Rb (m + n) (q * r) := by
  rw [← rat_prod]
  exact rb_div (Int.mul_ne_zero (den_ne q) (den_ne r)) (hq.1.mul hr.1) (hq.2.mul hr.2)
theorem num_ne {r : Rat} (h : r ≠ 0) : r.num ≠ 0 := fun e => h (Rat.num_eq_zero.mp e)
theorem Rb.div {m n : Nat} {q r : Rat} (hq : Rb m q) (hr : Rb n r) (h : r ≠ 0) : Rb (m + n) (q / r) := by
  rw [← rat_quot]
  exact rb_div (Int.mul_ne_zero (den_ne q) (num_ne h)) (hq.1.mul hr.2) (hq.2.mul hr.1)

/-! ### rules of numbers -/
section
variable {X : Cx}
theorem op_fdX : OpR X (binaryOp .FloorDiv) (rI (fun _ j => j ≠ 0 ∧ Bt 9000 j) fun i j => .int (i.fdiv j)) := opI fun _ _ _ _ _ _ _ hc q =>
  floordiv_int hc.1 q (.inl (PyProof.noPylong_of_log2 (PySem.Flt.log2_lt_of (by decide) hc.2)))
end
/-! the rules within a comprehension: the written part by name -/
section
variable {X : Cx} {K : PySem.W.Frag}
theorem call_isiC (h : X.K = K) : CallR X (.builtin "isinstance") (rIsi K) := h ▸ call_isi
theorem ix_listC (h : X.K = K) : IxR X (rIxL K) := h ▸ ix_list
theorem ix_tupC (h : X.K = K) : IxR X (rIxT K) := h ▸ ix_tup
theorem call_len_seqC (h : X.K = K) : CallR X (.builtin "len") (fun xs H Q => ∃ p ys, xs = [.ref p] ∧ (SqL K H p ys ∨ SqT K H p ys) ∧ Q (.int ys.length) H) := h ▸ call_len_seq
theorem pg_tupC {es : List Expr} {k : Nat} {t : TGs} {n : Nat} {pos : Pos} (hK : X.K = K) (hc : X.calm = true) (h : PGs X es t) (hn : (assignEach es X.env).length = n := by rfl) (hst : (assignEach es X.env).findIdx? (·.1) = none := by rfl) : PG X (.Tuple es k pos) (gTup K n t) := hK ▸ pg_tup hc h hn hst
theorem pi_listC {tg l : Expr} {tl : TE} (hK : X.K = K) (hl : PE X l tl) : PI X tg l (iList K tl) := hK ▸ pi_list hl
theorem pi_tupC {tg l : Expr} {tl : TE} (hK : X.K = K) (hl : PE X l tl) : PI X tg l (iTup K tl) := hK ▸ pi_tup hl
theorem op_eqDC (h : X.K = K) (hu : X.A.units + 64 < cLine) : OpR X (compareOp .Eq) (rEqD K) := h ▸ op_eqD hu
theorem op_neDC (h : X.K = K) (hu : X.A.units + 64 < cLine) : OpR X (compareOp .NotEq) (rNeD K) := h ▸ op_neD hu
end
theorem bt_lit {n : Nat} {x : Int} (h : x.natAbs < 2 ^ n) : Bt n x := h
theorem ite_yes {c A B : Prop} [Decidable c] (h : c) (a : A) : if c then A else B := by
  rw [if_pos h]
  exact a
theorem ite_no {c A B : Prop} [Decidable c] (h : ¬ c) (a : B) : if c then A else B := by
  rw [if_neg h]
  exact a
theorem sz_n {n : Nat} (h : n ≤ 1000) : n ≤ sizeLine := Nat.le_trans h (by decide)
/-! ### readings, one by one -/
theorem rd_v {i : Nat} {v : V} {σ : L2.St} {H : Hp} {Q : VK} (h : σ[i]? = some (some v)) (q : Q v H) : tVar i σ H Q := ⟨v, h, q⟩
theorem rd_c {v : V} {σ : L2.St} {H : Hp} {Q : VK} (q : Q v H) : tC v σ H Q := q
theorem rd_yes {σ : L2.St} {H : Hp} {Q : Bool → Hp → Prop} (q : Q true H) : tYes σ H Q := q
theorem rd_ixT {K : PySem.W.Frag} {i : Nat} {p : Addr} {xs : List V} {j : Int} {v : V} {σ : L2.St} {H : Hp} {Q : VK} (h : σ[i]? = some (some (.ref p))) (hp : H p = some (.tup xs)) (ha : atI xs j = some v) (q : Q v H) :
    tOp (rIxT K) (tVar i) (tC (.int j)) σ H Q := ⟨.ref p, h, p, xs, j, v, rfl, rfl, SqT.of hp, ha, q⟩
theorem rd_ixL {K : PySem.W.Frag} {i : Nat} {p : Addr} {xs : List V} {j : Int} {v : V} {σ : L2.St} {H : Hp} {Q : VK} (h : σ[i]? = some (some (.ref p))) (hp : H p = some (.lst xs)) (ha : atI xs j = some v) (q : Q v H) :
    tOp (rIxL K) (tVar i) (tC (.int j)) σ H Q := ⟨.ref p, h, p, xs, j, v, rfl, rfl, SqL.of hp, ha, q⟩
theorem rd_mul {m n : Nat} {i j : Int} {H : Hp} {Q : VK} (hm : Bt m i) (hn : Bt n j) (h : m + n ≤ 134217728) (q : Q (.int (i * j)) H) : rI CMulX (fun i j => .int (i * j)) (.int i) (.int j) H Q := ⟨i, j, rfl, rfl, mulx_ok hm hn h, q⟩
theorem rd_i0 {g : Int → Int → V} {i j : Int} {H : Hp} {Q : VK} (q : Q (g i j) H) : rI0 g (.int i) (.int j) H Q := ⟨i, j, rfl, rfl, q⟩
theorem rd_eqi {i j : Int} {H : Hp} {Q : VK} (q : Q (.bl (decide (i = j))) H) : rEq (.int i) (.int j) H Q := by
  refine ⟨rfl, ?_⟩
  have e : decide (V.int i = V.int j) = decide (i = j) := by
    by_cases h : i = j
    · rw [decide_eq_true h, decide_eq_true (congrArg V.int h)]
    · rw [decide_eq_false h, decide_eq_false fun z => h (V.int.inj z)]
  rw [e]
  exact q
theorem rd_asg {te : TE} {g : TG} {rest : TS} {D : Ends} {σ : L2.St} {H : Hp} (q : te σ H fun v H1 => g v σ H1 (rest D)) : tSeq (tAsg te g) rest D σ H := q
theorem rd_op {r : R2} {ta tb : TE} {σ : L2.St} {H : Hp} {Q : VK} (q : ta σ H fun x H1 => tb σ H1 fun y H2 => r x y H2 Q) : tOp r ta tb σ H Q := q
theorem rd_lst {t : TA} {σ : L2.St} {H : Hp} {Q : VK} (q : t σ H fun xs H1 => xs.length ≤ sizeLine ∧ ∀ p, H1 p = none → Q (.ref p) (upd H1 p (.lst xs))) : tLst t σ H Q := q
def forK (g : TG) (tb : TS) (D : Ends) (σ0 : L2.St) : It → Hp → Prop := fun J H1 => ∃ W : Nat → Nat → L2.St → Hp → Prop, (∃ m, W 0 m σ0 H1) ∧ ∀ i m σ H, W i m σ H →
  (J.stop i H ∧ D.nx σ H) ∨ (J.go i H ∧ ∃ N : L2.St → Hp → Prop, (∀ σ' H', N σ' H' → ∃ m', m' < m ∧ W (i + 1) m' σ' H') ∧ ∀ x H', J.yld i H x H' → g x σ H' fun σ2 H2 => tb { D with nx := N, ct := N, bk := D.nx } σ2 H2)
theorem rd_for {wi : TI} {g : TG} {tb : TS} {D : Ends} {σ : L2.St} {H : Hp} (q : wi σ H (forK g tb D σ)) : tFor wi g tb D σ H := q
theorem rd_forS {wi : TI} {g : TG} {tb rest : TS} {D : Ends} {σ : L2.St} {H : Hp} (q : wi σ H (forK g tb { D with nx := rest D } σ)) : tSeq (tFor wi g tb) rest D σ H := q
theorem rd_iL {K : PySem.W.Frag} {tl : TE} {σ : L2.St} {H : Hp} {R : It → Hp → Prop} (q : tl σ H fun x H1 => ∃ a, x = .ref a ∧ (∃ xs, SqL K H1 a xs) ∧ R (Itl K a) H1) : iList K tl σ H R := q
theorem rd_cons {te : TE} {ta : TA} {σ : L2.St} {H : Hp} {Q : List V → Hp → Prop} (q : te σ H fun x H1 => ta σ H1 fun xs H2 => Q (x :: xs) H2) : tCons te ta σ H Q := q
theorem rd_ret {te : TE} {D : Ends} {σ : L2.St} {H : Hp} (q : te σ H D.rt) : tRet te D σ H := q
theorem rd_tup {t : TA} {σ : L2.St} {H : Hp} {Q : VK} (q : t σ H fun xs H1 => xs.length ≤ sizeLine ∧ ∀ p, H1 p = none → Q (.ref p) (upd H1 p (.tup xs))) : tTup t σ H Q := q
/-! ### heaps -/
theorem same_upd {H : Hp} {p : Addr} {o : HO} (h : H p = none) : Same H (upd H p o) := fun b x e => by
  rw [upd_ne (ne_of_none e h)]
  exact e
theorem same_tup {K : PySem.W.Frag} {H H' : Hp} {a : Addr} {xs : List V} (e : Same H H') (h : SqT K H a xs) : SqT K H' a xs := by
  rcases h with (h | ⟨o, h⟩) | h
  · exact .inl (.inl (e _ _ h))
  · exact .inl (.inr ⟨o, e _ _ h⟩)
  · exact .inr h
/-- a fraction as it stands -/
def FrV (H : Hp) (v : V) (q : Rat) : Prop := ∃ p, v = .ref p ∧ H p = some (.tup [.int q.num, .int (q.den : Int)])
theorem FrV.same {H H' : Hp} {v : V} {q : Rat} (e : Same H H') (h : FrV H v q) : FrV H' v q := by
  obtain ⟨p, rfl, h⟩ := h
  exact ⟨p, rfl, e _ _ h⟩
theorem frv_new {H : Hp} {p : Addr} {a b : Int} {q : Rat} (e1 : a = q.num) (e2 : b = (q.den : Int)) : FrV (upd H p (.tup [.int a, .int b])) (.ref p) q := by
  subst e1 e2
  exact ⟨p, rfl, upd_same⟩
theorem FrV.dp {K : PySem.W.Frag} {H : Hp} {v : V} {q : Rat} (h : FrV H v q) : Dp K H v (.tuple [.int q.num, .int (q.den : Int)]) := by
  obtain ⟨p, rfl, h⟩ := h
  exact Dp.tup (SqT.of h) (DpAll.cons (Dp.int _) (DpAll.cons (Dp.int _) DpAll.nil))
theorem nd_ne {a b : V} (e : (!decide (a = b)) = true) : a ≠ b := fun z => by
  rw [decide_eq_true z] at e
  cases e
theorem nd_eq {a b : V} (e : ¬ (!decide (a = b)) = true) : a = b := Decidable.byContradiction fun z => e (by
  rw [decide_eq_false z]
  rfl)
theorem eqv2 (x y a b : Int) : PyData.eqv (.tuple [.int x, .int y]) (.tuple [.int a, .int b]) = (decide (x = a) && decide (y = b)) := by
  simp [PyData.eqv, PyData.eqvAll, Bool.beq_eq_decide_eq]
/-! ### the deck: all else stands -/
def Keep (d l : Addr) (H H' : Hp) : Prop := ∀ a o, H a = some o → a ≠ d → a ≠ l → H' a = some o
theorem Keep.refl {d l : Addr} {H : Hp} : Keep d l H H := fun _ _ h _ _ => h
theorem Keep.trans {d l : Addr} {H H1 H2 : Hp} (a : Keep d l H H1) (b : Keep d l H1 H2) : Keep d l H H2 := fun x o h h1 h2 => b x o (a x o h h1 h2) h1 h2
theorem same_keep {d l : Addr} {H H' : Hp} (e : Same H H') : Keep d l H H' := fun a o h _ _ => e a o h
theorem keep_d {d l : Addr} {H : Hp} {o : HO} : Keep d l H (upd H d o) := fun a u h h1 _ => by
  rw [upd_ne h1]
  exact h
theorem keep_l {d l : Addr} {H : Hp} {o : HO} : Keep d l H (upd H l o) := fun a u h _ h2 => by
  rw [upd_ne h2]
  exact h
theorem keep_new {d l p : Addr} {H : Hp} {o : HO} (h : H p = none) : Keep d l H (upd H p o) := same_keep (same_upd h)
theorem Keep.sq {K : PySem.W.Frag} {d l s : Addr} {H H' : Hp} {xs : List V} (k : Keep d l H H') (h1 : s ≠ d) (h2 : s ≠ l) (h : SqL K H s xs) : SqL K H' s xs := by
  rcases h with (h | ⟨o, h⟩) | h
  · exact .inl (.inl (k _ _ h h1 h2))
  · exact .inl (.inr ⟨o, k _ _ h h1 h2⟩)
  · exact .inr h
/-- the script: of the written part, or tracked beside the deck -/
def Sct (K : PySem.W.Frag) (H : Hp) (d l s : Addr) (xs : List V) : Prop := (∀ H', SqL K H' s xs) ∨ (SqL K H s xs ∧ s ≠ d ∧ s ≠ l)
theorem Sct.sq {K : PySem.W.Frag} {H : Hp} {d l s : Addr} {xs : List V} (h : Sct K H d l s xs) : SqL K H s xs := by
  rcases h with h | h
  · exact h H
  · exact h.1
theorem Sct.keep {K : PySem.W.Frag} {H H' : Hp} {d l s : Addr} {xs : List V} (h : Sct K H d l s xs) (k : Keep d l H H') : Sct K H' d l s xs := by
  rcases h with h | ⟨h, h1, h2⟩
  · exact .inl h
  · exact .inr ⟨k.sq h1 h2 h, h1, h2⟩
theorem sct_of {K : PySem.W.Frag} {H H' : Hp} {d l s : Addr} {xs : List V} (h : SqL K H s xs) (e : Same H H') (nd : H d = none) (nl : H l = none) : Sct K H' d l s xs := by
  rcases h with (h | ⟨o, h⟩) | h
  · exact .inr ⟨.inl (.inl (e _ _ h)), ne_of_none h nd, ne_of_none h nl⟩
  · exact .inr ⟨.inl (.inr ⟨o, e _ _ h⟩), ne_of_none h nd, ne_of_none h nl⟩
  · exact .inl fun _ => .inr h
/-- the deck at d: the script at s, the numbers at l -/
def Dk (K : PySem.W.Frag) (H : Hp) (d l s : Addr) (ns : List Int) (c : Nat) : Prop :=
  ∃ (xs : List Int) (i k : Nat), H d = some (.lst [.ref s, .ref l, .int (i : Int), .int (k : Int)]) ∧ H l = some (.lst (xs.map V.int)) ∧ k ≤ c ∧ Sct K H d l s (ns.map V.int)
theorem Dk.mono {K : PySem.W.Frag} {H : Hp} {d l s : Addr} {ns : List Int} {c c' : Nat} (h : Dk K H d l s ns c) (hc : c ≤ c') : Dk K H d l s ns c' := by
  obtain ⟨xs, i, k, h1, h2, h3, h4⟩ := h
  exact ⟨xs, i, k, h1, h2, Nat.le_trans h3 hc, h4⟩
theorem Dk.same {K : PySem.W.Frag} {H H' : Hp} {d l s : Addr} {ns : List Int} {c : Nat} (h : Dk K H d l s ns c) (e : Same H H') : Dk K H' d l s ns c := by
  obtain ⟨xs, i, k, h1, h2, h3, h4⟩ := h
  exact ⟨xs, i, k, e _ _ h1, e _ _ h2, h3, h4.keep (same_keep e)⟩
theorem Dk.new {K : PySem.W.Frag} {H : Hp} {d l s p : Addr} {o : HO} {ns : List Int} {c : Nat} (h : Dk K H d l s ns c) (hp : H p = none) : Dk K (upd H p o) d l s ns c := h.same (same_upd hp)
/-- what is no list is not the deck's -/
theorem Keep.at {K : PySem.W.Frag} {H H' : Hp} {d l s a : Addr} {ns : List Int} {c : Nat} {o : HO} (k : Keep d l H H') (h : Dk K H d l s ns c) (e : H a = some o) (no : ∀ xs, o ≠ .lst xs) : H' a = some o := by
  obtain ⟨xs, i, n, h1, h2, _⟩ := h
  exact k a o e (ne_of e h1 (no _)) (ne_of e h2 (no _))
theorem Keep.tup {K : PySem.W.Frag} {H H' : Hp} {d l s a : Addr} {ns : List Int} {c : Nat} {xs : List V} (k : Keep d l H H') (h : Dk K H d l s ns c) (e : H a = some (.tup xs)) : H' a = some (.tup xs) :=
  k.at h e fun _ z => by cases z
theorem Keep.fr {K : PySem.W.Frag} {H H' : Hp} {d l s : Addr} {ns : List Int} {c : Nat} {v : V} {q : Rat} (k : Keep d l H H') (h : Dk K H d l s ns c) (f : FrV H v q) : FrV H' v q := by
  obtain ⟨p, rfl, e⟩ := f
  exact ⟨p, rfl, k.tup h e⟩
theorem Dk.ne {K : PySem.W.Frag} {H : Hp} {d l s : Addr} {ns : List Int} {c : Nat} (h : Dk K H d l s ns c) : d ≠ l := by
  obtain ⟨xs, i, n, h1, h2, _⟩ := h
  refine ne_of h1 h2 fun z => ?_
  cases xs with
  | nil => cases z
  | cons x r => cases z

/-! ### rows of fractions -/
def AF (H : Hp) : List V → List Rat → Prop
  | [], [] => True
  | v :: vs, q :: qs => FrV H v q ∧ AF H vs qs
  | _, _ => False
theorem AF.imp {H H' : Hp} (k : ∀ v q, FrV H v q → FrV H' v q) : ∀ {vs : List V} {qs : List Rat}, AF H vs qs → AF H' vs qs
  | [], [], _ => trivial
  | v :: vs, q :: qs, h => ⟨k v q h.1, AF.imp k h.2⟩
  | [], _ :: _, h => h.elim
  | _ :: _, [], h => h.elim
theorem AF.len {H : Hp} : ∀ {vs : List V} {qs : List Rat}, AF H vs qs → vs.length = qs.length
  | [], [], _ => rfl
  | v :: vs, q :: qs, h => congrArg (· + 1) (AF.len h.2)
  | [], _ :: _, h => h.elim
  | _ :: _, [], h => h.elim
theorem AF.get {H : Hp} : ∀ {vs : List V} {qs : List Rat} {i : Nat} {v : V}, AF H vs qs → vs[i]? = some v → ∃ q, qs[i]? = some q ∧ FrV H v q
  | [], [], _, _, _, e => by simp at e
  | w :: vs, q :: qs, 0, v, h, e => ⟨q, rfl, by
      have e : w = v := Option.some.inj e
      exact e ▸ h.1⟩
  | w :: vs, q :: qs, i + 1, v, h, e => AF.get (i := i) h.2 e
  | [], _ :: _, _, _, h, _ => h.elim
  | _ :: _, [], _, _, h, _ => h.elim
theorem AF.snoc {H : Hp} {v : V} {q : Rat} (hv : FrV H v q) : ∀ {vs : List V} {qs : List Rat}, AF H vs qs → AF H (vs ++ [v]) (qs ++ [q])
  | [], [], _ => ⟨hv, trivial⟩
  | w :: vs, r :: qs, h => ⟨h.1, AF.snoc hv h.2⟩
  | [], _ :: _, h => h.elim
  | _ :: _, [], h => h.elim
theorem AF.same {H H' : Hp} (e : Same H H') {vs : List V} {qs : List Rat} (h : AF H vs qs) : AF H' vs qs := AF.imp (fun _ _ f => f.same e) h
theorem frv_lst {H : Hp} {D : Addr} {acc acc' : List V} {v : V} {q : Rat} (hD : H D = some (.lst acc)) (h : FrV H v q) : FrV (upd H D (.lst acc')) v q := by
  obtain ⟨p, rfl, h⟩ := h
  refine ⟨p, rfl, ?_⟩
  rw [upd_ne (ne_of h hD fun z => by cases z)]
  exact h
theorem AF.lst {H : Hp} {D : Addr} {acc acc' : List V} {vs : List V} {qs : List Rat} (hD : H D = some (.lst acc)) (h : AF H vs qs) : AF (upd H D (.lst acc')) vs qs := AF.imp (fun _ _ f => frv_lst hD f) h
/-- a tuple of fractions: a point -/
def PtV (H : Hp) (v : V) (qs : List Rat) : Prop := ∃ p xs, v = .ref p ∧ H p = some (.tup xs) ∧ AF H xs qs
theorem PtV.same {H H' : Hp} {v : V} {qs : List Rat} (e : Same H H') (h : PtV H v qs) : PtV H' v qs := by
  obtain ⟨p, xs, rfl, h, a⟩ := h
  exact ⟨p, xs, rfl, e _ _ h, a.same e⟩
theorem Keep.pt {K : PySem.W.Frag} {H H' : Hp} {d l s : Addr} {ns : List Int} {c : Nat} {v : V} {qs : List Rat} (k : Keep d l H H') (h : Dk K H d l s ns c) (f : PtV H v qs) : PtV H' v qs := by
  obtain ⟨p, xs, rfl, e, a⟩ := f
  exact ⟨p, xs, rfl, k.tup h e, AF.imp (fun _ _ f => k.fr h f) a⟩
def Rs (n : Nat) (qs : List Rat) : Prop := ∀ q ∈ qs, Rb n q
theorem rs_get {n : Nat} {qs : List Rat} {i : Nat} {q : Rat} (h : Rs n qs) (e : qs[i]? = some q) : Rb n q := h q (List.mem_of_getElem? e)
def rsum : List Rat → Rat
  | [] => 0
  | q :: r => q + rsum r
theorem rsum_snoc (q : Rat) : ∀ l : List Rat, rsum (l ++ [q]) = rsum l + q
  | [] => by
    show q + 0 = 0 + q
    grind
  | r :: l => by
    show r + rsum (l ++ [q]) = r + rsum l + q
    rw [rsum_snoc q l]
    grind
def prods (qs rs : List Rat) : List Rat := List.zipWith (fun q r => q * r) qs rs
theorem take_succ {α : Type} {l : List α} {i : Nat} {x : α} (h : l[i]? = some x) : l.take (i + 1) = l.take i ++ [x] := by
  rw [List.take_add_one, h]
  rfl
theorem prods_at {qs rs : List Rat} {i : Nat} {q r : Rat} (h1 : qs[i]? = some q) (h2 : rs[i]? = some r) : (prods qs rs)[i]? = some (q * r) := by
  unfold prods
  rw [List.getElem?_zipWith, h1, h2]
theorem dot_step {qs rs : List Rat} {i : Nat} {q r : Rat} (h1 : qs[i]? = some q) (h2 : rs[i]? = some r) : rsum ((prods qs rs).take (i + 1)) = rsum ((prods qs rs).take i) + q * r := by
  rw [take_succ (prods_at h1 h2), rsum_snoc]
/-- one turn of dot over whole numbers -/
theorem dot_turn {a b : Int} {q r S : Rat} (hb : b ≠ 0) (e : Rat.divInt a b = S) :
    Rat.divInt (a * ((q.den : Int) * (r.den : Int)) + q.num * r.num * b) (b * ((q.den : Int) * (r.den : Int))) = S + q * r := by
  rw [← e, ← rat_prod q r, Rat.divInt_add_divInt _ _ hb (Int.mul_ne_zero (den_ne q) (den_ne r))]
theorem walk_zipT {K : PySem.W.Frag} {a b : Addr} {xs ys : List V} {n : Nat} (hn : n = min xs.length ys.length) : Walk (RZ.ItzT K a b) n (fun H => SqT K H a xs ∧ SqT K H b ys) (YPair (fun i => xs[i]?) (fun i => ys[i]?)) := by
  subst hn
  refine ⟨fun i _ hi q => ?_, fun _ q => ⟨xs, ys, q.1, q.2, by omega⟩, fun i H v H' _ q y => ?_⟩
  · have h1 : i < xs.length := by omega
    have h2 : i < ys.length := by omega
    exact ⟨xs, ys, xs[i], ys[i], q.1, q.2, by simp [h1], by simp [h2]⟩
  · obtain ⟨T, x, z, h1, h2, h3, h4, h5⟩ := y
    exact ⟨T, x, z, h1, h2, h3, h4 xs q.1, h5 ys q.2⟩

section
variable {P : Program} {w : World} {K : PySem.W.Frag} {mg : Str → Option Value} {base : Heap}
def sp_frac : Sp := fun vs H Q _ => ∃ a b : Int, vs = [.int a, .int b] ∧ b ≠ 0 ∧ Bt 9000 b ∧ ∀ H' v, Same H H' → FrV H' v (Rat.divInt a b) → Q v H'
theorem ok_frac (T : Tx K mg) : FnOk P w K mg base CX0 1 T.f_frac T.d_frac ["above", "below"] sp_frac := by
  refine T.F_frac.ok sc_frac (fun vs H Q E h => ?_) (fun cdv A outer s H vs Q E hr h => ?_)
  · obtain ⟨a, b, rfl, _⟩ := h
    rfl
  · obtain ⟨a, b, rfl, hb, hB, q⟩ := h
    refine ⟨_, (pss_cons (ps_par (i := 2) (j := 3) (by rfl) sc_frac.nd rfl rfl (by decide) rfl rfl (pa_cons (pv 1) (pa_cons (pe_op op_modN (pv 0) (pv 1)) pa_nil)) (by rfl))
      (pss_cons (ps_while PassesOwn.never (pt_truth (pv 3) (by intro _; rfl)) (pss_one (ps_par (i := 2) (j := 3) (by rfl) sc_frac.nd rfl rfl (by decide) rfl rfl (pa_cons (pv 3) (pa_cons (pe_op op_modN (pv 2) (pv 3)) pa_nil)) (by rfl))))
      (pss_one (ps_ret (pe_tup (pa_cons (pe_op op_fdX (pv 0) (pv 2)) (pa_cons (pe_op op_fdX (pv 1) (pv 2)) pa_nil))))))), ?_⟩
    refine ⟨.int b, rfl, .int a, rfl, .int b, rfl, a, b, rfl, rfl, hb, _, _, rfl, ?_⟩
    refine ⟨fun m σ H' => H' = H ∧ ∃ x y : Int, σ = [some (.int a), some (.int b), some (.int x), some (.int y)] ∧ m = y.natAbs ∧ GInv a b x y, ⟨_, rfl, b, a.fmod b, rfl, rfl, GInv.start hb⟩, fun m σ H2 hW => ?_⟩
    obtain ⟨rfl, x, y, rfl, rfl, inv⟩ := hW
    refine ⟨.int y, rfl, y != 0, rfl, ?_⟩
    by_cases hy : y = 0
    · subst hy
      refine iteF ?_
      have ex := inv.fin
      obtain ⟨n1, n2⟩ := inv.ne
      have bx : Bt 9000 x := hB.le n2
      refine ⟨.int a, rfl, .int x, rfl, a, x, rfl, rfl, ⟨n1, bx⟩, .int b, rfl, .int x, rfl, b, x, rfl, rfl, ⟨n1, bx⟩, sz_n (by decide : 2 ≤ 1000), fun p hp => q _ _ (same_upd hp) ?_⟩
      subst ex
      exact frv_new (sg_num hb) (sg_den hb)
    · have hyb : (y != 0) = true := by simpa using hy
      refine ite_yes hyb ?_
      have nx := inv.next hy
      refine ⟨fun σ' H' => ∃ m', m' < y.natAbs ∧ H' = H2 ∧ ∃ x y : Int, σ' = [some (.int a), some (.int b), some (.int x), some (.int y)] ∧ m' = y.natAbs ∧ GInv a b x y, fun _ _ h => h, ?_⟩
      exact ⟨.int y, rfl, .int x, rfl, .int y, rfl, x, y, rfl, rfl, hy, _, _, rfl, _, nx.2, rfl, y, x.fmod y, rfl, rfl, nx.1⟩
theorem b2 {m n : Nat} (hm : m ≤ 4000) (hn : n ≤ 4000) : m + n ≤ 134217728 := by omega
def sp_two (f : Rat → Rat → Rat) (ok : Rat → Prop) : Sp := fun vs H Q _ => ∃ v1 v2 q r, vs = [v1, v2] ∧ FrV H v1 q ∧ FrV H v2 r ∧ Rb 4000 q ∧ Rb 4000 r ∧ ok r ∧ ∀ H' v, Same H H' → FrV H' v (f q r) → Q v H'
/-- the same, of fractions of any sizes that a division bears -/
def sp_twoG (f : Rat → Rat → Rat) (ok : Rat → Prop) : Sp := fun vs H Q _ => ∃ v1 v2 q r m n, vs = [v1, v2] ∧ FrV H v1 q ∧ FrV H v2 r ∧ Rb m q ∧ Rb n r ∧ m + n ≤ 9000 ∧ ok r ∧ ∀ H' v, Same H H' → FrV H' v (f q r) → Q v H'
theorem two_lenG {f : Rat → Rat → Rat} {ok : Rat → Prop} {vs : List V} {H : Hp} {Q : VK} {E : XK} (h : sp_twoG f ok vs H Q E) : vs.length = 2 := by
  obtain ⟨_, _, _, _, _, _, rfl, _⟩ := h
  rfl
theorem two_G {f : Rat → Rat → Rat} {ok : Rat → Prop} (vs : List V) (H : Hp) (Q : VK) (E : XK) (h : sp_two f ok vs H Q E) : sp_twoG f ok vs H Q E := by
  obtain ⟨v1, v2, q, r, e, f1, f2, b1, b2, k⟩ := h
  exact ⟨v1, v2, q, r, 4000, 4000, e, f1, f2, b1, b2, by decide, k⟩
theorem two_len {f : Rat → Rat → Rat} {ok : Rat → Prop} {vs : List V} {H : Hp} {Q : VK} {E : XK} (h : sp_two f ok vs H Q E) : vs.length = 2 := by
  obtain ⟨_, _, _, _, rfl, _⟩ := h
  rfl
end

section
variable {P : Program} {w : World} {K : PySem.W.Frag} {mg : Str → Option Value} {base : Heap}
theorem okG_plus (T : Tx K mg) : FnOk P w K mg base CX0 2 T.f_plus T.d_plus ["one", "other"] (sp_twoG (fun q r => q + r) (fun _ => True)) := by
  have G_frac := ok_frac (P := P) (w := w) (base := base) T
  refine T.F_plus.ok sc_plus (fun vs H Q E h => two_lenG h) (fun cdv A outer s H vs Q E hr h => ?_)
  obtain ⟨_, _, q, r, m, n, rfl, ⟨p1, rfl, h1⟩, ⟨p2, rfl, h2⟩, ⟨bq, bq'⟩, ⟨br, br'⟩, hmn, ok, k⟩ := h
  refine ⟨_, (pss_one (ps_ret (pe_call G_frac (hr.mono (by first | decide | omega)) (by rfl) T.g_frac T.F_frac.kp T.b_frac .nil pass0 (pa_cons (pe_op op_add (pe_op op_mulX (pe_ix ix_tup (pv 0) pe_int (fun _ _ => rfl)) (pe_ix ix_tup (pv 1) pe_int (fun _ _ => rfl))) (pe_op op_mulX (pe_ix ix_tup (pv 1) pe_int (fun _ _ => rfl)) (pe_ix ix_tup (pv 0) pe_int (fun _ _ => rfl)))) (pa_cons (pe_op op_mulX (pe_ix ix_tup (pv 0) pe_int (fun _ _ => rfl)) (pe_ix ix_tup (pv 1) pe_int (fun _ _ => rfl))) pa_nil))))), ?_⟩
  refine rd_ixT rfl h1 rfl (rd_ixT rfl h2 rfl (rd_mul bq br' (by omega) (rd_ixT rfl h2 rfl (rd_ixT rfl h1 rfl (rd_mul br bq' (by omega) (rd_i0 (rd_ixT rfl h1 rfl (rd_ixT rfl h2 rfl (rd_mul bq' br' (by omega) ?_)))))))))
  exact ⟨_, _, rfl, Int.mul_ne_zero (den_ne q) (den_ne r), (bq'.mul br').mono (by omega), fun H' v s f => k H' v s (by rw [rat_sum] at f; exact f)⟩
theorem ok_plus (T : Tx K mg) : FnOk P w K mg base CX0 2 T.f_plus T.d_plus ["one", "other"] (sp_two (fun q r => q + r) (fun _ => True)) := (okG_plus T).imp two_G
theorem okG_minus (T : Tx K mg) : FnOk P w K mg base CX0 2 T.f_minus T.d_minus ["one", "other"] (sp_twoG (fun q r => q - r) (fun _ => True)) := by
  have G_frac := ok_frac (P := P) (w := w) (base := base) T
  refine T.F_minus.ok sc_minus (fun vs H Q E h => two_lenG h) (fun cdv A outer s H vs Q E hr h => ?_)
  obtain ⟨_, _, q, r, m, n, rfl, ⟨p1, rfl, h1⟩, ⟨p2, rfl, h2⟩, ⟨bq, bq'⟩, ⟨br, br'⟩, hmn, ok, k⟩ := h
  refine ⟨_, (pss_one (ps_ret (pe_call G_frac (hr.mono (by first | decide | omega)) (by rfl) T.g_frac T.F_frac.kp T.b_frac .nil pass0 (pa_cons (pe_op op_sub (pe_op op_mulX (pe_ix ix_tup (pv 0) pe_int (fun _ _ => rfl)) (pe_ix ix_tup (pv 1) pe_int (fun _ _ => rfl))) (pe_op op_mulX (pe_ix ix_tup (pv 1) pe_int (fun _ _ => rfl)) (pe_ix ix_tup (pv 0) pe_int (fun _ _ => rfl)))) (pa_cons (pe_op op_mulX (pe_ix ix_tup (pv 0) pe_int (fun _ _ => rfl)) (pe_ix ix_tup (pv 1) pe_int (fun _ _ => rfl))) pa_nil))))), ?_⟩
  refine rd_ixT rfl h1 rfl (rd_ixT rfl h2 rfl (rd_mul bq br' (by omega) (rd_ixT rfl h2 rfl (rd_ixT rfl h1 rfl (rd_mul br bq' (by omega) (rd_i0 (rd_ixT rfl h1 rfl (rd_ixT rfl h2 rfl (rd_mul bq' br' (by omega) ?_)))))))))
  exact ⟨_, _, rfl, Int.mul_ne_zero (den_ne q) (den_ne r), (bq'.mul br').mono (by omega), fun H' v s f => k H' v s (by rw [rat_less] at f; exact f)⟩
theorem ok_minus (T : Tx K mg) : FnOk P w K mg base CX0 2 T.f_minus T.d_minus ["one", "other"] (sp_two (fun q r => q - r) (fun _ => True)) := (okG_minus T).imp two_G
theorem okG_times (T : Tx K mg) : FnOk P w K mg base CX0 2 T.f_times T.d_times ["one", "other"] (sp_twoG (fun q r => q * r) (fun _ => True)) := by
  have G_frac := ok_frac (P := P) (w := w) (base := base) T
  refine T.F_times.ok sc_times (fun vs H Q E h => two_lenG h) (fun cdv A outer s H vs Q E hr h => ?_)
  obtain ⟨_, _, q, r, m, n, rfl, ⟨p1, rfl, h1⟩, ⟨p2, rfl, h2⟩, ⟨bq, bq'⟩, ⟨br, br'⟩, hmn, ok, k⟩ := h
  refine ⟨_, (pss_one (ps_ret (pe_call G_frac (hr.mono (by first | decide | omega)) (by rfl) T.g_frac T.F_frac.kp T.b_frac .nil pass0 (pa_cons (pe_op op_mulX (pe_ix ix_tup (pv 0) pe_int (fun _ _ => rfl)) (pe_ix ix_tup (pv 1) pe_int (fun _ _ => rfl))) (pa_cons (pe_op op_mulX (pe_ix ix_tup (pv 0) pe_int (fun _ _ => rfl)) (pe_ix ix_tup (pv 1) pe_int (fun _ _ => rfl))) pa_nil))))), ?_⟩
  refine rd_ixT rfl h1 rfl (rd_ixT rfl h2 rfl (rd_mul bq br (by omega) (rd_ixT rfl h1 rfl (rd_ixT rfl h2 rfl (rd_mul bq' br' (by omega) ?_)))))
  exact ⟨_, _, rfl, Int.mul_ne_zero (den_ne q) (den_ne r), (bq'.mul br').mono (by omega), fun H' v s f => k H' v s (by rw [rat_prod] at f; exact f)⟩
theorem ok_times (T : Tx K mg) : FnOk P w K mg base CX0 2 T.f_times T.d_times ["one", "other"] (sp_two (fun q r => q * r) (fun _ => True)) := (okG_times T).imp two_G
theorem okG_over (T : Tx K mg) : FnOk P w K mg base CX0 2 T.f_over T.d_over ["one", "other"] (sp_twoG (fun q r => q / r) (fun r => r ≠ 0)) := by
  have G_frac := ok_frac (P := P) (w := w) (base := base) T
  refine T.F_over.ok sc_over (fun vs H Q E h => two_lenG h) (fun cdv A outer s H vs Q E hr h => ?_)
  obtain ⟨_, _, q, r, m, n, rfl, ⟨p1, rfl, h1⟩, ⟨p2, rfl, h2⟩, ⟨bq, bq'⟩, ⟨br, br'⟩, hmn, ok, k⟩ := h
  refine ⟨_, (pss_one (ps_ret (pe_call G_frac (hr.mono (by first | decide | omega)) (by rfl) T.g_frac T.F_frac.kp T.b_frac .nil pass0 (pa_cons (pe_op op_mulX (pe_ix ix_tup (pv 0) pe_int (fun _ _ => rfl)) (pe_ix ix_tup (pv 1) pe_int (fun _ _ => rfl))) (pa_cons (pe_op op_mulX (pe_ix ix_tup (pv 0) pe_int (fun _ _ => rfl)) (pe_ix ix_tup (pv 1) pe_int (fun _ _ => rfl))) pa_nil))))), ?_⟩
  refine rd_ixT rfl h1 rfl (rd_ixT rfl h2 rfl (rd_mul bq br' (by omega) (rd_ixT rfl h1 rfl (rd_ixT rfl h2 rfl (rd_mul bq' br (by omega) ?_)))))
  exact ⟨_, _, rfl, Int.mul_ne_zero (den_ne q) (num_ne ok), (bq'.mul br).mono (by omega), fun H' v s f => k H' v s (by rw [rat_quot] at f; exact f)⟩
theorem ok_over (T : Tx K mg) : FnOk P w K mg base CX0 2 T.f_over T.d_over ["one", "other"] (sp_two (fun q r => q / r) (fun r => r ≠ 0)) := (okG_over T).imp two_G
def sp_sign : Sp := fun vs H Q _ => ∃ v q, vs = [v] ∧ FrV H v q ∧ Q (.int q.num.sign) H
theorem ok_sign (T : Tx K mg) : FnOk P w K mg base CX0 1 T.f_sign T.d_sign ["one"] sp_sign := by
  refine T.F_sign.ok sc_sign (fun vs H Q E h => ?_) (fun cdv A outer s H vs Q E hr h => ?_)
  · obtain ⟨_, _, rfl, _⟩ := h
    rfl
  · obtain ⟨_, q, rfl, ⟨p, rfl, hp⟩, k⟩ := h
    refine ⟨_, (pss_cons (ps_if (pt_cmpR op_lt (pe_ix ix_tup (pv 0) pe_int (fun _ _ => rfl)) pe_int (nomark _)) (pss_one (ps_ret (pe_un un_neg pe_int))) pss_nil)
      (pss_cons (ps_if (pt_cmpR op_gt (pe_ix ix_tup (pv 0) pe_int (fun _ _ => rfl)) pe_int (nomark _)) (pss_one (ps_ret pe_int)) pss_nil)
      (pss_one (ps_ret pe_int)))), ?_⟩
    refine rd_ixT rfl hp rfl (rd_c (rd_i0 ⟨_, rfl, ite2 (fun e => ?_) (fun e => ?_)⟩))
    · have e := of_decide_eq_true e
      rw [Int.sign_eq_neg_one_of_neg e] at k
      exact ⟨1, rfl, k⟩
    · refine rd_ixT rfl hp rfl (rd_c (rd_i0 ⟨_, rfl, ite2 (fun f => ?_) (fun f => ?_)⟩))
      · have f := of_decide_eq_true f
        rw [Int.sign_eq_one_of_pos f] at k
        exact k
      · have e : ¬ q.num < 0 := fun z => e (decide_eq_true z)
        have f : ¬ 0 < q.num := fun z => f (decide_eq_true z)
        have z : q.num = 0 := by omega
        rw [z] at k
        exact k
end

section
variable {P : Program} {w : World} {K : PySem.W.Frag} {mg : Str → Option Value} {base : Heap}
/-! ### gcd, share -/
def sp_gcd : Sp := fun vs H Q _ => ∃ a b : Int, vs = [.int a, .int b] ∧ Q (.int (Int.gcd a b : Int)) H
theorem ok__law_gcd (T : Tx K mg) : FnOk P w K mg base CX0 1 T.f__law_gcd T.d__law_gcd ["_law_one", "_law_other"] sp_gcd := by
  refine T.F__law_gcd.ok sc__law_gcd (fun vs H Q E h => ?_) (fun cdv A outer s H vs Q E hr h => ?_)
  · obtain ⟨a, b, rfl, _⟩ := h
    rfl
  · obtain ⟨a, b, rfl, q⟩ := h
    refine ⟨_, (pss_cons (ps_set (i := 0) sc__law_gcd.nd rfl (Or.inl rfl) (pe_callB call_abs (by rfl) T.m_abs (by decide +kernel) (pa_cons (pv 0) pa_nil)))
      (pss_cons (ps_set (i := 1) sc__law_gcd.nd rfl (Or.inl rfl) (pe_callB call_abs (by rfl) T.m_abs (by decide +kernel) (pa_cons (pv 1) pa_nil)))
      (pss_cons (ps_while PassesOwn.never (pt_cmpR op_gt (pv 1) pe_int (nomark _)) (pss_one (ps_par (i := 0) (j := 1) (by rfl) sc__law_gcd.nd rfl rfl (by decide) rfl rfl (pa_cons (pv 1) (pa_cons (pe_op op_modN (pv 0) (pv 1)) pa_nil)) (by rfl))))
      (pss_one (ps_ret (pv 0)))))), ?_⟩
    refine ⟨.int a, rfl, a, rfl, .int b, rfl, b, rfl, ?_⟩
    refine ⟨fun m σ H' => H' = H ∧ ∃ x y : Int, σ = [some (.int x), some (.int y)] ∧ m = y.natAbs ∧ HInv a b x y, ⟨_, rfl, _, _, rfl, rfl, gcd_abs a b, by split <;> omega, by split <;> omega⟩, fun m σ H2 hW => ?_⟩
    obtain ⟨rfl, x, y, rfl, rfl, inv⟩ := hW
    refine ⟨.int y, rfl, y, 0, rfl, rfl, _, rfl, ite2 (fun e => ?_) (fun e => ?_)⟩
    · have hy := of_decide_eq_true e
      have nx := inv.next hy
      refine ⟨fun σ' H' => ∃ m', m' < y.natAbs ∧ H' = H2 ∧ ∃ x y : Int, σ' = [some (.int x), some (.int y)] ∧ m' = y.natAbs ∧ HInv a b x y, fun _ _ h => h, ?_⟩
      exact ⟨.int y, rfl, .int x, rfl, .int y, rfl, x, y, rfl, rfl, by omega, _, _, rfl, _, nx.2, rfl, y, x.fmod y, rfl, rfl, nx.1⟩
    · have hy : ¬ 0 < y := fun z => e (decide_eq_true z)
      have ex := inv.fin hy
      subst ex
      exact ⟨_, rfl, q⟩
theorem ok__law_share (T : Tx K mg) : FnOk P w K mg base CX0 2 T.f__law_share T.d__law_share ["_law_top", "_law_bottom"] sp_frac := by
  have G__law_gcd := ok__law_gcd (P := P) (w := w) (base := base) T
  refine T.F__law_share.ok sc__law_share (fun vs H Q E h => ?_) (fun cdv A outer s H vs Q E hr h => ?_)
  · obtain ⟨a, b, rfl, _⟩ := h
    rfl
  · obtain ⟨a, b, rfl, hb, hB, q⟩ := h
    refine ⟨_, (pss_cons (ps_set (i := 2) sc__law_share.nd rfl (Or.inl rfl) (pe_call G__law_gcd (hr.mono (by first | decide | omega)) (by rfl) T.g__law_gcd T.F__law_gcd.kp T.b__law_gcd .nil pass0 (pa_cons (pv 0) (pa_cons (pv 1) pa_nil))))
      (pss_cons (ps_if (pt_cmpR op_lt (pv 1) pe_int (nomark _)) (pss_one (ps_set (i := 2) sc__law_share.nd rfl (Or.inl rfl) (pe_un un_neg (pv 2)))) pss_nil)
      (pss_one (ps_ret (pe_tup (pa_cons (pe_op op_fdX (pv 0) (pv 2)) (pa_cons (pe_op op_fdX (pv 1) (pv 2)) pa_nil))))))), ?_⟩
    have sn := sg_ne (a := a) hb
    have bx : Bt 9000 (sg a b) := hB.le sn.2
    have fin : ∀ x : Int, x = sg a b → tRet (tTup (tCons (tOp (rI (fun _ j => j ≠ 0 ∧ Bt 9000 j) fun i j => V.int (i.fdiv j)) (tVar 0) (tVar 2)) (tCons (tOp (rI (fun _ j => j ≠ 0 ∧ Bt 9000 j) fun i j => V.int (i.fdiv j)) (tVar 1) (tVar 2)) tNil))) { nx := fun _ H' => Q .non H', rt := Q } [some (.int a), some (.int b), some (.int x)] H := fun x ex => by
      subst ex
      exact ⟨.int a, rfl, .int (sg a b), rfl, a, sg a b, rfl, rfl, ⟨sn.1, bx⟩, .int b, rfl, .int (sg a b), rfl, b, sg a b, rfl, rfl, ⟨sn.1, bx⟩, sz_n (by decide : 2 ≤ 1000), fun p hp => q _ _ (same_upd hp) (frv_new (sg_num hb) (sg_den hb))⟩
    refine ⟨.int a, rfl, .int b, rfl, a, b, rfl, ?_⟩
    refine ⟨.int b, rfl, b, 0, rfl, rfl, _, rfl, ite2 (fun e => ?_) (fun e => ?_)⟩
    · have e := of_decide_eq_true e
      refine ⟨_, rfl, _, rfl, fin _ ?_⟩
      unfold sg
      rw [if_pos e]
    · have e : ¬ b < 0 := fun z => e (decide_eq_true z)
      refine fin _ ?_
      unfold sg
      rw [if_neg e]
theorem bt_small {x : Int} (h : x.natAbs < 2 ^ 100) : Bt 9000 x := Nat.lt_of_lt_of_le h (Nat.pow_le_pow_right (by decide) (by decide))
theorem bt13 : Bt 9000 13 := bt_small (by decide)
/-! ### draws -/
def sp_cell (K : PySem.W.Frag) : Sp := fun vs H Q _ => ∃ (s : Addr) (ns : List Int) (k : Nat), vs = [.ref s, .int (k : Int)] ∧ SqL K H s (ns.map V.int) ∧ k < 2 ^ 41 ∧ ∀ v, 0 ≤ v → Q (.int v) H
theorem ok__law_cell (T : Tx K mg) : FnOk P w K mg base CX0 1 T.f__law_cell T.d__law_cell ["_law_script", "_law_k"] (sp_cell K) := by
  refine T.F__law_cell.ok sc__law_cell (fun vs H Q E h => ?_) (fun cdv A outer s H vs Q E hr h => ?_)
  · obtain ⟨a, b, c, rfl, _⟩ := h
    rfl
  · obtain ⟨s, ns, k, rfl, hs, hk, q⟩ := h
    refine ⟨_, (pss_cons (ps_if (pt_cmpR op_eq (pe_callB call_len_seq (by rfl) T.m_len (by decide +kernel) (pa_cons (pv 0) pa_nil)) pe_int (nomark _)) (pss_one (ps_ret (pe_op op_add (pe_op op_mulX pe_int (pv 1)) pe_int))) pss_nil)
      (pss_one (ps_ret (pe_callB call_abs (by rfl) T.m_abs (by decide +kernel) (pa_cons (pe_ix ix_list (pv 0) (pe_op op_modN (pv 1) (pe_callB call_len_seq (by rfl) T.m_len (by decide +kernel) (pa_cons (pv 0) pa_nil))) (fun _ _ => rfl)) pa_nil))))), ?_⟩
    refine ⟨.ref s, rfl, s, _, rfl, .inl hs, rd_c (rd_eqi ⟨_, rfl, ite2 (fun e => ?_) (fun e => ?_)⟩)⟩
    · exact ⟨.int (k : Int), rfl, 7, (k : Int), rfl, rfl, mulx_ok (a := 3) (b := 41) (by decide) (by omega) (by decide), _, 3, rfl, rfl, q _ (by omega)⟩
    · have e : ¬ (((ns.map V.int).length : Int) = 0) := fun z => e (decide_eq_true z)
      rw [List.length_map] at e
      have f := @fmod_pos (k : Int) (ns.length : Int) (by omega)
      have hj : ((k : Int).fmod (ns.length : Int)).toNat < ns.length := by omega
      refine ⟨.ref s, rfl, .int (k : Int), rfl, .ref s, rfl, s, _, rfl, .inl hs, (k : Int), ((ns.map V.int).length : Int), rfl, rfl, (by rw [List.length_map]; exact e), s, _, _, .int ns[((k : Int).fmod (ns.length : Int)).toNat], rfl, rfl, hs, ?_, _, rfl, q _ (by split <;> omega)⟩
      refine at_of (j := ((k : Int).fmod (ns.length : Int)).toNat) ?_ ?_
      · show (k : Int).fmod ((ns.map V.int).length : Int) = _
        rw [List.length_map]
        omega
      · rw [List.getElem?_map, List.getElem?_eq_getElem hj]
        rfl
def sp_mixed (K : PySem.W.Frag) : Sp := fun vs H Q _ => ∃ (s : Addr) (ns : List Int) (k : Nat) (m : Int), vs = [.ref s, .int (k : Int), .int m] ∧ SqL K H s (ns.map V.int) ∧ k < 2 ^ 41 ∧ 0 < m ∧ ∀ v, 0 ≤ v → v < m → Q (.int v) H
theorem ok__law_mixed (T : Tx K mg) : FnOk P w K mg base CX0 2 T.f__law_mixed T.d__law_mixed ["_law_script", "_law_k", "_law_many"] (sp_mixed K) := by
  have G__law_cell := ok__law_cell (P := P) (w := w) (base := base) T
  refine T.F__law_mixed.ok sc__law_mixed (fun vs H Q E h => ?_) (fun cdv A outer s H vs Q E hr h => ?_)
  · obtain ⟨a, b, c, d, rfl, _⟩ := h
    rfl
  · obtain ⟨s, ns, k, m, rfl, hs, hk, hm, q⟩ := h
    refine ⟨_, (pss_cons (ps_set (i := 3) sc__law_mixed.nd rfl (Or.inl rfl) (pe_op op_modN (pe_op op_pow (pe_op op_add (pe_op op_mulX (pe_op op_add (pe_op op_modN (pe_call G__law_cell (hr.mono (by first | decide | omega)) (by rfl) T.g__law_cell T.F__law_cell.kp T.b__law_cell .nil pass0 (pa_cons (pv 0) (pa_cons (pv 1) pa_nil))) pe_int) pe_int) (pe_op op_add (pv 1) pe_int)) (pe_op op_mulX pe_int (pv 1))) pe_int) pe_int))
      (pss_one (ps_ret (pe_op op_modN (pe_op op_fdX (pv 3) pe_int) (pv 2))))), ?_⟩
    refine ⟨.ref s, rfl, .int (k : Int), rfl, s, ns, k, rfl, hs, hk, fun v hv => ?_⟩
    have f := @fmod_pos v 1000003 (by decide)
    refine ⟨v, 1000003, rfl, rfl, (show (1000003 : Int) ≠ 0 by decide), _, 5, rfl, rfl, .int (k : Int), rfl, (k : Int), 2, rfl, rfl, _, _, rfl, rfl, mulx_ok (a := 20) (b := 42) (by omega) (by omega) (by decide), .int (k : Int), rfl, 7919, (k : Int), rfl, rfl, mulx_ok (a := 13) (b := 41) (by decide) (by omega) (by decide), _, _, rfl, rfl, ?_⟩
    have hu : ((v.fmod 1000003 + 5) * ((k : Int) + 2) + 7919 * (k : Int)).natAbs < 2 ^ 64 := by
      have h1 : (v.fmod 1000003 + 5) * ((k : Int) + 2) ≤ 1000008 * ((k : Int) + 2) := Int.mul_le_mul_of_nonneg_right (by omega) (by omega)
      have h0 : 0 ≤ (v.fmod 1000003 + 5) * ((k : Int) + 2) := Int.mul_nonneg (by omega) (by omega)
      omega
    refine ⟨_, 5, rfl, rfl, ⟨by decide, by decide, hu⟩, _, 2147483647, rfl, rfl, (show (2147483647 : Int) ≠ 0 by decide), ?_⟩
    refine ⟨_, rfl, _, 13, rfl, rfl, ⟨by decide, bt13⟩, .int m, rfl, _, m, rfl, rfl, (show m ≠ 0 by omega), ?_⟩
    have g := @fmod_pos (((((v.fmod 1000003 + 5) * ((k : Int) + 2) + 7919 * (k : Int)) ^ (5 : Int).toNat).fmod 2147483647).fdiv 13) m hm
    exact q _ g.1 g.2
end

section
variable {P : Program} {w : World} {K : PySem.W.Frag} {mg : Str → Option Value} {base : Heap}
def sp_take (K : PySem.W.Frag) : Sp := fun vs H Q _ => ∃ (d l s : Addr) (ns : List Int) (c : Nat) (m : Int), vs = [.ref d, .int m] ∧ Dk K H d l s ns c ∧ c < 2 ^ 40 ∧ 0 < m ∧ m < 2 ^ 60 ∧
  ∀ H' v, Keep d l H H' → Dk K H' d l s ns (c + 1) → 0 ≤ v → v < m → Q (.int v) H'
theorem ok__law_take (T : Tx K mg) : FnOk P w K mg base CX0 3 T.f__law_take T.d__law_take ["_law_deck_here", "_law_many"] (sp_take K) := by
  have G__law_mixed := ok__law_mixed (P := P) (w := w) (base := base) T
  refine T.F__law_take.ok sc__law_take (fun vs H Q E h => ?_) (fun cdv A outer s H vs Q E hr h => ?_)
  · obtain ⟨_, _, _, _, _, _, rfl, _⟩ := h
    rfl
  · obtain ⟨d, l, s, ns, c, m, rfl, hD, hc, hm, hm2, q⟩ := h
    refine ⟨_, (pss_cons (ps_while PassesOwn.never (pt_cmpR op_lt (pe_ix ix_list (pv 0) pe_int (fun _ _ => rfl)) (pe_callB call_len_seq (by rfl) T.m_len (by decide +kernel) (pa_cons (pe_ix ix_list (pv 0) pe_int (fun _ _ => rfl)) pa_nil)) (nomark _)) (pss_cons (ps_set (i := 2) sc__law_take.nd rfl (Or.inl rfl) (pe_ix ix_list (pe_ix ix_list (pv 0) pe_int (fun _ _ => rfl)) (pe_ix ix_list (pv 0) pe_int (fun _ _ => rfl)) (fun _ _ => rfl)))
      (pss_cons (ps_if (pt_cmpR op_gt (pv 2) pe_int (nomark _)) (pss_cons (ps_asg (pe_op op_fdX (pv 2) (pv 1)) (pg_sub (pe_ix ix_list (pv 0) pe_int (fun _ _ => rfl)) (pe_ix ix_list (pv 0) pe_int (fun _ _ => rfl)) set_list))
      (pss_one (ps_ret (pe_op op_modN (pv 2) (pv 1))))) pss_nil)
      (pss_one (ps_asg (pe_op op_add (pe_ix ix_list (pv 0) pe_int (fun _ _ => rfl)) pe_int) (pg_sub (pv 0) pe_int set_list))))))
      (pss_cons (ps_asg (pe_op op_add (pe_ix ix_list (pv 0) pe_int (fun _ _ => rfl)) pe_int) (pg_sub (pv 0) pe_int set_list))
      (pss_one (ps_ret (pe_call G__law_mixed (hr.mono (by first | decide | omega)) (by rfl) T.g__law_mixed T.F__law_mixed.kp T.b__law_mixed .nil pass0 (pa_cons (pe_ix ix_list (pv 0) pe_int (fun _ _ => rfl)) (pa_cons (pe_ix ix_list (pv 0) pe_int (fun _ _ => rfl)) (pa_cons (pv 1) pa_nil)))))))), ?_⟩
    have hdl := hD.ne
    obtain ⟨xs, i, k, hd, hl, hk, hs⟩ := hD
    refine ⟨fun n σ H1 => ∃ (xs : List Int) (i k : Nat) (y : Option V), σ = [some (.ref d), some (.int m), y] ∧ Keep d l H H1 ∧ H1 d = some (.lst [.ref s, .ref l, .int (i : Int), .int (k : Int)]) ∧ H1 l = some (.lst (xs.map V.int)) ∧ k ≤ c ∧ Sct K H1 d l s (ns.map V.int) ∧ n = xs.length - i,
      ⟨_, xs, i, k, none, rfl, Keep.refl, hd, hl, hk, hs, rfl⟩, fun n σ H1 hW => ?_⟩
    obtain ⟨xs, i, k, y, rfl, kp, hd, hl, hk, hs, rfl⟩ := hW
    refine ⟨.ref d, rfl, d, _, 2, .int (i : Int), rfl, rfl, SqL.of hd, rfl, .ref d, rfl, d, _, 1, .ref l, rfl, rfl, SqL.of hd, rfl, l, _, rfl, .inl (SqL.of hl), (i : Int), ((xs.map V.int).length : Int), rfl, rfl, _, rfl, ite2 (fun e => ?_) (fun e => ?_)⟩
    · have hi := of_decide_eq_true e
      rw [List.length_map] at hi
      have hi : i < xs.length := by omega
      refine ⟨fun σ' H' => ∃ m', m' < xs.length - i ∧ ∃ (xs : List Int) (i k : Nat) (y : Option V), σ' = [some (.ref d), some (.int m), y] ∧ Keep d l H H' ∧ H' d = some (.lst [.ref s, .ref l, .int (i : Int), .int (k : Int)]) ∧ H' l = some (.lst (xs.map V.int)) ∧ k ≤ c ∧ Sct K H' d l s (ns.map V.int) ∧ m' = xs.length - i,
        fun _ _ h => h, ?_⟩
      have ga : (xs.map V.int)[i]? = some (.int xs[i]) := by
        rw [List.getElem?_map, List.getElem?_eq_getElem hi]
        rfl
      refine ⟨.ref d, rfl, d, _, 1, .ref l, rfl, rfl, SqL.of hd, rfl, .ref d, rfl, d, _, 2, .int (i : Int), rfl, rfl, SqL.of hd, rfl, l, _, (i : Int), .int xs[i], rfl, rfl, SqL.of hl, atI_nat ga, ?_⟩
      refine ⟨.int xs[i], rfl, xs[i], 0, rfl, rfl, _, rfl, ite2 (fun e => ?_) (fun e => ?_)⟩
      · have f := @fmod_pos xs[i] m hm
        have ix : ixN (xs.map V.int).length (i : Int) = some i := by
          unfold ixN
          rw [List.length_map, if_pos (by omega), if_pos (by omega)]
          rfl
        refine ⟨.int xs[i], rfl, .int m, rfl, xs[i], m, rfl, rfl, ⟨(show m ≠ 0 by omega), bt_small (by omega)⟩, .ref d, rfl, d, _, 1, .ref l, rfl, rfl, SqL.of hd, rfl, .ref d, rfl, d, _, 2, .int (i : Int), rfl, rfl, SqL.of hd, rfl, l, _, (i : Int), i, rfl, rfl, hl, ix, ?_⟩
        refine ⟨.int xs[i], rfl, .int m, rfl, xs[i], m, rfl, rfl, (show m ≠ 0 by omega), q _ _ (kp.trans keep_l) ?_ f.1 f.2⟩
        refine ⟨xs.set i (xs[i].fdiv m), i, k, ?_, ?_, by omega, hs.keep keep_l⟩
        · rw [upd_ne hdl]
          exact hd
        · rw [upd_same, List.map_set]
      · refine ⟨.ref d, rfl, d, _, 2, .int (i : Int), rfl, rfl, SqL.of hd, rfl, (i : Int), 1, rfl, rfl, .ref d, rfl, d, _, 2, 2, rfl, rfl, hd, rfl, ?_⟩
        refine ⟨_, ?_, xs, i + 1, k, some (.int xs[i]), rfl, kp.trans keep_d, upd_same, ?_, hk, hs.keep keep_d, rfl⟩
        · omega
        · rw [upd_ne hdl.symm]
          exact hl
    · refine ⟨.ref d, rfl, d, _, 3, .int (k : Int), rfl, rfl, SqL.of hd, rfl, (k : Int), 1, rfl, rfl, .ref d, rfl, d, _, 3, 3, rfl, rfl, hd, rfl, ?_⟩
      have hd' : upd H1 d (.lst [.ref s, .ref l, .int (i : Int), .int ((k + 1 : Nat) : Int)]) d = some (.lst [.ref s, .ref l, .int (i : Int), .int ((k + 1 : Nat) : Int)]) := upd_same
      have hs' : Sct K (upd H1 d (.lst [.ref s, .ref l, .int (i : Int), .int ((k + 1 : Nat) : Int)])) d l s (ns.map V.int) := hs.keep keep_d
      refine ⟨.ref d, rfl, d, _, 0, .ref s, rfl, rfl, SqL.of hd', rfl, .ref d, rfl, d, _, 3, .int ((k + 1 : Nat) : Int), rfl, rfl, SqL.of hd', rfl, .int m, rfl, s, ns, k + 1, m, rfl, hs'.sq, by omega, hm, fun v v0 v1 => ?_⟩
      refine q _ v (kp.trans keep_d) ⟨xs, i, k + 1, hd', ?_, by omega, hs'⟩ v0 v1
      rw [upd_ne hdl.symm]
      exact hl
def sp_deck (K : PySem.W.Frag) : Sp := fun vs H Q _ => ∃ (s : Addr) (ns : List Int), vs = [.ref s] ∧ SqL K H s (ns.map V.int) ∧ ns.length ≤ 63 ∧
  ∀ H' d l, Same H H' → Dk K H' d l s ns 0 → H d = none → H l = none → Q (.ref d) H'
theorem ok__law_deck (T : Tx K mg) : FnOk P w K mg base CX0 1 T.f__law_deck T.d__law_deck ["_law_script"] (sp_deck K) := by
  refine T.F__law_deck.ok sc__law_deck (fun vs H Q E h => ?_) (fun cdv A outer s H vs Q E hr h => ?_)
  · obtain ⟨_, _, rfl, _⟩ := h
    rfl
  · obtain ⟨s, ns, rfl, hs, hn, q⟩ := h
    refine ⟨_, (pss_one (ps_ret (pe_lst (pa_cons (pv 0) (pa_cons (pe_lc (own := [("_law_part", 1)]) (g := gName 1) (by rfl) sc__law_deck.nd (pi_list (pv 0)) (blkOk_by (own := [("_law_part", 1)]) (N := nm__law_deck) (sc := defScope s__law_deck) (by decide +kernel)) (fun _ _ _ _ _ => (pg_name (i := 1) sc__law_deck.nd rfl (Or.inl rfl))) (fun _ _ _ _ _ => (pts_one (pt_cmpR op_ge (pe_callB call_abs (by rfl) T.m_abs (by decide +kernel) (pa_cons (pv 1) pa_nil)) (pe_op op_pow pe_int pe_int) (nomark _)))) (fun _ _ _ _ _ => (pe_callB call_abs (by rfl) T.m_abs (by decide +kernel) (pa_cons (pv 1) pa_nil)))) (pa_cons pe_int (pa_cons pe_int pa_nil))))))), ?_⟩
    refine ⟨.ref s, rfl, .ref s, rfl, s, rfl, ⟨_, hs⟩, fun D nD => ?_⟩
    refine lc_list (K := K) (a := s) (xs := ns.map V.int) (fun i H' => Same H H' ∧ ∃ xs : List Int, H' D = some (.lst (xs.map V.int)) ∧ xs.length ≤ i) ⟨same_upd nD, [], upd_same, Nat.le_refl _⟩ (fun i H' _ h => h.1.seq hs) (fun i x H' hx h => ?_) (fun H' h => ?_)
    · obtain ⟨hS, xs, hx', hxl⟩ := h
      have hil : i < (ns.map V.int).length := (List.getElem?_eq_some_iff.mp hx).1
      rw [List.length_map] at hil
      obtain ⟨z, rfl⟩ : ∃ z, x = .int z := by
        rw [List.getElem?_map, List.getElem?_eq_getElem hil] at hx
        exact ⟨_, (Option.some.inj hx).symm⟩
      refine ⟨rfl, .int z, rfl, z, rfl, 10, 18, rfl, rfl, ⟨by decide, by decide, by decide⟩, _, _, rfl, rfl, _, rfl, ite2 (fun e => ?_) (fun e => ?_)⟩
      · refine ⟨.int z, rfl, z, rfl, _, hx', small1000 (by rw [List.length_map]; omega), fun a o e => ?_, xs ++ [if z < 0 then -z else z], ?_, ?_⟩
        · rw [upd_ne (ne_of_none e nD)]
          exact hS a o e
        · rw [upd_same, List.map_append]
          rfl
        · rw [List.length_append]
          exact Nat.add_le_add_right hxl 1
      · exact ⟨hS, xs, hx', by omega⟩
    · obtain ⟨hS, xs, hx', hxl⟩ := h
      refine ⟨sz_n (by decide : 4 ≤ 1000), fun d nd => ?_⟩
      have nd0 : H d = none := hS.free nd
      refine q _ d D (hS.trans (same_upd nd)) ⟨xs, 0, 0, upd_same, ?_, Nat.le_refl _, sct_of hs (hS.trans (same_upd nd)) nd0 nD⟩ nd0 nD
      rw [upd_ne (ne_of_none hx' nd)]
      exact hx'
def sp_figures (K : PySem.W.Frag) : Sp := fun vs H Q _ => ∃ (d l s : Addr) (ns : List Int) (c : Nat), vs = [.ref d] ∧ Dk K H d l s ns c ∧ c + 4 < 2 ^ 40 ∧
  ∀ H' v, Keep d l H H' → Dk K H' d l s ns (c + 3) → 0 ≤ v → v ≤ 999999 → Q (.int v) H'
theorem ok__law_figures (T : Tx K mg) : FnOk P w K mg base CX0 4 T.f__law_figures T.d__law_figures ["_law_deck_here"] (sp_figures K) := by
  have G__law_take := ok__law_take (P := P) (w := w) (base := base) T
  refine T.F__law_figures.ok sc__law_figures (fun vs H Q E h => ?_) (fun cdv A outer s H vs Q E hr h => ?_)
  · obtain ⟨_, _, _, _, _, rfl, _⟩ := h
    rfl
  · obtain ⟨d, l, s, ns, c, rfl, hD, hc, q⟩ := h
    refine ⟨_, (pss_cons (ps_set (i := 1) sc__law_figures.nd rfl (Or.inl rfl) (pe_call G__law_take (hr.mono (by first | decide | omega)) (by rfl) T.g__law_take T.F__law_take.kp T.b__law_take .nil pass0 (pa_cons (pv 0) (pa_cons pe_int pa_nil))))
      (pss_cons (ps_if (pt_cmpR op_lt (pv 1) pe_int (nomark _)) (pss_one (ps_ret (pe_call G__law_take (hr.mono (by first | decide | omega)) (by rfl) T.g__law_take T.F__law_take.kp T.b__law_take .nil pass0 (pa_cons (pv 0) (pa_cons pe_int pa_nil))))) pss_nil)
      (pss_cons (ps_if (pt_cmpR op_eq (pv 1) pe_int (nomark _)) (pss_one (ps_ret (pe_op op_add (pe_op op_mulX (pe_call G__law_take (hr.mono (by first | decide | omega)) (by rfl) T.g__law_take T.F__law_take.kp T.b__law_take .nil pass0 (pa_cons (pv 0) (pa_cons pe_int pa_nil))) pe_int) (pe_call G__law_take (hr.mono (by first | decide | omega)) (by rfl) T.g__law_take T.F__law_take.kp T.b__law_take .nil pass0 (pa_cons (pv 0) (pa_cons pe_int pa_nil)))))) pss_nil)
      (pss_one (ps_ret (pe_op op_sub pe_int (pe_call G__law_take (hr.mono (by first | decide | omega)) (by rfl) T.g__law_take T.F__law_take.kp T.b__law_take .nil pass0 (pa_cons (pv 0) (pa_cons pe_int pa_nil))))))))), ?_⟩
    refine ⟨.ref d, rfl, d, l, s, ns, c, 4, rfl, hD, by omega, by decide, by decide, fun H1 k k1 D1 _ _ => ?_⟩
    refine ⟨.int k, rfl, k, 2, rfl, rfl, _, rfl, ite2 (fun _ => ?_) (fun _ => ?_)⟩
    · exact ⟨.ref d, rfl, d, l, s, ns, c + 1, 12, rfl, D1, by omega, by decide, by decide, fun H2 v k2 D2 v0 v1 => q H2 v (k1.trans k2) (D2.mono (by omega)) v0 (by omega)⟩
    · refine ⟨.int k, rfl, rfl, _, rfl, ite2 (fun _ => ?_) (fun _ => ?_)⟩
      · refine ⟨.ref d, rfl, d, l, s, ns, c + 1, 1000, rfl, D1, by omega, by decide, by decide, fun H2 v k2 D2 v0 v1 => ?_⟩
        refine ⟨v, 1000, rfl, rfl, mulx_ok (a := 10) (b := 10) (by omega) (by decide) (by decide), ?_⟩
        exact ⟨.ref d, rfl, d, l, s, ns, c + 2, 1000, rfl, D2, by omega, by decide, by decide, fun H3 u k3 D3 u0 u1 => ⟨_, _, rfl, rfl, q H3 _ (k1.trans (k2.trans k3)) (D3.mono (by omega)) (by omega) (by omega)⟩⟩
      · exact ⟨.ref d, rfl, d, l, s, ns, c + 1, 3, rfl, D1, by omega, by decide, by decide, fun H2 v k2 D2 v0 v1 => ⟨_, _, rfl, rfl, q H2 _ (k1.trans k2) (D2.mono (by omega)) (by omega) (by omega)⟩⟩
end

section
variable {P : Program} {w : World} {K : PySem.W.Frag} {mg : Str → Option Value} {base : Heap}
def sp_fraction (K : PySem.W.Frag) : Sp := fun vs H Q _ => ∃ (d l s : Addr) (ns : List Int) (c : Nat), vs = [.ref d] ∧ Dk K H d l s ns c ∧ c + 10 < 2 ^ 40 ∧
  ∀ H' v f, Keep d l H H' → Dk K H' d l s ns (c + 8) → FrV H' v f → Rb 20 f → Q v H'
theorem ok__law_fraction (T : Tx K mg) : FnOk P w K mg base CX0 5 T.f__law_fraction T.d__law_fraction ["_law_deck_here"] (sp_fraction K) := by
  have G__law_figures := ok__law_figures (P := P) (w := w) (base := base) T
  have G__law_share := ok__law_share (P := P) (w := w) (base := base) T
  have G__law_take := ok__law_take (P := P) (w := w) (base := base) T
  refine T.F__law_fraction.ok sc__law_fraction (fun vs H Q E h => ?_) (fun cdv A outer s H vs Q E hr h => ?_)
  · obtain ⟨_, _, _, _, _, rfl, _⟩ := h
    rfl
  · obtain ⟨d, l, s, ns, c, rfl, hD, hc, q⟩ := h
    refine ⟨_, (pss_cons (ps_set (i := 1) sc__law_fraction.nd rfl (Or.inl rfl) (pe_op op_mulX (pe_call G__law_figures (hr.mono (by first | decide | omega)) (by rfl) T.g__law_figures T.F__law_figures.kp T.b__law_figures .nil pass0 (pa_cons (pv 0) pa_nil)) (pe_op op_sub pe_int (pe_op op_mulX pe_int (pe_call G__law_take (hr.mono (by first | decide | omega)) (by rfl) T.g__law_take T.F__law_take.kp T.b__law_take .nil pass0 (pa_cons (pv 0) (pa_cons pe_int pa_nil)))))))
      (pss_one (ps_ret (pe_call G__law_share (hr.mono (by first | decide | omega)) (by rfl) T.g__law_share T.F__law_share.kp T.b__law_share .nil pass0 (pa_cons (pv 1) (pa_cons (pe_callB (call_max2 rfl) (by rfl) T.m_max (by decide +kernel) (pa_cons pe_int (pa_cons (pe_ix ix_list (pe_lst (pa_cons pe_int (pa_cons (pe_call G__law_figures (hr.mono (by first | decide | omega)) (by rfl) T.g__law_figures T.F__law_figures.kp T.b__law_figures .nil pass0 (pa_cons (pv 0) pa_nil)) pa_nil))) (pe_call G__law_take (hr.mono (by first | decide | omega)) (by rfl) T.g__law_take T.F__law_take.kp T.b__law_take .nil pass0 (pa_cons (pv 0) (pa_cons pe_int pa_nil))) (fun _ _ => rfl)) pa_nil))) pa_nil)))))), ?_⟩
    refine ⟨.ref d, rfl, d, l, s, ns, c, rfl, hD, by omega, fun H1 v k1 D1 v0 v1 => ?_⟩
    refine ⟨.ref d, rfl, d, l, s, ns, c + 3, 2, rfl, D1, by omega, by decide, by decide, fun H2 b k2 D2 b0 b1 => ?_⟩
    refine ⟨2, b, rfl, rfl, mulx_ok (a := 2) (b := 2) (by decide) (by omega) (by decide), 1, _, rfl, rfl, v, _, rfl, rfl, mulx_ok (a := 20) (b := 3) (by omega) (by omega) (by decide), ?_⟩
    have bt : Bt 20 (v * (1 - 2 * b)) := by
      have hb : b = 0 ∨ b = 1 := by omega
      unfold Bt
      rcases hb with rfl | rfl <;> omega
    refine ⟨_, rfl, .ref d, rfl, d, l, s, ns, c + 4, rfl, D2, by omega, fun H3 u k3 D3 u0 u1 => ?_⟩
    refine ⟨sz_n (by decide : 2 ≤ 1000), fun p hp => ?_⟩
    have pd : p ≠ d := fun z => by
      obtain ⟨_, _, _, h, _⟩ := D3
      rw [z, h] at hp
      cases hp
    have pl : p ≠ l := fun z => by
      obtain ⟨_, _, _, _, h, _⟩ := D3
      rw [z, h] at hp
      cases hp
    refine ⟨.ref d, rfl, d, l, s, ns, c + 7, 2, rfl, D3.new hp, by omega, by decide, by decide, fun H4 e k4 D4 e0 e1 => ?_⟩
    have hp4 := k4 p _ upd_same pd pl
    have he : e = 0 ∨ e = 1 := by omega
    obtain ⟨x, hx, x0, x1⟩ : ∃ x : Int, atI [V.int 1, V.int u] e = some (.int x) ∧ 0 ≤ x ∧ x ≤ 999999 := by
      rcases he with rfl | rfl
      · exact ⟨1, rfl, by decide, by decide⟩
      · exact ⟨u, rfl, u0, u1⟩
    refine ⟨p, _, e, .int x, rfl, rfl, SqL.of hp4, hx, 1, x, rfl, ?_⟩
    have hm : 1 ≤ (if x > 1 then x else 1) ∧ (if x > 1 then x else 1) ≤ 999999 := by split <;> omega
    generalize (if x > 1 then x else 1) = bot at hm
    refine ⟨v * (1 - 2 * b), bot, rfl, (show bot ≠ 0 by omega), bt_small (by omega), fun H5 v5 s5 f5 => ?_⟩
    exact q H5 v5 _ (k1.trans (k2.trans (k3.trans ((keep_new hp).trans (k4.trans (same_keep s5)))))) ((D4.same s5).mono (by omega)) f5 (rb_div (by omega) bt (by show bot.natAbs < 2 ^ 20; omega))
end

section
variable {P : Program} {w : World} {K : PySem.W.Frag} {mg : Str → Option Value} {base : Heap}
def sp_is : Sp := fun vs H Q _ => ∃ v1 v2 q, vs = [v1, v2] ∧ FrV H v1 q ∧ FrV H v2 q ∧ ∀ H', Same H H' → Q (.bl true) H'
theorem ok__law_is (T : Tx K mg) : FnOk P w K mg base CX0 1 T.f__law_is T.d__law_is ["_law_found", "_law_due_here"] sp_is := by
  refine T.F__law_is.ok sc__law_is (fun vs H Q E h => ?_) (fun cdv A outer s H vs Q E hr h => ?_)
  · obtain ⟨_, _, _, rfl, _⟩ := h
    rfl
  · obtain ⟨_, _, f, rfl, ⟨p1, rfl, h1⟩, ⟨p2, rfl, h2⟩, q⟩ := h
    refine ⟨_, (pss_cons (ps_if (PW.pt (pw_or (pt_not (pt_val (pe_callB call_isi (by rfl) T.m_isinstance (by decide +kernel) (pa_cons (pv 0) (pa_cons (pe_bltn (v := .ty "tuple") (by rfl) T.m_tuple (by decide +kernel) rfl) pa_nil))))) (pw_or (pt_cmpR op_ne (pe_callB call_len_seq (by rfl) T.m_len (by decide +kernel) (pa_cons (pv 0) pa_nil)) pe_int (nomark _)) (pw_or1 (pt_cmpR (op_neD hr.units) (pv 0) (pv 1) (nomark _)))))) (pss_one (ps_ret pe_bl)) pss_nil)
      (pss_one (ps_ret (pe_cmpR (op_eqD hr.units) (pe_lc (own := [("_law_part", 2)]) (g := gName 2) (by rfl) sc__law_is.nd (pi_tup (pv 0)) (blkOk_by (own := [("_law_part", 2)]) (N := nm__law_is) (sc := defScope s__law_is) (by decide +kernel)) (fun _ _ _ _ _ => (pg_name (i := 2) sc__law_is.nd rfl (Or.inl rfl))) (fun _ _ _ _ _ => (pts_one (PW.pt (pw_or (pt_not (pt_val (pe_callB (call_isiC (K := K) rfl) (by rfl) T.m_isinstance (by decide +kernel) (pa_cons (pv 2) (pa_cons (pe_bltn (v := .ty "int") (by rfl) T.m_int (by decide +kernel) rfl) pa_nil))))) (pw_or1 (pt_val (pe_callB (call_isiC (K := K) rfl) (by rfl) T.m_isinstance (by decide +kernel) (pa_cons (pv 2) (pa_cons (pe_bltn (v := .ty "bool") (by rfl) T.m_bool (by decide +kernel) rfl) pa_nil))))))))) (fun _ _ _ _ _ => (pv 2))) (pe_lst pa_nil) (nomark _))))), ?_⟩
    refine ⟨.ref p1, rfl, _, _, _, _, true, rfl, .ty _, .base (.tup h1), kit_ty (by decide +kernel), true, rfl, iteF ?_⟩
    refine ⟨.ref p1, rfl, p1, _, rfl, .inr (SqT.of h1), rfl, _, rfl, iteNS rfl ?_⟩
    refine ⟨.ref p1, rfl, .ref p2, rfl, _, _, Dp.tup (SqT.of h1) (DpAll.cons (Dp.int _) (DpAll.cons (Dp.int _) DpAll.nil)), Dp.tup (SqT.of h2) (DpAll.cons (Dp.int _) (DpAll.cons (Dp.int _) DpAll.nil)), rfl, rfl, _, rfl, ?_⟩
    refine ite_no (by rw [SeqAt.eqv_refl] <;> first | rfl | decide) ?_
    refine ⟨.ref p1, rfl, p1, rfl, ⟨_, SqT.of h1⟩, fun D nD => ?_⟩
    refine lc_tup (K := K) (a := p1) (xs := [V.int f.num, V.int (f.den : Int)]) (fun i H' => H' = upd H D (.lst [])) rfl (fun i H' _ e => ?_) (fun i x H' hx e => ?_) (fun H' e => ?_)
    · subst e
      exact same_tup (same_upd nD) (SqT.of h1)
    · subst e
      obtain ⟨z, rfl⟩ : ∃ z, x = .int z := by
        match i, hx with
        | 0, hx => exact ⟨_, (Option.some.inj hx).symm⟩
        | 1, hx => exact ⟨_, (Option.some.inj hx).symm⟩
      refine ⟨rfl, .int z, rfl, _, _, _, _, true, rfl, .ty _, .base (.int z), kit_ty (by decide +kernel), true, rfl, iteF ?_⟩
      exact ⟨.int z, rfl, _, _, _, _, false, rfl, .ty _, .base (.int z), kit_ty (by decide +kernel), false, rfl, iteF rfl⟩
    · subst e
      refine ⟨Nat.zero_le _, fun p3 h3 => ?_⟩
      have hD : upd (upd H D (.lst [])) p3 (.lst []) D = some (.lst []) := by
        rw [upd_ne (ne_of_none upd_same h3)]
        exact upd_same
      exact ⟨_, _, Dp.lst (SqL.of hD) DpAll.nil, Dp.lst (SqL.of upd_same) DpAll.nil, rfl, rfl, q _ ((same_upd nD).trans (same_upd h3))⟩
end

section
variable {P : Program} {w : World} {K : PySem.W.Frag} {mg : Str → Option Value} {base : Heap}
theorem ok__law_plus (T : Tx K mg) : FnOk P w K mg base CX0 3 T.f__law_plus T.d__law_plus ["_law_one", "_law_other"] (sp_two (fun q r => q + r) (fun _ => True)) := by
  have G__law_share := ok__law_share (P := P) (w := w) (base := base) T
  refine T.F__law_plus.ok sc__law_plus (fun vs H Q E h => two_len h) (fun cdv A outer s H vs Q E hr h => ?_)
  obtain ⟨_, _, q, r, rfl, ⟨p1, rfl, h1⟩, ⟨p2, rfl, h2⟩, ⟨bq, bq'⟩, ⟨br, br'⟩, ok, k⟩ := h
  refine ⟨_, (pss_one (ps_ret (pe_call G__law_share (hr.mono (by first | decide | omega)) (by rfl) T.g__law_share T.F__law_share.kp T.b__law_share .nil pass0 (pa_cons (pe_op op_add (pe_op op_mulX (pe_ix ix_tup (pv 0) pe_int (fun _ _ => rfl)) (pe_ix ix_tup (pv 1) pe_int (fun _ _ => rfl))) (pe_op op_mulX (pe_ix ix_tup (pv 1) pe_int (fun _ _ => rfl)) (pe_ix ix_tup (pv 0) pe_int (fun _ _ => rfl)))) (pa_cons (pe_op op_mulX (pe_ix ix_tup (pv 0) pe_int (fun _ _ => rfl)) (pe_ix ix_tup (pv 1) pe_int (fun _ _ => rfl))) pa_nil))))), ?_⟩
  refine rd_ixT rfl h1 rfl (rd_ixT rfl h2 rfl (rd_mul bq br' (by decide) (rd_ixT rfl h2 rfl (rd_ixT rfl h1 rfl (rd_mul br bq' (by decide) (rd_i0 (rd_ixT rfl h1 rfl (rd_ixT rfl h2 rfl (rd_mul bq' br' (by decide) ?_)))))))))
  exact ⟨_, _, rfl, Int.mul_ne_zero (den_ne q) (den_ne r), (bq'.mul br').mono (by decide), fun H' v s f => k H' v s (by rw [rat_sum] at f; exact f)⟩
theorem ok__law_times (T : Tx K mg) : FnOk P w K mg base CX0 3 T.f__law_times T.d__law_times ["_law_one", "_law_other"] (sp_two (fun q r => q * r) (fun _ => True)) := by
  have G__law_share := ok__law_share (P := P) (w := w) (base := base) T
  refine T.F__law_times.ok sc__law_times (fun vs H Q E h => two_len h) (fun cdv A outer s H vs Q E hr h => ?_)
  obtain ⟨_, _, q, r, rfl, ⟨p1, rfl, h1⟩, ⟨p2, rfl, h2⟩, ⟨bq, bq'⟩, ⟨br, br'⟩, ok, k⟩ := h
  refine ⟨_, (pss_one (ps_ret (pe_call G__law_share (hr.mono (by first | decide | omega)) (by rfl) T.g__law_share T.F__law_share.kp T.b__law_share .nil pass0 (pa_cons (pe_op op_mulX (pe_ix ix_tup (pv 0) pe_int (fun _ _ => rfl)) (pe_ix ix_tup (pv 1) pe_int (fun _ _ => rfl))) (pa_cons (pe_op op_mulX (pe_ix ix_tup (pv 0) pe_int (fun _ _ => rfl)) (pe_ix ix_tup (pv 1) pe_int (fun _ _ => rfl))) pa_nil))))), ?_⟩
  refine rd_ixT rfl h1 rfl (rd_ixT rfl h2 rfl (rd_mul bq br (by decide) (rd_ixT rfl h1 rfl (rd_ixT rfl h2 rfl (rd_mul bq' br' (by decide) ?_)))))
  exact ⟨_, _, rfl, Int.mul_ne_zero (den_ne q) (den_ne r), (bq'.mul br').mono (by decide), fun H' v s f => k H' v s (by rw [rat_prod] at f; exact f)⟩
end

/-! ### is_fraction of anything -/
theorem lowest {a b : Int} (hb : 0 < b) : (decide ((Rat.divInt a b).num = a) && decide (((Rat.divInt a b).den : Int) = b)) = decide (0 < b ∧ Int.gcd a b = 1) := by
  by_cases h : Int.gcd a b = 1
  · have e : sg a b = 1 := by
      unfold sg
      rw [if_neg (by omega), h]
      rfl
    have h1 := sg_num (a := a) (b := b) (by omega)
    have h2 := sg_den (a := a) (b := b) (by omega)
    rw [e] at h1 h2
    have k : ∀ z : Int, z.fdiv 1 = z := fun z => by
      rw [Int.fdiv_eq_ediv_of_nonneg z (by decide), Int.ediv_one]
    rw [k] at h1 h2
    rw [decide_eq_true h1.symm, decide_eq_true h2.symm, decide_eq_true ⟨hb, h⟩]
    rfl
  · have r := (Rat.divInt a b).reduced
    rw [decide_eq_false fun z : 0 < b ∧ Int.gcd a b = 1 => h z.2]
    by_cases h1 : (Rat.divInt a b).num = a
    · by_cases h2 : ((Rat.divInt a b).den : Int) = b
      · refine absurd ?_ h
        have e : Int.gcd a b = Nat.gcd a.natAbs b.natAbs := rfl
        rw [e]
        have e2 : b.natAbs = (Rat.divInt a b).den := by omega
        rw [e2]
        rw [h1] at r
        exact r
      · rw [decide_eq_false h2, Bool.and_false]
    · rw [decide_eq_false h1, Bool.false_and]
/-- what is_whole tells -/
def Wh (K : PySem.W.Frag) (H : Hp) (x : V) (b : Bool) : Prop := (∃ i, x = .int i ∧ b = true) ∨
  (b = false ∧ ∃ t, TyX K H x t ∧ (PySem.W.kitOne K t (.type "int") = some false ∨ (PySem.W.kitOne K t (.type "int") = some true ∧ PySem.W.kitOne K t (.type "bool") = some true)))
inductive IsFr (K : PySem.W.Frag) (H : Hp) : V → Bool → Prop
  | other {v : V} {t : Value} (ty : TyX K H v t) (h : PySem.W.kitOne K t (.type "tuple") = some false) : IsFr K H v false
  | len {p : Addr} {xs : List V} (h : H p = some (.tup xs)) (hl : xs.length ≠ 2) : IsFr K H (.ref p) false
  | part1 {p : Addr} {x y : V} (h : H p = some (.tup [x, y])) (hx : Wh K H x false) : IsFr K H (.ref p) false
  | part2 {p : Addr} {i : Int} {y : V} (h : H p = some (.tup [.int i, y])) (hy : Wh K H y false) : IsFr K H (.ref p) false
  | whole {p : Addr} {a b : Int} (h : H p = some (.tup [.int a, .int b])) (hB : Bt 9000 b) : IsFr K H (.ref p) (decide (0 < b ∧ Int.gcd a b = 1))
section
variable {P : Program} {w : World} {K : PySem.W.Frag} {mg : Str → Option Value} {base : Heap}
def sp_whole (K : PySem.W.Frag) : Sp := fun vs H Q _ => ∃ x b, vs = [x] ∧ Wh K H x b ∧ Q (.bl b) H
theorem ok_is_whole (T : Tx K mg) : FnOk P w K mg base CX0 1 T.f_is_whole T.d_is_whole ["thing"] (sp_whole K) := by
  refine T.F_is_whole.ok sc_is_whole (fun vs H Q E h => ?_) (fun cdv A outer s H vs Q E hr h => ?_)
  · obtain ⟨_, _, rfl, _⟩ := h
    rfl
  · obtain ⟨x, b, rfl, hx, q⟩ := h
    refine ⟨_, (pss_one (ps_ret (pe_and (pe_callB call_isi (by rfl) T.m_isinstance (by decide +kernel) (pa_cons (pv 0) (pa_cons (pe_bltn (v := .ty "int") (by rfl) T.m_int (by decide +kernel) rfl) pa_nil))) (pe_one (pe_not (pe_callB call_isi (by rfl) T.m_isinstance (by decide +kernel) (pa_cons (pv 0) (pa_cons (pe_bltn (v := .ty "bool") (by rfl) T.m_bool (by decide +kernel) rfl) pa_nil)))))))), ?_⟩
    rcases hx with ⟨i, rfl, rfl⟩ | ⟨rfl, t, ty, h | ⟨h1, h2⟩⟩
    · refine ⟨_, rfl, _, _, _, _, true, rfl, .ty _, .base (.int i), kit_ty (by decide +kernel), true, rfl, iteT ?_⟩
      exact ⟨_, rfl, _, _, _, _, false, rfl, .ty _, .base (.int i), kit_ty (by decide +kernel), false, rfl, q⟩
    · exact ⟨_, rfl, _, _, _, _, false, rfl, .ty _, ty, h, false, rfl, iteF q⟩
    · refine ⟨_, rfl, _, _, _, _, true, rfl, .ty _, ty, h1, true, rfl, iteT ?_⟩
      exact ⟨_, rfl, _, _, _, _, true, rfl, .ty _, ty, h2, true, rfl, q⟩
def sp_isfr (K : PySem.W.Frag) : Sp := fun vs H Q _ => ∃ v b, vs = [v] ∧ IsFr K H v b ∧ ∀ H', Same H H' → Q (.bl b) H'
theorem ok_is_fraction (T : Tx K mg) : FnOk P w K mg base CX0 2 T.f_is_fraction T.d_is_fraction ["thing"] (sp_isfr K) := by
  have G_frac := ok_frac (P := P) (w := w) (base := base) T
  have G_is_whole := ok_is_whole (P := P) (w := w) (base := base) T
  refine T.F_is_fraction.ok sc_is_fraction (fun vs H Q E h => ?_) (fun cdv A outer s H vs Q E hr h => ?_)
  · obtain ⟨_, _, rfl, _⟩ := h
    rfl
  · obtain ⟨v, b, rfl, hv, q⟩ := h
    refine ⟨_, (pss_cons (ps_if (PW.pt (pw_or (pt_not (pt_val (pe_callB call_isi (by rfl) T.m_isinstance (by decide +kernel) (pa_cons (pv 0) (pa_cons (pe_bltn (v := .ty "tuple") (by rfl) T.m_tuple (by decide +kernel) rfl) pa_nil))))) (pw_or1 (pt_cmpR op_ne (pe_callB call_len_seq (by rfl) T.m_len (by decide +kernel) (pa_cons (pv 0) pa_nil)) pe_int (nomark _))))) (pss_one (ps_ret pe_bl)) pss_nil)
      (pss_cons (ps_asg (pv 0) (pg_tup (by rfl) (pgs_cons (pg_name (i := 1) sc_is_fraction.nd rfl (Or.inl rfl)) (pgs_cons (pg_name (i := 2) sc_is_fraction.nd rfl (Or.inl rfl)) pgs_nil))))
      (pss_cons (ps_if (PW.pt (pw_or (pt_not (pt_val (pe_call G_is_whole (hr.mono (by first | decide | omega)) (by rfl) T.g_is_whole T.F_is_whole.kp T.b_is_whole .nil pass0 (pa_cons (pv 1) pa_nil)))) (pw_or (pt_not (pt_val (pe_call G_is_whole (hr.mono (by first | decide | omega)) (by rfl) T.g_is_whole T.F_is_whole.kp T.b_is_whole .nil pass0 (pa_cons (pv 2) pa_nil)))) (pw_or1 (pt_cmpR op_lt (pv 2) pe_int (nomark _)))))) (pss_one (ps_ret pe_bl)) pss_nil)
      (pss_one (ps_ret (pe_cmpR (op_eqD hr.units) (pe_call G_frac (hr.mono (by first | decide | omega)) (by rfl) T.g_frac T.F_frac.kp T.b_frac .nil pass0 (pa_cons (pv 1) (pa_cons (pv 2) pa_nil))) (pe_tup (pa_cons (pv 1) (pa_cons (pv 2) pa_nil))) (nomark _))))))), ?_⟩
    have q0 := q H (Same.refl H)
    cases hv with
    | other ty h => exact ⟨_, rfl, _, _, _, _, false, rfl, .ty _, ty, h, false, rfl, iteT q0⟩
    | @len p xs h hl =>
      refine ⟨_, rfl, _, _, _, _, true, rfl, .ty _, .base (.tup h), kit_ty (by decide +kernel), true, rfl, iteF ?_⟩
      refine ⟨_, rfl, p, xs, rfl, .inr (SqT.of h), rfl, _, rfl, ite_yes ?_ q0⟩
      have e : ¬ V.int (xs.length : Int) = V.int 2 := fun z => hl (by have := V.int.inj z; omega)
      rw [decide_eq_false e]
      rfl
    | @part1 p x y h hx =>
      refine ⟨_, rfl, _, _, _, _, true, rfl, .ty _, .base (.tup h), kit_ty (by decide +kernel), true, rfl, iteF ?_⟩
      refine ⟨_, rfl, p, _, rfl, .inr (SqT.of h), rfl, _, rfl, iteNS rfl ?_⟩
      refine ⟨_, rfl, p, _, rfl, SqT.of h, rfl, _, _, rfl, _, _, rfl, rfl, ?_⟩
      exact ⟨_, rfl, x, false, rfl, hx, false, rfl, iteT q0⟩
    | @part2 p i y h hy =>
      refine ⟨_, rfl, _, _, _, _, true, rfl, .ty _, .base (.tup h), kit_ty (by decide +kernel), true, rfl, iteF ?_⟩
      refine ⟨_, rfl, p, _, rfl, .inr (SqT.of h), rfl, _, rfl, iteNS rfl ?_⟩
      refine ⟨_, rfl, p, _, rfl, SqT.of h, rfl, _, _, rfl, _, _, rfl, rfl, ?_⟩
      refine ⟨_, rfl, _, true, rfl, .inl ⟨i, rfl, rfl⟩, true, rfl, iteF ?_⟩
      exact ⟨_, rfl, y, false, rfl, hy, false, rfl, iteT q0⟩
    | @whole p a b h hB =>
      refine ⟨_, rfl, _, _, _, _, true, rfl, .ty _, .base (.tup h), kit_ty (by decide +kernel), true, rfl, iteF ?_⟩
      refine ⟨_, rfl, p, _, rfl, .inr (SqT.of h), rfl, _, rfl, iteNS rfl ?_⟩
      refine ⟨_, rfl, p, _, rfl, SqT.of h, rfl, _, _, rfl, _, _, rfl, rfl, ?_⟩
      refine ⟨_, rfl, _, true, rfl, .inl ⟨a, rfl, rfl⟩, true, rfl, iteF ?_⟩
      refine ⟨_, rfl, _, true, rfl, .inl ⟨b, rfl, rfl⟩, true, rfl, iteF ?_⟩
      refine ⟨_, rfl, b, 1, rfl, rfl, _, rfl, ite2 (fun e => ?_) (fun e => ?_)⟩
      · have e := of_decide_eq_true e
        have f : ¬ (0 < b ∧ Int.gcd a b = 1) := by omega
        rw [decide_eq_false f] at q0
        exact q0
      · have e : ¬ b < 1 := fun z => e (decide_eq_true z)
        refine ⟨_, rfl, _, rfl, a, b, rfl, (show b ≠ 0 by omega), hB, fun H1 v1 s1 f1 => ?_⟩
        obtain ⟨p1, rfl, h1⟩ := f1
        refine ⟨_, rfl, _, rfl, sz_n (by decide : 2 ≤ 1000), fun p2 n2 => ?_⟩
        have s2 := same_upd (o := .tup [.int a, .int b]) n2
        refine ⟨_, _, Dp.tup (SqT.of (s2 _ _ h1)) (DpAll.cons (Dp.int _) (DpAll.cons (Dp.int _) DpAll.nil)), Dp.tup (SqT.of upd_same) (DpAll.cons (Dp.int _) (DpAll.cons (Dp.int _) DpAll.nil)), rfl, rfl, ?_⟩
        rw [eqv2, lowest (by omega)]
        exact q _ (s1.trans s2)
end

/-! ### sums and products of a row -/
def nz (q : Rat) : Rat := if q = 0 then 1 else q
theorem nz_ne (q : Rat) : nz q ≠ 0 := by
  unfold nz
  split
  · decide
  · assumption
def rprod : List Rat → Rat
  | [] => 1
  | q :: r => nz q * rprod r
theorem rprod_snoc (q : Rat) : ∀ l : List Rat, rprod (l ++ [q]) = rprod l * nz q
  | [] => by
    show nz q * 1 = 1 * nz q
    grind
  | r :: l => by
    show nz r * rprod (l ++ [q]) = nz r * rprod l * nz q
    rw [rprod_snoc q l]
    grind
theorem rprod_ne : ∀ l : List Rat, rprod l ≠ 0
  | [] => by decide
  | q :: l => fun h => by
    have h : nz q * rprod l = 0 := h
    rcases Rat.mul_eq_zero.mp h with h | h
    · exact nz_ne q h
    · exact rprod_ne l h
theorem rsum_rev : ∀ l : List Rat, rsum l.reverse = rsum l
  | [] => rfl
  | q :: l => by
    rw [List.reverse_cons, rsum_snoc, rsum_rev l]
    show rsum l + q = q + rsum l
    grind
theorem rprod_rev : ∀ l : List Rat, rprod l.reverse = rprod l
  | [] => rfl
  | q :: l => by
    rw [List.reverse_cons, rprod_snoc, rprod_rev l]
    show rprod l * nz q = nz q * rprod l
    grind
theorem sum_step {qs : List Rat} {i : Nat} {q : Rat} (h : qs[i]? = some q) : rsum (qs.take (i + 1)) = rsum (qs.take i) + q := by
  rw [take_succ h, rsum_snoc]
theorem prod_step {qs : List Rat} {i : Nat} {q : Rat} (h : qs[i]? = some q) : rprod (qs.take (i + 1)) = rprod (qs.take i) * nz q := by
  rw [take_succ h, rprod_snoc]
theorem nz_num {q : Rat} (h : q.num = 0) : nz q = 1 := if_pos (Rat.num_eq_zero.mp h)
theorem nz_num' {q : Rat} (h : q.num ≠ 0) : nz q = q := if_neg fun z => h (Rat.num_eq_zero.mpr z)
theorem rb_nz {n : Nat} {q : Rat} (h : Rb n q) (hn : 1 ≤ n) : Rb n (nz q) := by
  unfold nz
  split
  · exact Rb.mono (m := 1) ⟨(by decide : (1 : Int).natAbs < 2 ^ 1), (by decide : (1 : Int).natAbs < 2 ^ 1)⟩ hn
  · exact h
theorem rb_rsum {n : Nat} : ∀ {l : List Rat}, Rs n l → Rb ((n + 1) * l.length + 1) (rsum l)
  | [], _ => ⟨(by decide : (0 : Int).natAbs < 2 ^ 1), (by decide : (1 : Int).natAbs < 2 ^ 1)⟩
  | q :: l, h => by
    have h1 := h q List.mem_cons_self
    have h2 := rb_rsum (l := l) fun r hr => h r (List.mem_cons_of_mem _ hr)
    refine (h1.add h2).mono ?_
    rw [List.length_cons, Nat.mul_add]
    omega
theorem rb_rprod {n : Nat} (hn : 1 ≤ n) : ∀ {l : List Rat}, Rs n l → Rb (n * l.length + 1) (rprod l)
  | [], _ => ⟨(by decide : (1 : Int).natAbs < 2 ^ 1), (by decide : (1 : Int).natAbs < 2 ^ 1)⟩
  | q :: l, h => by
    have h1 := rb_nz (h q List.mem_cons_self) hn
    have h2 := rb_rprod hn (l := l) fun r hr => h r (List.mem_cons_of_mem _ hr)
    refine (h1.mul h2).mono ?_
    rw [List.length_cons, Nat.mul_add]
    omega
theorem rs_take {n i : Nat} {l : List Rat} (h : Rs n l) : Rs n (l.take i) := fun q hq => h q (List.mem_of_mem_take hq)
theorem rs_rev {n : Nat} {l : List Rat} (h : Rs n l) : Rs n l.reverse := fun q hq => h q (List.mem_reverse.mp hq)
/-- twelve at most of twenty bits each -/
theorem rb_row {qs : List Rat} (hl : qs.length ≤ 12) (h : Rs 20 qs) : Rb 300 (rsum qs) ∧ Rb 300 (rprod qs) :=
  ⟨(rb_rsum h).mono (by omega), (rb_rprod (by decide) h).mono (by omega)⟩
theorem rb_part {qs : List Rat} (i : Nat) (hl : qs.length ≤ 12) (h : Rs 20 qs) : Rb 300 (rsum (qs.take i)) ∧ Rb 300 (rprod (qs.take i)) :=
  rb_row (Nat.le_trans (by rw [List.length_take]; omega) hl) (rs_take h)
theorem rb_sub {qs : List Rat} (i : Nat) (hl : qs.length ≤ 12) (h : Rs 20 qs) : Rb 700 (rsum qs - rsum (qs.take i)) ∧ Rb 700 (rprod qs / rprod (qs.take i)) := by
  have h1 := rb_row hl h
  have h2 := rb_part i hl h
  exact ⟨(h1.1.sub h2.1).mono (by decide), (h1.2.div h2.2 (rprod_ne _)).mono (by decide)⟩
theorem AF.rev {H : Hp} : ∀ {vs : List V} {qs : List Rat}, AF H vs qs → AF H vs.reverse qs.reverse
  | [], [], _ => trivial
  | v :: vs, q :: qs, h => by
    rw [List.reverse_cons, List.reverse_cons]
    exact AF.snoc h.1 (AF.rev h.2)
  | [], _ :: _, h => h.elim
  | _ :: _, [], h => h.elim
theorem FrV.isfr {K : PySem.W.Frag} {H : Hp} {v : V} {q : Rat} (h : FrV H v q) (hB : Bt 9000 (q.den : Int)) : IsFr K H v true := by
  obtain ⟨p, rfl, h⟩ := h
  have e : decide (0 < (q.den : Int) ∧ Int.gcd q.num (q.den : Int) = 1) = true := decide_eq_true ⟨by have := q.den_pos; omega, q.reduced⟩
  have r := IsFr.whole (K := K) h hB
  rw [e] at r
  exact r
theorem div_sign {x y : Int} (hy : 0 < y) : (Rat.divInt x y).num.sign = x.sign := by
  have hg : 0 < sg x y := by
    have h1 : 0 < Int.gcd x y := Int.gcd_pos_of_ne_zero_right x (by omega)
    unfold sg
    rw [if_neg (by omega)]
    omega
  have e1 : x.fdiv (sg x y) * sg x y = x := Int.fdiv_mul_cancel (by
    unfold sg
    rw [if_neg (by omega)]
    exact Int.gcd_dvd_left x y)
  rw [sg_num (by omega)] at e1
  rw [← e1, Int.sign_mul, Int.sign_eq_one_of_pos hg, Int.mul_one]
  rw [e1]
theorem less_sign (q r : Rat) : (q - r).num.sign = (q.num * r.den - r.num * q.den).sign := by
  rw [← rat_less, div_sign]
  have h1 := q.den_pos
  have h2 := r.den_pos
  exact Int.mul_pos (by omega) (by omega)
theorem sign_cmp (x y : Int) : (x - y).sign = (if decide (y < x) = true then 1 else 0) - (if decide (x < y) = true then (1 : Int) else 0) := by
  by_cases h1 : y < x
  · rw [Int.sign_eq_one_of_pos (by omega), decide_eq_true h1, decide_eq_false (by omega)]
    rfl
  · by_cases h2 : x < y
    · rw [Int.sign_eq_neg_one_of_neg (by omega), decide_eq_true h2, decide_eq_false h1]
      rfl
    · have z : x - y = 0 := by omega
      rw [z, decide_eq_false h1, decide_eq_false h2]
      rfl
theorem drop_one (xs : List V) : cutV xs (some 1) none = xs.drop 1 := by
  unfold cutV
  rw [HT.sIx_none, show HT.sIx xs.length 0 (some 1) = min 1 xs.length from HT.sIx_nat xs.length 0 1]
  cases xs with
  | nil => rfl
  | cons x r =>
    have e : min 1 (x :: r).length = 1 := by rw [List.length_cons]; omega
    rw [e]
    exact List.take_of_length_le (by rw [List.length_drop]; omega)
section
variable {P : Program} {w : World} {K : PySem.W.Frag} {mg : Str → Option Value} {base : Heap}
def sp_sums : Sp := fun vs H Q _ => ∃ r xs qs, vs = [.ref r] ∧ H r = some (.lst xs) ∧ AF H xs qs ∧ qs.length ≤ 12 ∧ Rs 20 qs ∧
  ∀ H' p v1 v2, Same H H' → H' p = some (.tup [v1, v2]) → FrV H' v1 (rsum qs) → FrV H' v2 (rprod qs) → Q (.ref p) H'
theorem ok__law_sums (T : Tx K mg) : FnOk P w K mg base CX0 3 T.f__law_sums T.d__law_sums ["_law_row"] sp_sums := by
  have G_plus := ok_plus (P := P) (w := w) (base := base) T
  have G_times := ok_times (P := P) (w := w) (base := base) T
  refine T.F__law_sums.ok sc__law_sums (fun vs H Q E h => ?_) (fun cdv A outer s H vs Q E hr h => ?_)
  · obtain ⟨_, _, _, rfl, _⟩ := h
    rfl
  · obtain ⟨r, xs, qs, rfl, hR, af, hl, hs, k⟩ := h
    refine ⟨_, (pss_cons (ps_set (i := 1) sc__law_sums.nd rfl (Or.inl rfl) (pe_tup (pa_cons pe_int (pa_cons pe_int pa_nil))))
      (pss_cons (ps_set (i := 2) sc__law_sums.nd rfl (Or.inl rfl) (pe_tup (pa_cons pe_int (pa_cons pe_int pa_nil))))
      (pss_cons (ps_for PassesOwn.never rfl (pi_list (pv 0)) (pg_name (i := 3) sc__law_sums.nd rfl (Or.inl rfl)) (pss_cons (ps_set (i := 1) sc__law_sums.nd rfl (Or.inl rfl) (pe_call G_plus (hr.mono (by first | decide | omega)) (by rfl) T.g_plus T.F_plus.kp T.b_plus .nil pass0 (pa_cons (pv 1) (pa_cons (pv 3) pa_nil))))
      (pss_one (ps_if (pt_cmpR op_ne (pe_ix ix_tup (pv 3) pe_int (fun _ _ => rfl)) pe_int (nomark _)) (pss_one (ps_set (i := 2) sc__law_sums.nd rfl (Or.inl rfl) (pe_call G_times (hr.mono (by first | decide | omega)) (by rfl) T.g_times T.F_times.kp T.b_times .nil pass0 (pa_cons (pv 2) (pa_cons (pv 3) pa_nil))))) pss_nil))))
      (pss_one (ps_ret (pe_tup (pa_cons (pv 1) (pa_cons (pv 2) pa_nil)))))))), ?_⟩
    have hxl : xs.length = qs.length := af.len
    refine ⟨sz_n (by decide : 2 ≤ 1000), fun t0 n0 => ⟨sz_n (by decide : 2 ≤ 1000), fun t1 n1 => ?_⟩⟩
    have s0 := same_upd (o := .tup [.int 0, .int 1]) n0
    have s1 := same_upd (o := .tup [.int 1, .int 1]) n1
    have S1 := s0.trans s1
    refine ⟨.ref r, rfl, r, rfl, ⟨_, SqL.of (S1 _ _ hR)⟩, ?_⟩
    refine for_list (K := K) (a := r) (xs := xs) (fun i σ H' => Same H H' ∧ ∃ v1 v2 y, σ = [some (.ref r), some v1, some v2, y] ∧ FrV H' v1 (rsum (qs.take i)) ∧ FrV H' v2 (rprod (qs.take i)))
      ⟨S1, _, _, none, rfl, FrV.same s1 (frv_new rfl rfl), frv_new rfl rfl⟩ (fun i σ H' _ h => h.1.seq (SqL.of hR)) (fun i x σ H' hx h => ?_) (fun σ H' h => ?_)
    · obtain ⟨hS, v1, v2, y, rfl, f1, f2⟩ := h
      obtain ⟨q, hq, fx⟩ := af.get hx
      have bq := rs_get hs hq
      have bp := rb_part i hl hs
      refine ⟨_, rfl, _, rfl, v1, x, _, q, rfl, f1, fx.same hS, bp.1.mono (by decide), bq.mono (by decide), trivial, fun H2 w2 s2 g2 => ?_⟩
      have S2 := hS.trans s2
      replace g2 : FrV H2 w2 (rsum (qs.take (i + 1))) := by
        rw [sum_step hq]
        exact g2
      obtain ⟨px, rfl, hx2⟩ := fx.same S2
      refine ⟨_, rfl, px, _, 0, _, rfl, rfl, SqT.of hx2, rfl, rfl, _, rfl, ite2 (fun e => ?_) (fun e => ?_)⟩
      · have e : q.num ≠ 0 := fun z => by
          rw [z] at e
          exact absurd e (by decide)
        refine ⟨_, rfl, _, rfl, v2, .ref px, _, q, rfl, f2.same s2, ⟨px, rfl, hx2⟩, bp.2.mono (by decide), bq.mono (by decide), trivial, fun H3 w3 s3 g3 => ?_⟩
        refine ⟨S2.trans s3, w2, w3, _, rfl, g2.same s3, ?_⟩
        rw [prod_step hq, nz_num' e]
        exact g3
      · have e : q.num = 0 := Decidable.byContradiction fun z => e (by
          rw [decide_eq_false fun z' => z (V.int.inj z')]
          rfl)
        refine ⟨S2, w2, v2, _, rfl, g2, ?_⟩
        rw [prod_step hq, nz_num e, Rat.mul_one]
        exact f2.same s2
    · rw [hxl] at h
      obtain ⟨hS, v1, v2, y, rfl, f1, f2⟩ := h
      rw [List.take_length] at f1 f2
      refine ⟨_, rfl, _, rfl, sz_n (by decide : 2 ≤ 1000), fun p np => ?_⟩
      have sp := same_upd (o := .tup [v1, v2]) np
      exact k _ p v1 v2 (hS.trans sp) upd_same (f1.same sp) (f2.same sp)
theorem ok__law_due (T : Tx K mg) : FnOk P w K mg base CX0 4 T.f__law_due T.d__law_due ["_law_row"] sp_sums := by
  have G__law_plus := ok__law_plus (P := P) (w := w) (base := base) T
  have G__law_times := ok__law_times (P := P) (w := w) (base := base) T
  refine T.F__law_due.ok sc__law_due (fun vs H Q E h => ?_) (fun cdv A outer s H vs Q E hr h => ?_)
  · obtain ⟨_, _, _, rfl, _⟩ := h
    rfl
  · obtain ⟨r, xs, qs, rfl, hR, af, hl, hs, k⟩ := h
    refine ⟨_, (pss_cons (ps_set (i := 1) sc__law_due.nd rfl (Or.inl rfl) (pe_tup (pa_cons pe_int (pa_cons pe_int pa_nil))))
      (pss_cons (ps_set (i := 2) sc__law_due.nd rfl (Or.inl rfl) (pe_tup (pa_cons pe_int (pa_cons pe_int pa_nil))))
      (pss_cons (ps_for PassesOwn.never rfl (pi_list (pv 0)) (pg_name (i := 3) sc__law_due.nd rfl (Or.inl rfl)) (pss_cons (ps_set (i := 1) sc__law_due.nd rfl (Or.inl rfl) (pe_call G__law_plus (hr.mono (by first | decide | omega)) (by rfl) T.g__law_plus T.F__law_plus.kp T.b__law_plus .nil pass0 (pa_cons (pv 1) (pa_cons (pv 3) pa_nil))))
      (pss_one (ps_if (pt_cmpR op_ne (pe_ix ix_tup (pv 3) pe_int (fun _ _ => rfl)) pe_int (nomark _)) (pss_one (ps_set (i := 2) sc__law_due.nd rfl (Or.inl rfl) (pe_call G__law_times (hr.mono (by first | decide | omega)) (by rfl) T.g__law_times T.F__law_times.kp T.b__law_times .nil pass0 (pa_cons (pv 2) (pa_cons (pv 3) pa_nil))))) pss_nil))))
      (pss_one (ps_ret (pe_tup (pa_cons (pv 1) (pa_cons (pv 2) pa_nil)))))))), ?_⟩
    have hxl : xs.length = qs.length := af.len
    refine ⟨sz_n (by decide : 2 ≤ 1000), fun t0 n0 => ⟨sz_n (by decide : 2 ≤ 1000), fun t1 n1 => ?_⟩⟩
    have s0 := same_upd (o := .tup [.int 0, .int 1]) n0
    have s1 := same_upd (o := .tup [.int 1, .int 1]) n1
    have S1 := s0.trans s1
    refine ⟨.ref r, rfl, r, rfl, ⟨_, SqL.of (S1 _ _ hR)⟩, ?_⟩
    refine for_list (K := K) (a := r) (xs := xs) (fun i σ H' => Same H H' ∧ ∃ v1 v2 y, σ = [some (.ref r), some v1, some v2, y] ∧ FrV H' v1 (rsum (qs.take i)) ∧ FrV H' v2 (rprod (qs.take i)))
      ⟨S1, _, _, none, rfl, FrV.same s1 (frv_new rfl rfl), frv_new rfl rfl⟩ (fun i σ H' _ h => h.1.seq (SqL.of hR)) (fun i x σ H' hx h => ?_) (fun σ H' h => ?_)
    · obtain ⟨hS, v1, v2, y, rfl, f1, f2⟩ := h
      obtain ⟨q, hq, fx⟩ := af.get hx
      have bq := rs_get hs hq
      have bp := rb_part i hl hs
      refine ⟨_, rfl, _, rfl, v1, x, _, q, rfl, f1, fx.same hS, bp.1.mono (by decide), bq.mono (by decide), trivial, fun H2 w2 s2 g2 => ?_⟩
      have S2 := hS.trans s2
      replace g2 : FrV H2 w2 (rsum (qs.take (i + 1))) := by
        rw [sum_step hq]
        exact g2
      obtain ⟨px, rfl, hx2⟩ := fx.same S2
      refine ⟨_, rfl, px, _, 0, _, rfl, rfl, SqT.of hx2, rfl, rfl, _, rfl, ite2 (fun e => ?_) (fun e => ?_)⟩
      · have e : q.num ≠ 0 := fun z => by
          rw [z] at e
          exact absurd e (by decide)
        refine ⟨_, rfl, _, rfl, v2, .ref px, _, q, rfl, f2.same s2, ⟨px, rfl, hx2⟩, bp.2.mono (by decide), bq.mono (by decide), trivial, fun H3 w3 s3 g3 => ?_⟩
        refine ⟨S2.trans s3, w2, w3, _, rfl, g2.same s3, ?_⟩
        rw [prod_step hq, nz_num' e]
        exact g3
      · have e : q.num = 0 := Decidable.byContradiction fun z => e (by
          rw [decide_eq_false fun z' => z (V.int.inj z')]
          rfl)
        refine ⟨S2, w2, v2, _, rfl, g2, ?_⟩
        rw [prod_step hq, nz_num e, Rat.mul_one]
        exact f2.same s2
    · rw [hxl] at h
      obtain ⟨hS, v1, v2, y, rfl, f1, f2⟩ := h
      rw [List.take_length] at f1 f2
      refine ⟨_, rfl, _, rfl, sz_n (by decide : 2 ≤ 1000), fun p np => ?_⟩
      have sp := same_upd (o := .tup [v1, v2]) np
      exact k _ p v1 v2 (hS.trans sp) upd_same (f1.same sp) (f2.same sp)
def sp_undone : Sp := fun vs H Q _ => ∃ r xs qs v1 v2, vs = [.ref r, v1, v2] ∧ H r = some (.lst xs) ∧ AF H xs qs ∧ qs.length ≤ 12 ∧ Rs 20 qs ∧ FrV H v1 (rsum qs) ∧ FrV H v2 (rprod qs) ∧ ∀ H', Same H H' → Q (.bl true) H'
theorem ok__law_undone (T : Tx K mg) : FnOk P w K mg base CX0 3 T.f__law_undone T.d__law_undone ["_law_row", "_law_total", "_law_product"] sp_undone := by
  have G__law_is := ok__law_is (P := P) (w := w) (base := base) T
  have G_minus := ok_minus (P := P) (w := w) (base := base) T
  have G_over := ok_over (P := P) (w := w) (base := base) T
  refine T.F__law_undone.ok sc__law_undone (fun vs H Q E h => ?_) (fun cdv A outer s H vs Q E hr h => ?_)
  · obtain ⟨_, _, _, _, _, rfl, _⟩ := h
    rfl
  · obtain ⟨r, xs, qs, u1, u2, rfl, hR, af, hl, hs, g1, g2, k⟩ := h
    refine ⟨_, (pss_cons (ps_for PassesOwn.never rfl (pi_list (pv 0)) (pg_name (i := 3) sc__law_undone.nd rfl (Or.inl rfl)) (pss_cons (ps_set (i := 1) sc__law_undone.nd rfl (Or.inl rfl) (pe_call G_minus (hr.mono (by first | decide | omega)) (by rfl) T.g_minus T.F_minus.kp T.b_minus .nil pass0 (pa_cons (pv 1) (pa_cons (pv 3) pa_nil))))
      (pss_one (ps_if (pt_cmpR op_ne (pe_ix ix_tup (pv 3) pe_int (fun _ _ => rfl)) pe_int (nomark _)) (pss_one (ps_set (i := 2) sc__law_undone.nd rfl (Or.inl rfl) (pe_call G_over (hr.mono (by first | decide | omega)) (by rfl) T.g_over T.F_over.kp T.b_over .nil pass0 (pa_cons (pv 2) (pa_cons (pv 3) pa_nil))))) pss_nil))))
      (pss_one (ps_ret (pe_and (pe_call G__law_is (hr.mono (by first | decide | omega)) (by rfl) T.g__law_is T.F__law_is.kp T.b__law_is .nil pass0 (pa_cons (pv 1) (pa_cons (pe_tup (pa_cons pe_int (pa_cons pe_int pa_nil))) pa_nil))) (pe_one (pe_call G__law_is (hr.mono (by first | decide | omega)) (by rfl) T.g__law_is T.F__law_is.kp T.b__law_is .nil pass0 (pa_cons (pv 2) (pa_cons (pe_tup (pa_cons pe_int (pa_cons pe_int pa_nil))) pa_nil)))))))), ?_⟩
    have hxl : xs.length = qs.length := af.len
    have z1 : rsum qs = rsum qs - rsum (qs.take 0) := by
      show rsum qs = rsum qs - 0
      grind
    have z2 : rprod qs = rprod qs / rprod (qs.take 0) := by
      show rprod qs = rprod qs / 1
      grind
    refine ⟨.ref r, rfl, r, rfl, ⟨_, SqL.of hR⟩, ?_⟩
    refine for_list (K := K) (a := r) (xs := xs) (fun i σ H' => Same H H' ∧ ∃ v1 v2 y, σ = [some (.ref r), some v1, some v2, y] ∧ FrV H' v1 (rsum qs - rsum (qs.take i)) ∧ FrV H' v2 (rprod qs / rprod (qs.take i)))
      ⟨Same.refl H, u1, u2, none, rfl, z1 ▸ g1, z2 ▸ g2⟩ (fun i σ H' _ h => h.1.seq (SqL.of hR)) (fun i x σ H' hx h => ?_) (fun σ H' h => ?_)
    · obtain ⟨hS, v1, v2, y, rfl, f1, f2⟩ := h
      obtain ⟨q, hq, fx⟩ := af.get hx
      have bq := rs_get hs hq
      have bp := rb_sub i hl hs
      refine ⟨_, rfl, _, rfl, v1, x, _, q, rfl, f1, fx.same hS, bp.1.mono (by decide), bq.mono (by decide), trivial, fun H2 w2 s2 g2 => ?_⟩
      have S2 := hS.trans s2
      have e1 : rsum qs - rsum (qs.take i) - q = rsum qs - rsum (qs.take (i + 1)) := by
        rw [sum_step hq]
        grind
      replace g2 : FrV H2 w2 (rsum qs - rsum (qs.take (i + 1))) := by
        rw [← e1]
        exact g2
      obtain ⟨px, rfl, hx2⟩ := fx.same S2
      refine ⟨_, rfl, px, _, 0, _, rfl, rfl, SqT.of hx2, rfl, rfl, _, rfl, ite2 (fun e => ?_) (fun e => ?_)⟩
      · have e : q.num ≠ 0 := fun z => by
          rw [z] at e
          exact absurd e (by decide)
        have q0 : q ≠ 0 := fun z => e (Rat.num_eq_zero.mpr z)
        refine ⟨_, rfl, _, rfl, v2, .ref px, _, q, rfl, f2.same s2, ⟨px, rfl, hx2⟩, bp.2.mono (by decide), bq.mono (by decide), q0, fun H3 w3 s3 g3 => ?_⟩
        refine ⟨S2.trans s3, w2, w3, _, rfl, g2.same s3, ?_⟩
        have e2 : rprod qs / rprod (qs.take i) / q = rprod qs / rprod (qs.take (i + 1)) := by
          rw [prod_step hq, nz_num' e]
          grind
        rw [← e2]
        exact g3
      · have e : q.num = 0 := Decidable.byContradiction fun z => e (by
          rw [decide_eq_false fun z' => z (V.int.inj z')]
          rfl)
        refine ⟨S2, w2, v2, _, rfl, g2, ?_⟩
        rw [prod_step hq, nz_num e, Rat.mul_one]
        exact f2.same s2
    · rw [hxl] at h
      obtain ⟨hS, v1, v2, y, rfl, f1, f2⟩ := h
      have e1 : rsum qs - rsum (qs.take qs.length) = 0 := by
        rw [List.take_length]
        grind
      have e2 : rprod qs / rprod (qs.take qs.length) = 1 := by
        have := rprod_ne qs
        rw [List.take_length]
        grind
      rw [e1] at f1
      rw [e2] at f2
      refine ⟨_, rfl, sz_n (by decide : 2 ≤ 1000), fun p np => ?_⟩
      have sp := same_upd (o := .tup [.int 0, .int 1]) np
      refine ⟨_, _, 0, rfl, f1.same sp, frv_new rfl rfl, fun H2 s2 => ⟨true, rfl, iteT ?_⟩⟩
      refine ⟨_, rfl, sz_n (by decide : 2 ≤ 1000), fun p3 np3 => ?_⟩
      have sp3 := same_upd (o := .tup [.int 1, .int 1]) np3
      exact ⟨_, _, 1, rfl, f2.same (sp.trans (s2.trans sp3)), frv_new rfl rfl, fun H4 s4 => k _ (hS.trans (sp.trans (s2.trans (sp3.trans s4))))⟩
end

theorem Dk.apart {K : PySem.W.Frag} {H : Hp} {d l s D : Addr} {ns : List Int} {c : Nat} (h : Dk K H d l s ns c) (nD : H D = none) : D ≠ d ∧ D ≠ l ∧ ((∀ H', SqL K H' s (ns.map V.int)) ∨ s ≠ D) := by
  obtain ⟨xs, i, k, h1, h2, _, h4⟩ := h
  refine ⟨(ne_of_none h1 nD).symm, (ne_of_none h2 nD).symm, ?_⟩
  rcases h4 with h4 | ⟨h4, _, _⟩
  · exact .inl h4
  · rcases h4 with (h | ⟨o, h⟩) | h
    · exact .inr (ne_of_none h nD)
    · exact .inr (ne_of_none h nD)
    · exact .inl fun _ => .inr h
theorem Dk.beside {K : PySem.W.Frag} {H : Hp} {d l s D : Addr} {o : HO} {ns : List Int} {c : Nat} (h : Dk K H d l s ns c) (a : D ≠ d ∧ D ≠ l ∧ ((∀ H', SqL K H' s (ns.map V.int)) ∨ s ≠ D)) : Dk K (upd H D o) d l s ns c := by
  obtain ⟨xs, i, k, h1, h2, h3, h4⟩ := h
  obtain ⟨a1, a2, a3⟩ := a
  refine ⟨xs, i, k, ?_, ?_, h3, ?_⟩
  · rw [upd_ne a1.symm]
    exact h1
  · rw [upd_ne a2.symm]
    exact h2
  · rcases a3 with a3 | a3
    · exact .inl a3
    · rcases h4 with h4 | ⟨(h | ⟨z, h⟩) | h, b1, b2⟩
      · exact .inl h4
      · refine .inr ⟨.inl (.inl ?_), b1, b2⟩
        rw [upd_ne a3]
        exact h
      · refine .inr ⟨.inl (.inr ⟨z, ?_⟩), b1, b2⟩
        rw [upd_ne a3]
        exact h
      · exact .inl fun _ => .inr h

section
variable {P : Program} {w : World} {K : PySem.W.Frag} {mg : Str → Option Value} {base : Heap}
def sp_law (K : PySem.W.Frag) : Sp := fun vs H Q _ => ∃ (a : Addr) (ns : List Int), vs = [.ref a] ∧ SqL K H a (ns.map V.int) ∧ ns.length ≤ 63 ∧ ∀ H', Q (.bl true) H'
theorem ok_law {f : Addr} {fd : FuncData} (F : Fun K "law" "law" s_law f fd) (T : Tx K mg) : FnOk P w K mg base CX0 6 f fd ["_law_script"] (sp_law K) := by
  have G__law_deck := ok__law_deck (P := P) (w := w) (base := base) T
  have G__law_due := ok__law_due (P := P) (w := w) (base := base) T
  have G__law_fraction := ok__law_fraction (P := P) (w := w) (base := base) T
  have G__law_is := ok__law_is (P := P) (w := w) (base := base) T
  have G__law_sums := ok__law_sums (P := P) (w := w) (base := base) T
  have G__law_undone := ok__law_undone (P := P) (w := w) (base := base) T
  have G_is_fraction := ok_is_fraction (P := P) (w := w) (base := base) T
  have G_minus := ok_minus (P := P) (w := w) (base := base) T
  have G_plus := ok_plus (P := P) (w := w) (base := base) T
  have G_sign := ok_sign (P := P) (w := w) (base := base) T
  have G_times := ok_times (P := P) (w := w) (base := base) T
  refine F.ok sc_law (fun vs H Q E h => ?_) (fun cdv A outer s H vs Q E hr h => ?_)
  · obtain ⟨_, _, rfl, _⟩ := h
    rfl
  · obtain ⟨sa, ns, rfl, hS, hlen, q⟩ := h
    refine ⟨_, (pss_cons (ps_set (i := 1) sc_law.nd rfl (Or.inr rfl) (pe_call G__law_deck (hr.mono (by first | decide | omega)) (by rfl) T.g__law_deck T.F__law_deck.kp T.b__law_deck .nil pass0 (pa_cons (pv 0) pa_nil)))
      (pss_cons (ps_setLc (i := 2) (own := [("_law_k", 11)]) (g := gName 11) (by rfl) sc_law.nd rfl rfl (sw_true rfl rfl rfl (by decide +kernel)) (pi_range1 (by rfl) T.m_range (pa_cons (pe_callB (call_max2 rfl) (by rfl) T.m_max (by decide +kernel) (pa_cons pe_int (pa_cons (pe_callB (call_min2 rfl) (by rfl) T.m_min (by decide +kernel) (pa_cons pe_int (pa_cons (pe_callB call_len_seq (by rfl) T.m_len (by decide +kernel) (pa_cons (pv 0) pa_nil)) pa_nil))) pa_nil))) pa_nil)) (blkOk_by (own := [("_law_k", 11)]) (N := nm_law) (sc := defScope s_law) (by decide +kernel)) (fun _ _ _ _ _ => (pg_name (i := 11) sc_law.nd rfl (Or.inl rfl))) (fun _ _ _ _ _ => pts_nil) (fun _ _ _ _ _ => (pe_call G__law_fraction (hr.mono (by first | decide | omega)) (by rfl) T.g__law_fraction T.F__law_fraction.kp T.b__law_fraction .nil pass0 (pa_cons (pv 1) pa_nil))))
      (pss_cons (ps_set (i := 3) sc_law.nd rfl (Or.inl rfl) (pe_call G__law_due (hr.mono (by first | decide | omega)) (by rfl) T.g__law_due T.F__law_due.kp T.b__law_due .nil pass0 (pa_cons (pv 2) pa_nil)))
      (pss_cons (ps_asg (pe_call G__law_sums (hr.mono (by first | decide | omega)) (by rfl) T.g__law_sums T.F__law_sums.kp T.b__law_sums .nil pass0 (pa_cons (pv 2) pa_nil)) (pg_tup (by rfl) (pgs_cons (pg_name (i := 4) sc_law.nd rfl (Or.inl rfl)) (pgs_cons (pg_name (i := 5) sc_law.nd rfl (Or.inl rfl)) pgs_nil))))
      (pss_cons (ps_set (i := 6) sc_law.nd rfl (Or.inl rfl) (pe_call G__law_sums (hr.mono (by first | decide | omega)) (by rfl) T.g__law_sums T.F__law_sums.kp T.b__law_sums .nil pass0 (pa_cons (pe_revL (pv 2)) pa_nil)))
      (pss_cons (ps_if (PW.pt (pw_or (pt_not (pt_val (pe_call G__law_is (hr.mono (by first | decide | omega)) (by rfl) T.g__law_is T.F__law_is.kp T.b__law_is .nil pass0 (pa_cons (pv 4) (pa_cons (pe_ix ix_tup (pv 3) pe_int (fun _ _ => rfl)) pa_nil))))) (pw_or (pt_not (pt_val (pe_call G__law_is (hr.mono (by first | decide | omega)) (by rfl) T.g__law_is T.F__law_is.kp T.b__law_is .nil pass0 (pa_cons (pv 5) (pa_cons (pe_ix ix_tup (pv 3) pe_int (fun _ _ => rfl)) pa_nil))))) (pw_or1 (pt_cmpR (op_neD hr.units) (pv 6) (pv 3) (nomark _)))))) (pss_one (ps_ret pe_bl)) pss_nil)
      (pss_cons (ps_if (PW.pt (pw_or (pt_not (pt_val (pe_call G__law_undone (hr.mono (by first | decide | omega)) (by rfl) T.g__law_undone T.F__law_undone.kp T.b__law_undone .nil pass0 (pa_cons (pv 2) (pa_cons (pv 4) (pa_cons (pv 5) pa_nil)))))) (pw_or (pt_cmpR op_notBl (pe_call G_is_fraction (hr.mono (by first | decide | omega)) (by rfl) T.g_is_fraction T.F_is_fraction.kp T.b_is_fraction .nil pass0 (pa_cons (pv 4) pa_nil)) pe_bl (nomark _)) (pw_or1 (pt_cmpR op_notBl (pe_call G_is_fraction (hr.mono (by first | decide | omega)) (by rfl) T.g_is_fraction T.F_is_fraction.kp T.b_is_fraction .nil pass0 (pa_cons (pv 5) pa_nil)) pe_bl (nomark _)))))) (pss_one (ps_ret pe_bl)) pss_nil)
      (pss_cons (ps_for PassesOwn.never rfl (pi_zip (by rfl) T.m_zip (pa_cons (pv 2) (pa_cons (pe_slice sl_list (pv 2) (po_some pe_int) po_none) pa_nil))) (pg_tup (by rfl) (pgs_cons (pg_name (i := 7) sc_law.nd rfl (Or.inl rfl)) (pgs_cons (pg_name (i := 8) sc_law.nd rfl (Or.inl rfl)) pgs_nil))) (pss_cons (ps_if (pt_cmpR (op_neD hr.units) (pe_call G_times (hr.mono (by first | decide | omega)) (by rfl) T.g_times T.F_times.kp T.b_times .nil pass0 (pa_cons (pv 4) (pa_cons (pe_call G_plus (hr.mono (by first | decide | omega)) (by rfl) T.g_plus T.F_plus.kp T.b_plus .nil pass0 (pa_cons (pv 7) (pa_cons (pv 8) pa_nil))) pa_nil))) (pe_call G_plus (hr.mono (by first | decide | omega)) (by rfl) T.g_plus T.F_plus.kp T.b_plus .nil pass0 (pa_cons (pe_call G_times (hr.mono (by first | decide | omega)) (by rfl) T.g_times T.F_times.kp T.b_times .nil pass0 (pa_cons (pv 4) (pa_cons (pv 7) pa_nil))) (pa_cons (pe_call G_times (hr.mono (by first | decide | omega)) (by rfl) T.g_times T.F_times.kp T.b_times .nil pass0 (pa_cons (pv 4) (pa_cons (pv 8) pa_nil))) pa_nil))) (nomark _)) (pss_one (ps_ret pe_bl)) pss_nil)
      (pss_cons (ps_set (i := 9) sc_law.nd rfl (Or.inl rfl) (pe_op op_mulX (pe_ix ix_tup (pv 7) pe_int (fun _ _ => rfl)) (pe_ix ix_tup (pv 8) pe_int (fun _ _ => rfl))))
      (pss_cons (ps_set (i := 10) sc_law.nd rfl (Or.inl rfl) (pe_op op_mulX (pe_ix ix_tup (pv 8) pe_int (fun _ _ => rfl)) (pe_ix ix_tup (pv 7) pe_int (fun _ _ => rfl))))
      (pss_one (ps_if (pt_cmpR op_ne (pe_call G_sign (hr.mono (by first | decide | omega)) (by rfl) T.g_sign T.F_sign.kp T.b_sign .nil pass0 (pa_cons (pe_call G_minus (hr.mono (by first | decide | omega)) (by rfl) T.g_minus T.F_minus.kp T.b_minus .nil pass0 (pa_cons (pv 7) (pa_cons (pv 8) pa_nil))) pa_nil)) (pe_op op_sub (pe_callTy call_int1 (by rfl) T.m_int (by decide +kernel) (pa_cons (pe_cmpR op_gt (pv 9) (pv 10) (nomark _)) pa_nil)) (pe_callTy call_int1 (by rfl) T.m_int (by decide +kernel) (pa_cons (pe_cmpR op_lt (pv 9) (pv 10) (nomark _)) pa_nil))) (nomark _)) (pss_one (ps_ret pe_bl)) pss_nil))))))
      (pss_one (ps_ret pe_bl)))))))))), ?_⟩
    refine ⟨.ref sa, rfl, sa, ns, rfl, hS, hlen, fun H1 d l s1 D1 _ _ => ?_⟩
    have hS1 := s1.seq hS
    refine ⟨.ref sa, rfl, sa, _, rfl, .inl hS1, 12, _, rfl, 3, _, rfl, ?_⟩
    generalize hn : (if (if ((ns.map V.int).length : Int) < 12 then ((ns.map V.int).length : Int) else 12) > 3 then (if ((ns.map V.int).length : Int) < 12 then ((ns.map V.int).length : Int) else 12) else 3) = n
    have n3 : 3 ≤ n ∧ n ≤ 12 := by
      rw [← hn]
      split <;> split <;> omega
    clear hn
    refine ⟨n, rfl, by omega, by omega, fun D nD => ?_⟩
    have ap := D1.apart nD
    refine lc_range (lo := 0) (n := n.toNat) (fun i H' => Dk K H' d l sa ns (8 * i) ∧ ∃ acc qs, H' D = some (.lst acc) ∧ AF H' acc qs ∧ Rs 20 qs ∧ acc.length = i) ⟨D1.new nD, [], [], upd_same, trivial, (fun _ h => nomatch h), rfl⟩ (fun i H2 hi h => ?_) (fun H2 h => ?_)
    · obtain ⟨D2, acc, qs, hD, af, hs, hl⟩ := h
      refine ⟨rfl, rd_yes (iteT ?_)⟩
      refine ⟨.ref d, rfl, d, l, sa, ns, _, rfl, D2, by omega, fun H3 v3 q3 k3 D3 f3 b3 => ?_⟩
      have hD3 := k3 _ _ hD ap.1 ap.2.1
      refine ⟨acc, hD3, small1000 (by omega), (D3.mono (by omega)).beside ap, acc ++ [v3], qs ++ [q3], upd_same, AF.snoc (frv_lst hD3 f3) (AF.lst hD3 (AF.imp (fun _ _ f => k3.fr D2 f) af)), ?_, ?_⟩
      · intro r hr
        rcases List.mem_append.mp hr with h | h
        · exact hs r h
        · exact (List.mem_singleton.mp h) ▸ b3
      · rw [List.length_append, hl]
        rfl
    · obtain ⟨_, acc, qs, hD, af, hs, hl⟩ := h
      have hl12 : qs.length ≤ 12 := by
        rw [← af.len]
        omega
      clear D1 ap nD hS1 s1
      have br := rb_row hl12 hs
      -- due, sums, back
      refine ⟨.ref D, rfl, D, acc, qs, rfl, hD, af, hl12, hs, fun H3 p3 w1 w2 s3 h3 f1 f2 => ?_⟩
      refine ⟨.ref D, rfl, D, acc, qs, rfl, s3 _ _ hD, af.same s3, hl12, hs, fun H4 p4 v1 v2 s4 h4 g1 g2 => ?_⟩
      refine ⟨p4, _, rfl, SqT.of h4, rfl, _, _, rfl, _, _, rfl, rfl, ?_⟩
      have S4 := s3.trans s4
      refine ⟨.ref D, rfl, D, acc, rfl, SqL.of (S4 _ _ hD), fun R nR => ?_⟩
      have sR := same_upd (o := .lst acc.reverse) nR
      have SR := S4.trans sR
      refine ⟨R, acc.reverse, qs.reverse, rfl, upd_same, (af.same SR).rev, by rw [List.length_reverse]; exact hl12, rs_rev hs, fun H5 p5 u1 u2 s5 h5 e1 e2 => ?_⟩
      rw [rsum_rev] at e1
      rw [rprod_rev] at e2
      have S45 := sR.trans s5
      have S35 := s4.trans S45
      -- the first test
      refine ⟨v1, rfl, .ref p3, rfl, p3, _, 0, _, rfl, rfl, SqT.of (S35 _ _ h3), rfl, v1, w1, _, rfl, g1.same S45, f1.same S35, fun H6 s6 => ⟨true, rfl, iteF ?_⟩⟩
      have S36 := S35.trans s6
      refine ⟨v2, rfl, .ref p3, rfl, p3, _, 1, _, rfl, rfl, SqT.of (S36 _ _ h3), rfl, v2, w2, _, rfl, g2.same (S45.trans s6), f2.same S36, fun H7 s7 => ⟨true, rfl, iteF ?_⟩⟩
      have S37 := S36.trans s7
      have S57 := s6.trans s7
      refine ⟨.ref p5, rfl, .ref p3, rfl, _, _, Dp.tup (SqT.of (S57 _ _ h5)) (DpAll.cons (e1.same S57).dp (DpAll.cons (e2.same S57).dp DpAll.nil)), Dp.tup (SqT.of (S37 _ _ h3)) (DpAll.cons (f1.same S37).dp (DpAll.cons (f2.same S37).dp DpAll.nil)), rfl, rfl, _, rfl, ite_no (by rw [SeqAt.eqv_refl] <;> first | rfl | decide) ?_⟩
      -- the second test
      have S47 := S45.trans S57
      have S27 := S4.trans S47
      refine ⟨.ref D, rfl, v1, rfl, v2, rfl, D, acc, qs, v1, v2, rfl, S27 _ _ hD, af.same S27, hl12, hs, g1.same S47, g2.same S47, fun H8 s8 => ⟨true, rfl, iteF ?_⟩⟩
      refine ⟨v1, rfl, v1, true, rfl, FrV.isfr (g1.same (S47.trans s8)) (br.1.2.mono (by decide)), fun H9 s9 => ⟨true, true, rfl, rfl, _, rfl, iteNS rfl ?_⟩⟩
      refine ⟨v2, rfl, v2, true, rfl, FrV.isfr (g2.same (S47.trans (s8.trans s9))) (br.2.2.mono (by decide)), fun H10 s10 => ⟨true, true, rfl, rfl, _, rfl, iteNS rfl ?_⟩⟩
      have S2a := S27.trans (s8.trans (s9.trans s10))
      have ga := g1.same (S47.trans (s8.trans (s9.trans s10)))
      have hDa := S2a _ _ hD
      have afa := af.same S2a
      clear hD af s3 h3 f1 f2 s4 h4 g1 g2 S4 nR sR SR s5 h5 e1 e2 S45 S35 s6 S36 s7 S37 S57 S47 S27 s8 s9 s10 S2a
      -- the loop
      refine ⟨.ref D, rfl, .ref D, rfl, 1, rfl, D, acc, rfl, SqL.of hDa, fun C nC => ?_⟩
      have sC := same_upd (o := .lst (cutV acc (some 1) none)) nC
      refine ⟨D, C, acc, acc.drop 1, rfl, SqL.of (sC _ _ hDa), SqL.of (by rw [upd_same, drop_one]), ?_⟩
      have hlen2 : (acc.drop 1).length = acc.length - 1 := List.length_drop
      have bt : Rb 4000 (rsum qs) := br.1.mono (by decide)
      refine for_it (walk_zip (xs := acc) (ys := acc.drop 1) (n := acc.length - 1) (by omega)) (fun i σ H' => Same (upd H10 C (.lst (cutV acc (some 1) none))) H' ∧ ∃ y0 y1 y2 y3 y4 y5 y6 y7 y8, σ = [y0, y1, y2, y3, some v1, y4, y5, y6, y7, y8, none, none] ∨ ∃ y9 y10, σ = [y0, y1, y2, y3, some v1, y4, y5, y6, y7, y8, y9, y10])
        ⟨Same.refl _, _, _, _, _, _, _, _, _, _, .inl rfl⟩ (fun i σ H' _ h => ⟨h.1.seq (SqL.of (sC _ _ hDa)), h.1.seq (SqL.of (by rw [upd_same, drop_one]))⟩) (fun i x σ H' H'' hi h hy => ?_) (fun σ H' h => q _)
      obtain ⟨hSm, y0, y1, y2, y3, y4, y5, y6, y7, y8, hσ⟩ := h
      obtain ⟨y9, y10, rfl⟩ : ∃ y9 y10, σ = [y0, y1, y2, y3, some v1, y4, y5, y6, y7, y8, y9, y10] := by
        rcases hσ with rfl | h
        · exact ⟨none, none, rfl⟩
        · exact h
      obtain ⟨t, x1, x2, rfl, nt, rfl, hx1, hx2⟩ := hy
      have hx2' : acc[1 + i]? = some x2 := by
        rw [← List.getElem?_drop]
        exact hx2
      obtain ⟨r1, hr1, fr1⟩ := afa.get hx1
      obtain ⟨r2, hr2, fr2⟩ := afa.get hx2'
      have c1 := rs_get hs hr1
      have c2 := rs_get hs hr2
      have st := same_upd (o := .tup [x1, x2]) nt
      have SB := sC.trans (hSm.trans st)
      have k1 := fr1.same SB
      have k2 := fr2.same SB
      have kt := ga.same SB
      refine ⟨t, _, rfl, SqT.of upd_same, rfl, _, _, rfl, _, _, rfl, rfl, ?_⟩
      refine ⟨v1, rfl, x1, rfl, x2, rfl, x1, x2, r1, r2, rfl, k1, k2, c1.mono (by decide), c2.mono (by decide), trivial, fun Ha va za fa => ?_⟩
      refine ⟨v1, va, _, _, rfl, kt.same za, fa, bt, (c1.add c2).mono (by decide), trivial, fun Hb vb zb fb => ?_⟩
      have zB := za.trans zb
      refine ⟨v1, rfl, x1, rfl, v1, x1, _, r1, rfl, kt.same zB, k1.same zB, bt, c1.mono (by decide), trivial, fun Hc vc zc fc => ?_⟩
      have zC := zB.trans zc
      refine ⟨v1, rfl, x2, rfl, v1, x2, _, r2, rfl, kt.same zC, k2.same zC, bt, c2.mono (by decide), trivial, fun Hd vd zd fd' => ?_⟩
      refine ⟨vc, vd, _, _, rfl, fc.same zd, fd', (br.1.mul c1).mono (by decide), (br.1.mul c2).mono (by decide), trivial, fun He ve ze fe => ?_⟩
      have zE := zC.trans (zd.trans ze)
      have eE : rsum qs * r1 + rsum qs * r2 = rsum qs * (r1 + r2) := by grind
      replace fe : FrV He ve (rsum qs * (r1 + r2)) := by
        rw [← eE]
        exact fe
      replace fb : FrV He vb (rsum qs * (r1 + r2)) := fb.same (zc.trans (zd.trans ze))
      refine ⟨_, _, fb.dp, fe.dp, rfl, rfl, _, rfl, ite_no (by rw [SeqAt.eqv_refl] <;> first | rfl | decide) ?_⟩
      obtain ⟨px1, rfl, hq1⟩ := k1.same zE
      obtain ⟨px2, rfl, hq2⟩ := k2.same zE
      refine ⟨_, rfl, px1, _, 0, _, rfl, rfl, SqT.of hq1, rfl, _, rfl, px2, _, 1, _, rfl, rfl, SqT.of hq2, rfl, r1.num, (r2.den : Int), rfl, rfl, mulx_ok c1.1 c2.2 (by decide), ?_⟩
      refine ⟨_, rfl, px2, _, 0, _, rfl, rfl, SqT.of hq2, rfl, _, rfl, px1, _, 1, _, rfl, rfl, SqT.of hq1, rfl, r2.num, (r1.den : Int), rfl, rfl, mulx_ok c2.1 c1.2 (by decide), ?_⟩
      refine ⟨_, rfl, _, rfl, .ref px1, .ref px2, r1, r2, rfl, ⟨px1, rfl, hq1⟩, ⟨px2, rfl, hq2⟩, c1.mono (by decide), c2.mono (by decide), trivial, fun Hf vf zf ff => ?_⟩
      refine ⟨vf, _, rfl, ff, _, rfl, _, rfl, _, _, rfl, rfl, .inr ⟨_, rfl, _, rfl, _, rfl, _, _, rfl, rfl, .inr ⟨_, rfl, _, _, rfl, rfl, rfl, _, rfl, iteNS ?_ ?_⟩⟩⟩
      · exact congrArg V.int ((less_sign r1 r2).trans (sign_cmp _ _))
      · exact ⟨hSm.trans (st.trans (zE.trans zf)), _, _, _, _, _, _, _, _, _, .inr ⟨_, _, rfl⟩⟩
end

theorem all_mk {l : PySem.W.OpenLaw} {w : World} {K : PySem.W.Frag} {h : Heap} {mg : Str → Option Value} {fa : Addr} (X : K.In h) (G : h.Ns mainGlobals mg) (hfa : mg "law" = some (.ref fa))
    {f0 : Addr} {od0 an0 : Option Addr} {sl0 : Array (Option Value)} {oc0 kV0 dc0 pm0 cd0 ct0 : Value}
    (a0 : PySem.W.nsIn K mainGlobals "frac" = some (some (.ref f0))) (l0 : K.lookup f0 = some ⟨oc0, od0, .func (PySem.W.fnOf "frac" "frac" (defArgs s_frac) (defBody s_frac) (defScope s_frac) .none kV0 dc0 pm0 an0 cd0 ct0), sl0⟩) (c0 : PySem.W.codeIn K cd0 "frac" = true) (k0 : PySem.W.keepIn K (.ref f0) = true)
    {f1 : Addr} {od1 an1 : Option Addr} {sl1 : Array (Option Value)} {oc1 kV1 dc1 pm1 cd1 ct1 : Value}
    (a1 : PySem.W.nsIn K mainGlobals "plus" = some (some (.ref f1))) (l1 : K.lookup f1 = some ⟨oc1, od1, .func (PySem.W.fnOf "plus" "plus" (defArgs s_plus) (defBody s_plus) (defScope s_plus) .none kV1 dc1 pm1 an1 cd1 ct1), sl1⟩) (c1 : PySem.W.codeIn K cd1 "plus" = true) (k1 : PySem.W.keepIn K (.ref f1) = true)
    {f2 : Addr} {od2 an2 : Option Addr} {sl2 : Array (Option Value)} {oc2 kV2 dc2 pm2 cd2 ct2 : Value}
    (a2 : PySem.W.nsIn K mainGlobals "minus" = some (some (.ref f2))) (l2 : K.lookup f2 = some ⟨oc2, od2, .func (PySem.W.fnOf "minus" "minus" (defArgs s_minus) (defBody s_minus) (defScope s_minus) .none kV2 dc2 pm2 an2 cd2 ct2), sl2⟩) (c2 : PySem.W.codeIn K cd2 "minus" = true) (k2 : PySem.W.keepIn K (.ref f2) = true)
    {f3 : Addr} {od3 an3 : Option Addr} {sl3 : Array (Option Value)} {oc3 kV3 dc3 pm3 cd3 ct3 : Value}
    (a3 : PySem.W.nsIn K mainGlobals "times" = some (some (.ref f3))) (l3 : K.lookup f3 = some ⟨oc3, od3, .func (PySem.W.fnOf "times" "times" (defArgs s_times) (defBody s_times) (defScope s_times) .none kV3 dc3 pm3 an3 cd3 ct3), sl3⟩) (c3 : PySem.W.codeIn K cd3 "times" = true) (k3 : PySem.W.keepIn K (.ref f3) = true)
    {f4 : Addr} {od4 an4 : Option Addr} {sl4 : Array (Option Value)} {oc4 kV4 dc4 pm4 cd4 ct4 : Value}
    (a4 : PySem.W.nsIn K mainGlobals "over" = some (some (.ref f4))) (l4 : K.lookup f4 = some ⟨oc4, od4, .func (PySem.W.fnOf "over" "over" (defArgs s_over) (defBody s_over) (defScope s_over) .none kV4 dc4 pm4 an4 cd4 ct4), sl4⟩) (c4 : PySem.W.codeIn K cd4 "over" = true) (k4 : PySem.W.keepIn K (.ref f4) = true)
    {f5 : Addr} {od5 an5 : Option Addr} {sl5 : Array (Option Value)} {oc5 kV5 dc5 pm5 cd5 ct5 : Value}
    (a5 : PySem.W.nsIn K mainGlobals "sign" = some (some (.ref f5))) (l5 : K.lookup f5 = some ⟨oc5, od5, .func (PySem.W.fnOf "sign" "sign" (defArgs s_sign) (defBody s_sign) (defScope s_sign) .none kV5 dc5 pm5 an5 cd5 ct5), sl5⟩) (c5 : PySem.W.codeIn K cd5 "sign" = true) (k5 : PySem.W.keepIn K (.ref f5) = true)
    {f6 : Addr} {od6 an6 : Option Addr} {sl6 : Array (Option Value)} {oc6 kV6 dc6 pm6 cd6 ct6 : Value}
    (a6 : PySem.W.nsIn K mainGlobals "is_whole" = some (some (.ref f6))) (l6 : K.lookup f6 = some ⟨oc6, od6, .func (PySem.W.fnOf "is_whole" "is_whole" (defArgs s_is_whole) (defBody s_is_whole) (defScope s_is_whole) .none kV6 dc6 pm6 an6 cd6 ct6), sl6⟩) (c6 : PySem.W.codeIn K cd6 "is_whole" = true) (k6 : PySem.W.keepIn K (.ref f6) = true)
    {f7 : Addr} {od7 an7 : Option Addr} {sl7 : Array (Option Value)} {oc7 kV7 dc7 pm7 cd7 ct7 : Value}
    (a7 : PySem.W.nsIn K mainGlobals "is_fraction" = some (some (.ref f7))) (l7 : K.lookup f7 = some ⟨oc7, od7, .func (PySem.W.fnOf "is_fraction" "is_fraction" (defArgs s_is_fraction) (defBody s_is_fraction) (defScope s_is_fraction) .none kV7 dc7 pm7 an7 cd7 ct7), sl7⟩) (c7 : PySem.W.codeIn K cd7 "is_fraction" = true) (k7 : PySem.W.keepIn K (.ref f7) = true)
    {f8 : Addr} {od8 an8 : Option Addr} {sl8 : Array (Option Value)} {oc8 kV8 dc8 pm8 cd8 ct8 : Value}
    (a8 : PySem.W.nsIn K mainGlobals "_law_cell" = some (some (.ref f8))) (l8 : K.lookup f8 = some ⟨oc8, od8, .func (PySem.W.fnOf "_law_cell" "_law_cell" (defArgs s__law_cell) (defBody s__law_cell) (defScope s__law_cell) .none kV8 dc8 pm8 an8 cd8 ct8), sl8⟩) (c8 : PySem.W.codeIn K cd8 "_law_cell" = true) (k8 : PySem.W.keepIn K (.ref f8) = true)
    {f9 : Addr} {od9 an9 : Option Addr} {sl9 : Array (Option Value)} {oc9 kV9 dc9 pm9 cd9 ct9 : Value}
    (a9 : PySem.W.nsIn K mainGlobals "_law_mixed" = some (some (.ref f9))) (l9 : K.lookup f9 = some ⟨oc9, od9, .func (PySem.W.fnOf "_law_mixed" "_law_mixed" (defArgs s__law_mixed) (defBody s__law_mixed) (defScope s__law_mixed) .none kV9 dc9 pm9 an9 cd9 ct9), sl9⟩) (c9 : PySem.W.codeIn K cd9 "_law_mixed" = true) (k9 : PySem.W.keepIn K (.ref f9) = true)
    {f10 : Addr} {od10 an10 : Option Addr} {sl10 : Array (Option Value)} {oc10 kV10 dc10 pm10 cd10 ct10 : Value}
    (a10 : PySem.W.nsIn K mainGlobals "_law_deck" = some (some (.ref f10))) (l10 : K.lookup f10 = some ⟨oc10, od10, .func (PySem.W.fnOf "_law_deck" "_law_deck" (defArgs s__law_deck) (defBody s__law_deck) (defScope s__law_deck) .none kV10 dc10 pm10 an10 cd10 ct10), sl10⟩) (c10 : PySem.W.codeIn K cd10 "_law_deck" = true) (k10 : PySem.W.keepIn K (.ref f10) = true)
    {f11 : Addr} {od11 an11 : Option Addr} {sl11 : Array (Option Value)} {oc11 kV11 dc11 pm11 cd11 ct11 : Value}
    (a11 : PySem.W.nsIn K mainGlobals "_law_take" = some (some (.ref f11))) (l11 : K.lookup f11 = some ⟨oc11, od11, .func (PySem.W.fnOf "_law_take" "_law_take" (defArgs s__law_take) (defBody s__law_take) (defScope s__law_take) .none kV11 dc11 pm11 an11 cd11 ct11), sl11⟩) (c11 : PySem.W.codeIn K cd11 "_law_take" = true) (k11 : PySem.W.keepIn K (.ref f11) = true)
    {f12 : Addr} {od12 an12 : Option Addr} {sl12 : Array (Option Value)} {oc12 kV12 dc12 pm12 cd12 ct12 : Value}
    (a12 : PySem.W.nsIn K mainGlobals "_law_gcd" = some (some (.ref f12))) (l12 : K.lookup f12 = some ⟨oc12, od12, .func (PySem.W.fnOf "_law_gcd" "_law_gcd" (defArgs s__law_gcd) (defBody s__law_gcd) (defScope s__law_gcd) .none kV12 dc12 pm12 an12 cd12 ct12), sl12⟩) (c12 : PySem.W.codeIn K cd12 "_law_gcd" = true) (k12 : PySem.W.keepIn K (.ref f12) = true)
    {f13 : Addr} {od13 an13 : Option Addr} {sl13 : Array (Option Value)} {oc13 kV13 dc13 pm13 cd13 ct13 : Value}
    (a13 : PySem.W.nsIn K mainGlobals "_law_share" = some (some (.ref f13))) (l13 : K.lookup f13 = some ⟨oc13, od13, .func (PySem.W.fnOf "_law_share" "_law_share" (defArgs s__law_share) (defBody s__law_share) (defScope s__law_share) .none kV13 dc13 pm13 an13 cd13 ct13), sl13⟩) (c13 : PySem.W.codeIn K cd13 "_law_share" = true) (k13 : PySem.W.keepIn K (.ref f13) = true)
    {f14 : Addr} {od14 an14 : Option Addr} {sl14 : Array (Option Value)} {oc14 kV14 dc14 pm14 cd14 ct14 : Value}
    (a14 : PySem.W.nsIn K mainGlobals "_law_plus" = some (some (.ref f14))) (l14 : K.lookup f14 = some ⟨oc14, od14, .func (PySem.W.fnOf "_law_plus" "_law_plus" (defArgs s__law_plus) (defBody s__law_plus) (defScope s__law_plus) .none kV14 dc14 pm14 an14 cd14 ct14), sl14⟩) (c14 : PySem.W.codeIn K cd14 "_law_plus" = true) (k14 : PySem.W.keepIn K (.ref f14) = true)
    {f15 : Addr} {od15 an15 : Option Addr} {sl15 : Array (Option Value)} {oc15 kV15 dc15 pm15 cd15 ct15 : Value}
    (a15 : PySem.W.nsIn K mainGlobals "_law_times" = some (some (.ref f15))) (l15 : K.lookup f15 = some ⟨oc15, od15, .func (PySem.W.fnOf "_law_times" "_law_times" (defArgs s__law_times) (defBody s__law_times) (defScope s__law_times) .none kV15 dc15 pm15 an15 cd15 ct15), sl15⟩) (c15 : PySem.W.codeIn K cd15 "_law_times" = true) (k15 : PySem.W.keepIn K (.ref f15) = true)
    {f16 : Addr} {od16 an16 : Option Addr} {sl16 : Array (Option Value)} {oc16 kV16 dc16 pm16 cd16 ct16 : Value}
    (a16 : PySem.W.nsIn K mainGlobals "_law_figures" = some (some (.ref f16))) (l16 : K.lookup f16 = some ⟨oc16, od16, .func (PySem.W.fnOf "_law_figures" "_law_figures" (defArgs s__law_figures) (defBody s__law_figures) (defScope s__law_figures) .none kV16 dc16 pm16 an16 cd16 ct16), sl16⟩) (c16 : PySem.W.codeIn K cd16 "_law_figures" = true) (k16 : PySem.W.keepIn K (.ref f16) = true)
    {f17 : Addr} {od17 an17 : Option Addr} {sl17 : Array (Option Value)} {oc17 kV17 dc17 pm17 cd17 ct17 : Value}
    (a17 : PySem.W.nsIn K mainGlobals "_law_fraction" = some (some (.ref f17))) (l17 : K.lookup f17 = some ⟨oc17, od17, .func (PySem.W.fnOf "_law_fraction" "_law_fraction" (defArgs s__law_fraction) (defBody s__law_fraction) (defScope s__law_fraction) .none kV17 dc17 pm17 an17 cd17 ct17), sl17⟩) (c17 : PySem.W.codeIn K cd17 "_law_fraction" = true) (k17 : PySem.W.keepIn K (.ref f17) = true)
    {f18 : Addr} {od18 an18 : Option Addr} {sl18 : Array (Option Value)} {oc18 kV18 dc18 pm18 cd18 ct18 : Value}
    (a18 : PySem.W.nsIn K mainGlobals "_law_is" = some (some (.ref f18))) (l18 : K.lookup f18 = some ⟨oc18, od18, .func (PySem.W.fnOf "_law_is" "_law_is" (defArgs s__law_is) (defBody s__law_is) (defScope s__law_is) .none kV18 dc18 pm18 an18 cd18 ct18), sl18⟩) (c18 : PySem.W.codeIn K cd18 "_law_is" = true) (k18 : PySem.W.keepIn K (.ref f18) = true)
    {f19 : Addr} {od19 an19 : Option Addr} {sl19 : Array (Option Value)} {oc19 kV19 dc19 pm19 cd19 ct19 : Value}
    (a19 : PySem.W.nsIn K mainGlobals "_law_sums" = some (some (.ref f19))) (l19 : K.lookup f19 = some ⟨oc19, od19, .func (PySem.W.fnOf "_law_sums" "_law_sums" (defArgs s__law_sums) (defBody s__law_sums) (defScope s__law_sums) .none kV19 dc19 pm19 an19 cd19 ct19), sl19⟩) (c19 : PySem.W.codeIn K cd19 "_law_sums" = true) (k19 : PySem.W.keepIn K (.ref f19) = true)
    {f20 : Addr} {od20 an20 : Option Addr} {sl20 : Array (Option Value)} {oc20 kV20 dc20 pm20 cd20 ct20 : Value}
    (a20 : PySem.W.nsIn K mainGlobals "_law_due" = some (some (.ref f20))) (l20 : K.lookup f20 = some ⟨oc20, od20, .func (PySem.W.fnOf "_law_due" "_law_due" (defArgs s__law_due) (defBody s__law_due) (defScope s__law_due) .none kV20 dc20 pm20 an20 cd20 ct20), sl20⟩) (c20 : PySem.W.codeIn K cd20 "_law_due" = true) (k20 : PySem.W.keepIn K (.ref f20) = true)
    {f21 : Addr} {od21 an21 : Option Addr} {sl21 : Array (Option Value)} {oc21 kV21 dc21 pm21 cd21 ct21 : Value}
    (a21 : PySem.W.nsIn K mainGlobals "_law_undone" = some (some (.ref f21))) (l21 : K.lookup f21 = some ⟨oc21, od21, .func (PySem.W.fnOf "_law_undone" "_law_undone" (defArgs s__law_undone) (defBody s__law_undone) (defScope s__law_undone) .none kV21 dc21 pm21 an21 cd21 ct21), sl21⟩) (c21 : PySem.W.codeIn K cd21 "_law_undone" = true) (k21 : PySem.W.keepIn K (.ref f21) = true)
    {f22 : Addr} {od22 an22 : Option Addr} {sl22 : Array (Option Value)} {oc22 kV22 dc22 pm22 cd22 ct22 : Value}
    (a22 : PySem.W.nsIn K mainGlobals "law" = some (some (.ref f22))) (l22 : K.lookup f22 = some ⟨oc22, od22, .func (PySem.W.fnOf "law" "law" (defArgs s_law) (defBody s_law) (defScope s_law) .none kV22 dc22 pm22 an22 cd22 ct22), sl22⟩) (c22 : PySem.W.codeIn K cd22 "law" = true) (k22 : PySem.W.keepIn K (.ref f22) = true)
    (z0 : PySem.W.nsIn K mainGlobals "abs" = some none)
    (z1 : PySem.W.nsIn K mainGlobals "bool" = some none)
    (z2 : PySem.W.nsIn K mainGlobals "int" = some none)
    (z3 : PySem.W.nsIn K mainGlobals "isinstance" = some none)
    (z4 : PySem.W.nsIn K mainGlobals "len" = some none)
    (z5 : PySem.W.nsIn K mainGlobals "max" = some none)
    (z6 : PySem.W.nsIn K mainGlobals "min" = some none)
    (z7 : PySem.W.nsIn K mainGlobals "range" = some none)
    (z8 : PySem.W.nsIn K mainGlobals "tuple" = some none)
    (z9 : PySem.W.nsIn K mainGlobals "zip" = some none)
    : ∃ fd : FuncData, (∀ (s : Shared) (v : Value), BindsTo s fd ⟨[v], []⟩ [("_law_script", v)]) ∧ ∀ base : Heap, K.In base → base.Ns mainGlobals mg → FnOk l.prog w K mg base CX0 6 fa fd ["_law_script"] (sp_law K) := by
  have e := hfa.symm.trans (PySem.W.mg_of X G a22)
  cases e
  have F0 := fun_mk (st := s_frac) l0 c0 k0
  have b0 := F0.binds (ps := ["above", "below"]) fun _ _ _ _ _ _ us hl => match us, hl with | [_, _], _ => rfl
  have F1 := fun_mk (st := s_plus) l1 c1 k1
  have b1 := F1.binds (ps := ["one", "other"]) fun _ _ _ _ _ _ us hl => match us, hl with | [_, _], _ => rfl
  have F2 := fun_mk (st := s_minus) l2 c2 k2
  have b2 := F2.binds (ps := ["one", "other"]) fun _ _ _ _ _ _ us hl => match us, hl with | [_, _], _ => rfl
  have F3 := fun_mk (st := s_times) l3 c3 k3
  have b3 := F3.binds (ps := ["one", "other"]) fun _ _ _ _ _ _ us hl => match us, hl with | [_, _], _ => rfl
  have F4 := fun_mk (st := s_over) l4 c4 k4
  have b4 := F4.binds (ps := ["one", "other"]) fun _ _ _ _ _ _ us hl => match us, hl with | [_, _], _ => rfl
  have F5 := fun_mk (st := s_sign) l5 c5 k5
  have b5 := F5.binds (ps := ["one"]) fun _ _ _ _ _ _ us hl => match us, hl with | [_], _ => rfl
  have F6 := fun_mk (st := s_is_whole) l6 c6 k6
  have b6 := F6.binds (ps := ["thing"]) fun _ _ _ _ _ _ us hl => match us, hl with | [_], _ => rfl
  have F7 := fun_mk (st := s_is_fraction) l7 c7 k7
  have b7 := F7.binds (ps := ["thing"]) fun _ _ _ _ _ _ us hl => match us, hl with | [_], _ => rfl
  have F8 := fun_mk (st := s__law_cell) l8 c8 k8
  have b8 := F8.binds (ps := ["_law_script", "_law_k"]) fun _ _ _ _ _ _ us hl => match us, hl with | [_, _], _ => rfl
  have F9 := fun_mk (st := s__law_mixed) l9 c9 k9
  have b9 := F9.binds (ps := ["_law_script", "_law_k", "_law_many"]) fun _ _ _ _ _ _ us hl => match us, hl with | [_, _, _], _ => rfl
  have F10 := fun_mk (st := s__law_deck) l10 c10 k10
  have b10 := F10.binds (ps := ["_law_script"]) fun _ _ _ _ _ _ us hl => match us, hl with | [_], _ => rfl
  have F11 := fun_mk (st := s__law_take) l11 c11 k11
  have b11 := F11.binds (ps := ["_law_deck_here", "_law_many"]) fun _ _ _ _ _ _ us hl => match us, hl with | [_, _], _ => rfl
  have F12 := fun_mk (st := s__law_gcd) l12 c12 k12
  have b12 := F12.binds (ps := ["_law_one", "_law_other"]) fun _ _ _ _ _ _ us hl => match us, hl with | [_, _], _ => rfl
  have F13 := fun_mk (st := s__law_share) l13 c13 k13
  have b13 := F13.binds (ps := ["_law_top", "_law_bottom"]) fun _ _ _ _ _ _ us hl => match us, hl with | [_, _], _ => rfl
  have F14 := fun_mk (st := s__law_plus) l14 c14 k14
  have b14 := F14.binds (ps := ["_law_one", "_law_other"]) fun _ _ _ _ _ _ us hl => match us, hl with | [_, _], _ => rfl
  have F15 := fun_mk (st := s__law_times) l15 c15 k15
  have b15 := F15.binds (ps := ["_law_one", "_law_other"]) fun _ _ _ _ _ _ us hl => match us, hl with | [_, _], _ => rfl
  have F16 := fun_mk (st := s__law_figures) l16 c16 k16
  have b16 := F16.binds (ps := ["_law_deck_here"]) fun _ _ _ _ _ _ us hl => match us, hl with | [_], _ => rfl
  have F17 := fun_mk (st := s__law_fraction) l17 c17 k17
  have b17 := F17.binds (ps := ["_law_deck_here"]) fun _ _ _ _ _ _ us hl => match us, hl with | [_], _ => rfl
  have F18 := fun_mk (st := s__law_is) l18 c18 k18
  have b18 := F18.binds (ps := ["_law_found", "_law_due_here"]) fun _ _ _ _ _ _ us hl => match us, hl with | [_, _], _ => rfl
  have F19 := fun_mk (st := s__law_sums) l19 c19 k19
  have b19 := F19.binds (ps := ["_law_row"]) fun _ _ _ _ _ _ us hl => match us, hl with | [_], _ => rfl
  have F20 := fun_mk (st := s__law_due) l20 c20 k20
  have b20 := F20.binds (ps := ["_law_row"]) fun _ _ _ _ _ _ us hl => match us, hl with | [_], _ => rfl
  have F21 := fun_mk (st := s__law_undone) l21 c21 k21
  have b21 := F21.binds (ps := ["_law_row", "_law_total", "_law_product"]) fun _ _ _ _ _ _ us hl => match us, hl with | [_, _, _], _ => rfl
  have F22 := fun_mk (st := s_law) l22 c22 k22
  have T : Tx K mg := ⟨f0, _, F0, b0, PySem.W.mg_of X G a0, f1, _, F1, b1, PySem.W.mg_of X G a1, f2, _, F2, b2, PySem.W.mg_of X G a2, f3, _, F3, b3, PySem.W.mg_of X G a3, f4, _, F4, b4, PySem.W.mg_of X G a4, f5, _, F5, b5, PySem.W.mg_of X G a5, f6, _, F6, b6, PySem.W.mg_of X G a6, f7, _, F7, b7, PySem.W.mg_of X G a7, f8, _, F8, b8, PySem.W.mg_of X G a8, f9, _, F9, b9, PySem.W.mg_of X G a9, f10, _, F10, b10, PySem.W.mg_of X G a10, f11, _, F11, b11, PySem.W.mg_of X G a11, f12, _, F12, b12, PySem.W.mg_of X G a12, f13, _, F13, b13, PySem.W.mg_of X G a13, f14, _, F14, b14, PySem.W.mg_of X G a14, f15, _, F15, b15, PySem.W.mg_of X G a15, f16, _, F16, b16, PySem.W.mg_of X G a16, f17, _, F17, b17, PySem.W.mg_of X G a17, f18, _, F18, b18, PySem.W.mg_of X G a18, f19, _, F19, b19, PySem.W.mg_of X G a19, f20, _, F20, b20, PySem.W.mg_of X G a20, f21, _, F21, b21, PySem.W.mg_of X G a21, PySem.W.mg_none_of X G z0, PySem.W.mg_none_of X G z1, PySem.W.mg_none_of X G z2, PySem.W.mg_none_of X G z3, PySem.W.mg_none_of X G z4, PySem.W.mg_none_of X G z5, PySem.W.mg_none_of X G z6, PySem.W.mg_none_of X G z7, PySem.W.mg_none_of X G z8, PySem.W.mg_none_of X G z9⟩
  exact ⟨PySem.W.fnOf "law" "law" (defArgs s_law) (defBody s_law) (defScope s_law) .none kV22 dc22 pm22 an22 cd22 ct22, fun s v => .of_eq rfl, fun base _ _ => ok_law F22 T⟩
end Sc
open PySem PySem.W PyProof.Rows
set_option maxHeartbeats 0 in
theorem PySem.Challenge.cw_scenetongue_k07_whole_fractions_agree_holds : PySem.Challenge.rw_scenetongue_k07_whole_fractions_agree.Holds := by
  w_on; o_law; k_head; (case hw => w_witness2)
  k_fill
  refine L2.walk_of (l := PySem.Challenge.rw_scenetongue_k07_whole_fractions_agree) (n := 63) (k := 6) (x := "_law_script") (CX := fun _ => L2.CX0) (sp := fun w => Sc.sp_law _) rfl (by decide) rfl ⟨rfl, by decide, by decide⟩ (fun w h Y => PySem.W.kIn_of Y) ?F (fun _ _ a ns hl _ hS => ⟨a, ns, rfl, hS, hl, fun _ => rfl⟩) (fun _ _ _ _ _ h => h)
  case F =>
    intro w mg fa h KX G hmg
    refine' Sc.all_mk KX G hmg ?a0 ?l0 ?c0 ?k0 ?a1 ?l1 ?c1 ?k1 ?a2 ?l2 ?c2 ?k2 ?a3 ?l3 ?c3 ?k3 ?a4 ?l4 ?c4 ?k4 ?a5 ?l5 ?c5 ?k5 ?a6 ?l6 ?c6 ?k6 ?a7 ?l7 ?c7 ?k7 ?a8 ?l8 ?c8 ?k8 ?a9 ?l9 ?c9 ?k9 ?a10 ?l10 ?c10 ?k10 ?a11 ?l11 ?c11 ?k11 ?a12 ?l12 ?c12 ?k12 ?a13 ?l13 ?c13 ?k13 ?a14 ?l14 ?c14 ?k14 ?a15 ?l15 ?c15 ?k15 ?a16 ?l16 ?c16 ?k16 ?a17 ?l17 ?c17 ?k17 ?a18 ?l18 ?c18 ?k18 ?a19 ?l19 ?c19 ?k19 ?a20 ?l20 ?c20 ?k20 ?a21 ?l21 ?c21 ?k21 ?a22 ?l22 ?c22 ?k22 ?z0 ?z1 ?z2 ?z3 ?z4 ?z5 ?z6 ?z7 ?z8 ?z9
    (case a0 => k_is); (case l0 => k_is); (case c0 => k_is); (case k0 => k_is); (case a1 => k_is); (case l1 => k_is); (case c1 => k_is); (case k1 => k_is); (case a2 => k_is); (case l2 => k_is); (case c2 => k_is); (case k2 => k_is); (case a3 => k_is); (case l3 => k_is); (case c3 => k_is); (case k3 => k_is); (case a4 => k_is); (case l4 => k_is); (case c4 => k_is); (case k4 => k_is); (case a5 => k_is); (case l5 => k_is); (case c5 => k_is); (case k5 => k_is); (case a6 => k_is); (case l6 => k_is); (case c6 => k_is); (case k6 => k_is); (case a7 => k_is); (case l7 => k_is); (case c7 => k_is); (case k7 => k_is); (case a8 => k_is); (case l8 => k_is); (case c8 => k_is); (case k8 => k_is); (case a9 => k_is); (case l9 => k_is); (case c9 => k_is); (case k9 => k_is); (case a10 => k_is); (case l10 => k_is); (case c10 => k_is); (case k10 => k_is); (case a11 => k_is); (case l11 => k_is); (case c11 => k_is); (case k11 => k_is); (case a12 => k_is); (case l12 => k_is); (case c12 => k_is); (case k12 => k_is); (case a13 => k_is); (case l13 => k_is); (case c13 => k_is); (case k13 => k_is); (case a14 => k_is); (case l14 => k_is); (case c14 => k_is); (case k14 => k_is); (case a15 => k_is); (case l15 => k_is); (case c15 => k_is); (case k15 => k_is); (case a16 => k_is); (case l16 => k_is); (case c16 => k_is); (case k16 => k_is); (case a17 => k_is); (case l17 => k_is); (case c17 => k_is); (case k17 => k_is); (case a18 => k_is); (case l18 => k_is); (case c18 => k_is); (case k18 => k_is); (case a19 => k_is); (case l19 => k_is); (case c19 => k_is); (case k19 => k_is); (case a20 => k_is); (case l20 => k_is); (case c20 => k_is); (case k20 => k_is); (case a21 => k_is); (case l21 => k_is); (case c21 => k_is); (case k21 => k_is); (case a22 => k_is); (case l22 => k_is); (case c22 => k_is); (case k22 => k_is); (case z0 => k_is); (case z1 => k_is); (case z2 => k_is); (case z3 => k_is); (case z4 => k_is); (case z5 => k_is); (case z6 => k_is); (case z7 => k_is); (case z8 => k_is); (case z9 => k_is)
