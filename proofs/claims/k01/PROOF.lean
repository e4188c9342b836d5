import PyProof.Rows.All
import Wide.All
import OpenK.AllK
import Wide.FinOn
import HandS.ForMost
import HandS.Wide
import HandS.WideBits
import HandS.IsInst
import HandS.Walk
import HandS.Zip
import HandS.Style
import PySem.Challenge.RW_scenetongue_k01_fractions_made
set_option Elab.async false
set_option linter.all false
set_option maxRecDepth 100000
set_option maxHeartbeats 4000000

namespace Sc
open PySem PySem.Spec PyProof.Rows L2

def topS (i : Nat) : Stmt := PySem.Challenge.pw_scenetongue_k01_fractions_made.main.body.getD i (.Pass ⟨0, 0, 0, 0⟩)
abbrev s_frac : Stmt := topS 1
abbrev nm_frac : List Str := ["above", "below", "shared", "rest"]
theorem sc_frac : FnScope nm_frac ["above", "below"] (defScope s_frac) := ⟨rfl, rfl, rfl, by decide +kernel, rfl, by decide +kernel, by decide +kernel⟩
abbrev s_is_whole : Stmt := topS 2
abbrev nm_is_whole : List Str := ["thing"]
theorem sc_is_whole : FnScope nm_is_whole ["thing"] (defScope s_is_whole) := ⟨rfl, rfl, rfl, by decide +kernel, rfl, by decide +kernel, by decide +kernel⟩
abbrev s_is_fraction : Stmt := topS 3
abbrev nm_is_fraction : List Str := ["thing", "above", "below"]
theorem sc_is_fraction : FnScope nm_is_fraction ["thing"] (defScope s_is_fraction) := ⟨rfl, rfl, rfl, by decide +kernel, rfl, by decide +kernel, by decide +kernel⟩
abbrev s__law_cell : Stmt := topS 5
abbrev nm__law_cell : List Str := ["_law_script", "_law_k"]
theorem sc__law_cell : FnScope nm__law_cell ["_law_script", "_law_k"] (defScope s__law_cell) := ⟨rfl, rfl, rfl, by decide +kernel, rfl, by decide +kernel, by decide +kernel⟩
abbrev s__law_mixed : Stmt := topS 6
abbrev nm__law_mixed : List Str := ["_law_script", "_law_k", "_law_many", "_law_number"]
theorem sc__law_mixed : FnScope nm__law_mixed ["_law_script", "_law_k", "_law_many"] (defScope s__law_mixed) := ⟨rfl, rfl, rfl, by decide +kernel, rfl, by decide +kernel, by decide +kernel⟩
abbrev s__law_deck : Stmt := topS 7
abbrev nm__law_deck : List Str := ["_law_script", "_law_part"]
theorem sc__law_deck : FnScope nm__law_deck ["_law_script"] (defScope s__law_deck) := ⟨rfl, rfl, rfl, by decide +kernel, rfl, by decide +kernel, by decide +kernel⟩
abbrev s__law_take : Stmt := topS 8
abbrev nm__law_take : List Str := ["_law_deck_here", "_law_many", "_law_part"]
theorem sc__law_take : FnScope nm__law_take ["_law_deck_here", "_law_many"] (defScope s__law_take) := ⟨rfl, rfl, rfl, by decide +kernel, rfl, by decide +kernel, by decide +kernel⟩
abbrev s__law_gcd : Stmt := topS 9
abbrev nm__law_gcd : List Str := ["_law_one", "_law_other"]
theorem sc__law_gcd : FnScope nm__law_gcd ["_law_one", "_law_other"] (defScope s__law_gcd) := ⟨rfl, rfl, rfl, by decide +kernel, rfl, by decide +kernel, by decide +kernel⟩
abbrev s__law_share : Stmt := topS 10
abbrev nm__law_share : List Str := ["_law_top", "_law_bottom", "_law_part"]
theorem sc__law_share : FnScope nm__law_share ["_law_top", "_law_bottom"] (defScope s__law_share) := ⟨rfl, rfl, rfl, by decide +kernel, rfl, by decide +kernel, by decide +kernel⟩
abbrev s__law_figures : Stmt := topS 11
abbrev nm__law_figures : List Str := ["_law_deck_here", "_law_kind"]
theorem sc__law_figures : FnScope nm__law_figures ["_law_deck_here"] (defScope s__law_figures) := ⟨rfl, rfl, rfl, by decide +kernel, rfl, by decide +kernel, by decide +kernel⟩
abbrev s__law_is : Stmt := topS 12
abbrev nm__law_is : List Str := ["_law_found", "_law_due", "_law_part"]
theorem sc__law_is : FnScope nm__law_is ["_law_found", "_law_due"] (defScope s__law_is) := ⟨rfl, rfl, rfl, by decide +kernel, rfl, by decide +kernel, by decide +kernel⟩
abbrev s__law_good : Stmt := topS 13
abbrev nm__law_good : List Str := ["_law_thing", "_law_part"]
theorem sc__law_good : FnScope nm__law_good ["_law_thing"] (defScope s__law_good) := ⟨rfl, rfl, rfl, by decide +kernel, rfl, by decide +kernel, by decide +kernel⟩
abbrev s__law_things : Stmt := topS 14
abbrev nm__law_things : List Str := ["_law_deck_here", "_law_one", "_law_top", "_law_bottom", "_law_part", "_law_some", "_law_at"]
theorem sc__law_things : FnScope nm__law_things ["_law_deck_here", "_law_one"] (defScope s__law_things) := ⟨rfl, rfl, rfl, by decide +kernel, rfl, by decide +kernel, by decide +kernel⟩
abbrev s_law : Stmt := topS 15
abbrev nm_law : List Str := ["_law_script", "_law_deck_here", "_law_many", "_law_turn", "_law_top", "_law_bottom", "_law_due", "_law_thing", "_law_found"]
theorem sc_law : FnScope nm_law ["_law_script"] (defScope s_law) := ⟨rfl, rfl, rfl, by decide +kernel, rfl, by decide +kernel, by decide +kernel⟩
structure Tx (K : PySem.W.Frag) (mg : Str → Option Value) where
  f_frac : Addr
  d_frac : FuncData
  F_frac : Fun K "frac" "frac" s_frac f_frac d_frac
  b_frac : Binds K d_frac ["above", "below"] []
  g_frac : mg "frac" = some (.ref f_frac)
  f_is_whole : Addr
  d_is_whole : FuncData
  F_is_whole : Fun K "is_whole" "is_whole" s_is_whole f_is_whole d_is_whole
  b_is_whole : Binds K d_is_whole ["thing"] []
  g_is_whole : mg "is_whole" = some (.ref f_is_whole)
  f_is_fraction : Addr
  d_is_fraction : FuncData
  F_is_fraction : Fun K "is_fraction" "is_fraction" s_is_fraction f_is_fraction d_is_fraction
  b_is_fraction : Binds K d_is_fraction ["thing"] []
  g_is_fraction : mg "is_fraction" = some (.ref f_is_fraction)
  f__law_cell : Addr
  d__law_cell : FuncData
  F__law_cell : Fun K "_law_cell" "_law_cell" s__law_cell f__law_cell d__law_cell
  b__law_cell : Binds K d__law_cell ["_law_script", "_law_k"] []
  g__law_cell : mg "_law_cell" = some (.ref f__law_cell)
  f__law_mixed : Addr
  d__law_mixed : FuncData
  F__law_mixed : Fun K "_law_mixed" "_law_mixed" s__law_mixed f__law_mixed d__law_mixed
  b__law_mixed : Binds K d__law_mixed ["_law_script", "_law_k", "_law_many"] []
  g__law_mixed : mg "_law_mixed" = some (.ref f__law_mixed)
  f__law_deck : Addr
  d__law_deck : FuncData
  F__law_deck : Fun K "_law_deck" "_law_deck" s__law_deck f__law_deck d__law_deck
  b__law_deck : Binds K d__law_deck ["_law_script"] []
  g__law_deck : mg "_law_deck" = some (.ref f__law_deck)
  f__law_take : Addr
  d__law_take : FuncData
  F__law_take : Fun K "_law_take" "_law_take" s__law_take f__law_take d__law_take
  b__law_take : Binds K d__law_take ["_law_deck_here", "_law_many"] []
  g__law_take : mg "_law_take" = some (.ref f__law_take)
  f__law_gcd : Addr
  d__law_gcd : FuncData
  F__law_gcd : Fun K "_law_gcd" "_law_gcd" s__law_gcd f__law_gcd d__law_gcd
  b__law_gcd : Binds K d__law_gcd ["_law_one", "_law_other"] []
  g__law_gcd : mg "_law_gcd" = some (.ref f__law_gcd)
  f__law_share : Addr
  d__law_share : FuncData
  F__law_share : Fun K "_law_share" "_law_share" s__law_share f__law_share d__law_share
  b__law_share : Binds K d__law_share ["_law_top", "_law_bottom"] []
  g__law_share : mg "_law_share" = some (.ref f__law_share)
  f__law_figures : Addr
  d__law_figures : FuncData
  F__law_figures : Fun K "_law_figures" "_law_figures" s__law_figures f__law_figures d__law_figures
  b__law_figures : Binds K d__law_figures ["_law_deck_here"] []
  g__law_figures : mg "_law_figures" = some (.ref f__law_figures)
  f__law_is : Addr
  d__law_is : FuncData
  F__law_is : Fun K "_law_is" "_law_is" s__law_is f__law_is d__law_is
  b__law_is : Binds K d__law_is ["_law_found", "_law_due"] []
  g__law_is : mg "_law_is" = some (.ref f__law_is)
  f__law_good : Addr
  d__law_good : FuncData
  F__law_good : Fun K "_law_good" "_law_good" s__law_good f__law_good d__law_good
  b__law_good : Binds K d__law_good ["_law_thing"] []
  g__law_good : mg "_law_good" = some (.ref f__law_good)
  f__law_things : Addr
  d__law_things : FuncData
  F__law_things : Fun K "_law_things" "_law_things" s__law_things f__law_things d__law_things
  b__law_things : Binds K d__law_things ["_law_deck_here", "_law_one"] []
  g__law_things : mg "_law_things" = some (.ref f__law_things)
  m_abs : mg "abs" = none
  m_bool : mg "bool" = none
  m_int : mg "int" = none
  m_isinstance : mg "isinstance" = none
  m_len : mg "len" = none
  m_range : mg "range" = none
  m_str : mg "str" = none
  m_tuple : mg "tuple" = none

/-- the greatest common divisor with the sign of b -/
def sg (a b : Int) : Int := if b < 0 then -(Int.gcd a b : Int) else (Int.gcd a b : Int)
/-- the loop of frac between two turns -/
def GInv (a b x y : Int) : Prop := Int.gcd x y = Int.gcd a b ∧ ((0 < b ∧ 0 ≤ y ∧ y < x ∧ x ≤ b) ∨ (b < 0 ∧ y ≤ 0 ∧ x < y ∧ b ≤ x))
theorem gcd_step (x y : Int) : Int.gcd y (x.fmod y) = Int.gcd x y := by
  rw [Int.fmod_def, Int.mul_comm, Int.gcd_sub_mul_right_right, Int.gcd_comm]
theorem fmod_pos {x y : Int} (h : 0 < y) : 0 ≤ x.fmod y ∧ x.fmod y < y := ⟨Int.fmod_nonneg_of_pos x h, Int.fmod_lt_of_pos x h⟩
theorem fmod_neg {x y : Int} (h : y < 0) : x.fmod y ≤ 0 ∧ y < x.fmod y := by
  have h' : 0 < -y := by omega
  have e := Int.neg_fmod_neg (-x) (-y)
  rw [Int.neg_neg, Int.neg_neg] at e
  have h1 := Int.fmod_nonneg_of_pos (-x) h'
  have h2 := Int.fmod_lt_of_pos (-x) h'
  omega
theorem GInv.start {a b : Int} (hb : b ≠ 0) : GInv a b b (a.fmod b) := by
  refine ⟨gcd_step a b, ?_⟩
  by_cases hp : 0 < b
  · have := @fmod_pos a b hp
    exact .inl ⟨hp, by omega, by omega, Int.le_refl _⟩
  · have hn : b < 0 := by omega
    have := @fmod_neg a b hn
    exact .inr ⟨hn, by omega, by omega, Int.le_refl _⟩
theorem GInv.next {a b x y : Int} (h : GInv a b x y) (hy : y ≠ 0) : GInv a b y (x.fmod y) ∧ (x.fmod y).natAbs < y.natAbs := by
  obtain ⟨hg, hs⟩ := h
  rcases hs with ⟨h1, h2, h3, h4⟩ | ⟨h1, h2, h3, h4⟩
  · have f := @fmod_pos x y (by omega)
    exact ⟨⟨by rw [gcd_step, hg], .inl ⟨h1, by omega, by omega, by omega⟩⟩, by omega⟩
  · have f := @fmod_neg x y (by omega)
    exact ⟨⟨by rw [gcd_step, hg], .inr ⟨h1, by omega, by omega, by omega⟩⟩, by omega⟩
theorem GInv.fin {a b x : Int} (h : GInv a b x 0) : x = sg a b := by
  obtain ⟨hg, hs⟩ := h
  rw [Int.gcd_zero_right] at hg
  unfold sg
  rw [← hg]
  split <;> omega
theorem GInv.ne {a b x y : Int} (h : GInv a b x y) : x ≠ 0 ∧ x.natAbs ≤ b.natAbs := by
  obtain ⟨hg, hs⟩ := h
  omega
/-- the law's own: without signs -/
def HInv (a b x y : Int) : Prop := Int.gcd x y = Int.gcd a b ∧ 0 ≤ x ∧ 0 ≤ y
theorem HInv.next {a b x y : Int} (h : HInv a b x y) (hy : 0 < y) : HInv a b y (x.fmod y) ∧ (x.fmod y).natAbs < y.natAbs := by
  obtain ⟨hg, hx, _⟩ := h
  have f := @fmod_pos x y hy
  exact ⟨⟨by rw [gcd_step, hg], by omega, f.1⟩, by omega⟩
theorem HInv.fin {a b x y : Int} (h : HInv a b x y) (hy : ¬ 0 < y) : x = (Int.gcd a b : Int) := by
  obtain ⟨hg, hx, h3⟩ := h
  have e : y = 0 := by omega
  subst e
  rw [Int.gcd_zero_right] at hg
  omega
theorem gcd_abs (a b : Int) : Int.gcd (if a < 0 then -a else a) (if b < 0 then -b else b) = Int.gcd a b := by
  have h : ∀ z : Int, (if z < 0 then -z else z).natAbs = z.natAbs := fun z => by split <;> omega
  unfold Int.gcd
  rw [h, h]
theorem sg_ne {a b : Int} (hb : b ≠ 0) : sg a b ≠ 0 ∧ (sg a b).natAbs ≤ b.natAbs := by
  have h1 : 0 < Int.gcd a b := Int.gcd_pos_of_ne_zero_right a hb
  have h2 : Int.gcd a b ≤ b.natAbs := Nat.le_of_dvd (by omega) (Int.gcd_dvd_natAbs_right a b)
  unfold sg
  split <;> omega
theorem sg_num {a b : Int} (hb : b ≠ 0) : a.fdiv (sg a b) = (Rat.divInt a b).num := by
  rw [Rat.num_divInt, Int.gcd_comm]
  have d : ((Int.gcd a b : Nat) : Int) ∣ a := Int.gcd_dvd_left a b
  unfold sg
  by_cases h : b < 0
  · rw [if_pos h, Int.sign_eq_neg_one_of_neg h, Int.fdiv_eq_ediv_of_dvd (Int.neg_dvd.mpr d), Int.ediv_neg, Int.neg_mul, Int.one_mul, Int.neg_ediv_of_dvd d]
  · rw [if_neg h, Int.fdiv_eq_ediv_of_dvd d]
    rw [Int.sign_eq_one_of_pos (by omega), Int.one_mul]
theorem sg_den {a b : Int} (hb : b ≠ 0) : b.fdiv (sg a b) = ((Rat.divInt a b).den : Int) := by
  rw [Rat.den_divInt, if_neg hb, Int.gcd_comm b a]
  have d : ((Int.gcd a b : Nat) : Int) ∣ b := Int.gcd_dvd_right a b
  unfold sg
  by_cases h : b < 0
  · rw [if_pos h, Int.fdiv_eq_ediv_of_dvd (Int.neg_dvd.mpr d), Int.ediv_neg, ← Int.neg_ediv_of_dvd d, Int.natCast_ediv]
    congr 1
    omega
  · rw [if_neg h, Int.fdiv_eq_ediv_of_dvd d, Int.natCast_ediv]
    congr 1
    omega

/-! ### sizes -/
def Bt (n : Nat) (x : Int) : Prop := x.natAbs < 2 ^ n
theorem Bt.mono {m n : Nat} {x : Int} (h : Bt m x) (hn : m ≤ n) : Bt n x := Nat.lt_of_lt_of_le h (Nat.pow_le_pow_right (by decide) hn)
theorem Bt.le {n : Nat} {x y : Int} (hy : Bt n y) (h : x.natAbs ≤ y.natAbs) : Bt n x := Nat.lt_of_le_of_lt h hy
theorem Bt.mul {m n : Nat} {x y : Int} (hx : Bt m x) (hy : Bt n y) : Bt (m + n) (x * y) := by
  unfold Bt at *
  rw [Int.natAbs_mul, Nat.pow_add]
  exact Nat.mul_lt_mul'' hx hy
theorem Bt.add {n : Nat} {x y : Int} (hx : Bt n x) (hy : Bt n y) : Bt (n + 1) (x + y) := by
  unfold Bt at *
  rw [Nat.pow_succ]
  omega
theorem Bt.neg {n : Nat} {x : Int} (hx : Bt n x) : Bt n (-x) := by
  unfold Bt at *
  rw [Int.natAbs_neg]
  exact hx
theorem Bt.sub {n : Nat} {x y : Int} (hx : Bt n x) (hy : Bt n y) : Bt (n + 1) (x - y) := by
  unfold Bt at *
  rw [Nat.pow_succ]
  omega
/-- a fraction's two parts -/
def Rb (n : Nat) (q : Rat) : Prop := Bt n q.num ∧ Bt n (q.den : Int)
theorem Rb.mono {m n : Nat} {q : Rat} (h : Rb m q) (hn : m ≤ n) : Rb n q := ⟨h.1.mono hn, h.2.mono hn⟩
theorem den_ne (q : Rat) : ((q.den : Nat) : Int) ≠ 0 := by
  have := q.den_pos
  omega
theorem rb_div {n : Nat} {a b : Int} (hb : b ≠ 0) (h1 : Bt n a) (h2 : Bt n b) : Rb n (Rat.divInt a b) := by
  have hs := (sg_ne (a := a) hb).1
  have e1 : a.fdiv (sg a b) * sg a b = a := Int.fdiv_mul_cancel (by
    unfold sg
    split
    · exact Int.neg_dvd.mpr (Int.gcd_dvd_left a b)
    · exact Int.gcd_dvd_left a b)
  have e2 : b.fdiv (sg a b) * sg a b = b := Int.fdiv_mul_cancel (by
    unfold sg
    split
    · exact Int.neg_dvd.mpr (Int.gcd_dvd_right a b)
    · exact Int.gcd_dvd_right a b)
  have k : ∀ x y : Int, x * sg a b = y → x.natAbs ≤ y.natAbs := fun x y e => by
    rw [← e, Int.natAbs_mul]
    exact Nat.le_mul_of_pos_right _ (by omega)
  rw [sg_num hb] at e1
  rw [sg_den hb] at e2
  exact ⟨h1.le (k _ _ e1), h2.le (k _ _ e2)⟩
theorem rat_sum (q r : Rat) : Rat.divInt (q.num * r.den + r.num * q.den) (q.den * r.den) = q + r := by
  rw [← Rat.divInt_add_divInt _ _ (den_ne q) (den_ne r), Rat.num_divInt_den, Rat.num_divInt_den]
theorem rat_less (q r : Rat) : Rat.divInt (q.num * r.den - r.num * q.den) (q.den * r.den) = q - r := by
  rw [← Rat.divInt_sub_divInt _ _ (den_ne q) (den_ne r), Rat.num_divInt_den, Rat.num_divInt_den]
theorem rat_prod (q r : Rat) : Rat.divInt (q.num * r.num) (q.den * r.den) = q * r := by
  rw [← Rat.divInt_mul_divInt, Rat.num_divInt_den, Rat.num_divInt_den]
theorem rat_quot (q r : Rat) : Rat.divInt (q.num * r.den) (q.den * r.num) = q / r := by
  rw [Rat.div_def, Rat.inv_def, ← Rat.divInt_mul_divInt, Rat.num_divInt_den]
theorem Rb.add {m n : Nat} {q r : Rat} (hq : Rb m q) (hr : Rb n r) : Rb (m + n + 1) (q + r) := by
  rw [← rat_sum]
  exact rb_div (Int.mul_ne_zero (den_ne q) (den_ne r)) ((hq.1.mul hr.2).add ((hr.1.mul hq.2).mono (by omega))) ((hq.2.mul hr.2).mono (by omega))
theorem Rb.sub {m n : Nat} {q r : Rat} (hq : Rb m q) (hr : Rb n r) : Rb (m + n + 1) (q - r) := by
  rw [← rat_less]
  exact rb_div (Int.mul_ne_zero (den_ne q) (den_ne r)) ((hq.1.mul hr.2).sub ((hr.1.mul hq.2).mono (by omega))) ((hq.2.mul hr.2).mono (by omega))
theorem Rb.mul {m n : Nat} {q r : Rat} (hq : Rb m q) (hr : Rb n r) : Rb (m + n) (q * r) := by
  rw [← rat_prod]
  exact rb_div (Int.mul_ne_zero (den_ne q) (den_ne r)) (hq.1.mul hr.1) (hq.2.mul hr.2)
theorem num_ne {r : Rat} (h : r ≠ 0) : r.num ≠ 0 := fun e => h (Rat.num_eq_zero.mp e)
theorem Rb.div {m n : Nat} {q r : Rat} (hq : Rb m q) (hr : Rb n r) (h : r ≠ 0) : Rb (m + n) (q / r) := by
  rw [← rat_quot]
  exact rb_div (Int.mul_ne_zero (den_ne q) (num_ne h)) (hq.1.mul hr.2) (hq.2.mul hr.1)

/-! ### rules of numbers -/
section
variable {X : Cx}
theorem op_fdX : OpR X (binaryOp .FloorDiv) (rI (fun _ j => j ≠ 0 ∧ Bt 9000 j) fun i j => .int (i.fdiv j)) := opI fun _ _ _ _ _ _ _ hc q =>
  floordiv_int hc.1 q (.inl (PyProof.noPylong_of_log2 (PySem.Flt.log2_lt_of (by decide) hc.2)))
end
/-! the rules within a comprehension: the written part by name -/
section
variable {X : Cx} {K : PySem.W.Frag}
theorem call_isiC (h : X.K = K) : CallR X (.builtin "isinstance") (rIsi K) := h ▸ call_isi
theorem ix_listC (h : X.K = K) : IxR X (rIxL K) := h ▸ ix_list
theorem ix_tupC (h : X.K = K) : IxR X (rIxT K) := h ▸ ix_tup
theorem call_len_seqC (h : X.K = K) : CallR X (.builtin "len") (fun xs H Q => ∃ p ys, xs = [.ref p] ∧ (SqL K H p ys ∨ SqT K H p ys) ∧ Q (.int ys.length) H) := h ▸ call_len_seq
theorem pg_tupC {es : List Expr} {k : Nat} {t : TGs} {n : Nat} {pos : Pos} (hK : X.K = K) (hc : X.calm = true) (h : PGs X es t) (hn : (assignEach es X.env).length = n := by rfl) (hst : (assignEach es X.env).findIdx? (·.1) = none := by rfl) : PG X (.Tuple es k pos) (gTup K n t) := hK ▸ pg_tup hc h hn hst
theorem pi_listC {tg l : Expr} {tl : TE} (hK : X.K = K) (hl : PE X l tl) : PI X tg l (iList K tl) := hK ▸ pi_list hl
theorem pi_tupC {tg l : Expr} {tl : TE} (hK : X.K = K) (hl : PE X l tl) : PI X tg l (iTup K tl) := hK ▸ pi_tup hl
theorem op_eqDC (h : X.K = K) (hu : X.A.units + 64 < cLine) : OpR X (compareOp .Eq) (rEqD K) := h ▸ op_eqD hu
theorem op_neDC (h : X.K = K) (hu : X.A.units + 64 < cLine) : OpR X (compareOp .NotEq) (rNeD K) := h ▸ op_neD hu
end
theorem bt_lit {n : Nat} {x : Int} (h : x.natAbs < 2 ^ n) : Bt n x := h
theorem ite_yes {c A B : Prop} [Decidable c] (h : c) (a : A) : if c then A else B := by
  rw [if_pos h]
  exact a
theorem ite_no {c A B : Prop} [Decidable c] (h : ¬ c) (a : B) : if c then A else B := by
  rw [if_neg h]
  exact a
theorem sz_n {n : Nat} (h : n ≤ 1000) : n ≤ sizeLine := Nat.le_trans h (by decide)
/-! ### readings, one by one -/
theorem rd_v {i : Nat} {v : V} {σ : L2.St} {H : Hp} {Q : VK} (h : σ[i]? = some (some v)) (q : Q v H) : tVar i σ H Q := ⟨v, h, q⟩
theorem rd_c {v : V} {σ : L2.St} {H : Hp} {Q : VK} (q : Q v H) : tC v σ H Q := q
theorem rd_yes {σ : L2.St} {H : Hp} {Q : Bool → Hp → Prop} (q : Q true H) : tYes σ H Q := q
theorem rd_ixT {K : PySem.W.Frag} {i : Nat} {p : Addr} {xs : List V} {j : Int} {v : V} {σ : L2.St} {H : Hp} {Q : VK} (h : σ[i]? = some (some (.ref p))) (hp : H p = some (.tup xs)) (ha : atI xs j = some v) (q : Q v H) :
    tOp (rIxT K) (tVar i) (tC (.int j)) σ H Q := ⟨.ref p, h, p, xs, j, v, rfl, rfl, SqT.of hp, ha, q⟩
theorem rd_ixL {K : PySem.W.Frag} {i : Nat} {p : Addr} {xs : List V} {j : Int} {v : V} {σ : L2.St} {H : Hp} {Q : VK} (h : σ[i]? = some (some (.ref p))) (hp : H p = some (.lst xs)) (ha : atI xs j = some v) (q : Q v H) :
    tOp (rIxL K) (tVar i) (tC (.int j)) σ H Q := ⟨.ref p, h, p, xs, j, v, rfl, rfl, SqL.of hp, ha, q⟩
theorem rd_mul {m n : Nat} {i j : Int} {H : Hp} {Q : VK} (hm : Bt m i) (hn : Bt n j) (h : m + n ≤ 134217728) (q : Q (.int (i * j)) H) : rI CMulX (fun i j => .int (i * j)) (.int i) (.int j) H Q := ⟨i, j, rfl, rfl, mulx_ok hm hn h, q⟩
theorem rd_i0 {g : Int → Int → V} {i j : Int} {H : Hp} {Q : VK} (q : Q (g i j) H) : rI0 g (.int i) (.int j) H Q := ⟨i, j, rfl, rfl, q⟩
theorem rd_eqi {i j : Int} {H : Hp} {Q : VK} (q : Q (.bl (decide (i = j))) H) : rEq (.int i) (.int j) H Q := by
  refine ⟨rfl, ?_⟩
  have e : decide (V.int i = V.int j) = decide (i = j) := by
    by_cases h : i = j
    · rw [decide_eq_true h, decide_eq_true (congrArg V.int h)]
    · rw [decide_eq_false h, decide_eq_false fun z => h (V.int.inj z)]
  rw [e]
  exact q
theorem rd_asg {te : TE} {g : TG} {rest : TS} {D : Ends} {σ : L2.St} {H : Hp} (q : te σ H fun v H1 => g v σ H1 (rest D)) : tSeq (tAsg te g) rest D σ H := q
theorem rd_op {r : R2} {ta tb : TE} {σ : L2.St} {H : Hp} {Q : VK} (q : ta σ H fun x H1 => tb σ H1 fun y H2 => r x y H2 Q) : tOp r ta tb σ H Q := q
theorem rd_lst {t : TA} {σ : L2.St} {H : Hp} {Q : VK} (q : t σ H fun xs H1 => xs.length ≤ sizeLine ∧ ∀ p, H1 p = none → Q (.ref p) (upd H1 p (.lst xs))) : tLst t σ H Q := q
def forK (g : TG) (tb : TS) (D : Ends) (σ0 : L2.St) : It → Hp → Prop := fun J H1 => ∃ W : Nat → Nat → L2.St → Hp → Prop, (∃ m, W 0 m σ0 H1) ∧ ∀ i m σ H, W i m σ H →
  (J.stop i H ∧ D.nx σ H) ∨ (J.go i H ∧ ∃ N : L2.St → Hp → Prop, (∀ σ' H', N σ' H' → ∃ m', m' < m ∧ W (i + 1) m' σ' H') ∧ ∀ x H', J.yld i H x H' → g x σ H' fun σ2 H2 => tb { D with nx := N, ct := N, bk := D.nx } σ2 H2)
theorem rd_for {wi : TI} {g : TG} {tb : TS} {D : Ends} {σ : L2.St} {H : Hp} (q : wi σ H (forK g tb D σ)) : tFor wi g tb D σ H := q
theorem rd_forS {wi : TI} {g : TG} {tb rest : TS} {D : Ends} {σ : L2.St} {H : Hp} (q : wi σ H (forK g tb { D with nx := rest D } σ)) : tSeq (tFor wi g tb) rest D σ H := q
theorem rd_iL {K : PySem.W.Frag} {tl : TE} {σ : L2.St} {H : Hp} {R : It → Hp → Prop} (q : tl σ H fun x H1 => ∃ a, x = .ref a ∧ (∃ xs, SqL K H1 a xs) ∧ R (Itl K a) H1) : iList K tl σ H R := q
theorem rd_cons {te : TE} {ta : TA} {σ : L2.St} {H : Hp} {Q : List V → Hp → Prop} (q : te σ H fun x H1 => ta σ H1 fun xs H2 => Q (x :: xs) H2) : tCons te ta σ H Q := q
theorem rd_ret {te : TE} {D : Ends} {σ : L2.St} {H : Hp} (q : te σ H D.rt) : tRet te D σ H := q
theorem rd_tup {t : TA} {σ : L2.St} {H : Hp} {Q : VK} (q : t σ H fun xs H1 => xs.length ≤ sizeLine ∧ ∀ p, H1 p = none → Q (.ref p) (upd H1 p (.tup xs))) : tTup t σ H Q := q
/-! ### heaps -/
theorem same_upd {H : Hp} {p : Addr} {o : HO} (h : H p = none) : Same H (upd H p o) := fun b x e => by
  rw [upd_ne (ne_of_none e h)]
  exact e
theorem same_tup {K : PySem.W.Frag} {H H' : Hp} {a : Addr} {xs : List V} (e : Same H H') (h : SqT K H a xs) : SqT K H' a xs := by
  rcases h with (h | ⟨o, h⟩) | h
  · exact .inl (.inl (e _ _ h))
  · exact .inl (.inr ⟨o, e _ _ h⟩)
  · exact .inr h
/-- a fraction as it stands -/
def FrV (H : Hp) (v : V) (q : Rat) : Prop := ∃ p, v = .ref p ∧ H p = some (.tup [.int q.num, .int (q.den : Int)])
theorem FrV.same {H H' : Hp} {v : V} {q : Rat} (e : Same H H') (h : FrV H v q) : FrV H' v q := by
  obtain ⟨p, rfl, h⟩ := h
  exact ⟨p, rfl, e _ _ h⟩
theorem frv_new {H : Hp} {p : Addr} {a b : Int} {q : Rat} (e1 : a = q.num) (e2 : b = (q.den : Int)) : FrV (upd H p (.tup [.int a, .int b])) (.ref p) q := by
  subst e1 e2
  exact ⟨p, rfl, upd_same⟩
theorem FrV.dp {K : PySem.W.Frag} {H : Hp} {v : V} {q : Rat} (h : FrV H v q) : Dp K H v (.tuple [.int q.num, .int (q.den : Int)]) := by
  obtain ⟨p, rfl, h⟩ := h
  exact Dp.tup (SqT.of h) (DpAll.cons (Dp.int _) (DpAll.cons (Dp.int _) DpAll.nil))
theorem nd_ne {a b : V} (e : (!decide (a = b)) = true) : a ≠ b := fun z => by
  rw [decide_eq_true z] at e
  cases e
theorem nd_eq {a b : V} (e : ¬ (!decide (a = b)) = true) : a = b := Decidable.byContradiction fun z => e (by
  rw [decide_eq_false z]
  rfl)
theorem eqv2 (x y a b : Int) : PyData.eqv (.tuple [.int x, .int y]) (.tuple [.int a, .int b]) = (decide (x = a) && decide (y = b)) := by
  simp [PyData.eqv, PyData.eqvAll, Bool.beq_eq_decide_eq]
/-! ### the deck: all else stands -/
def Keep (d l : Addr) (H H' : Hp) : Prop := ∀ a o, H a = some o → a ≠ d → a ≠ l → H' a = some o
theorem Keep.refl {d l : Addr} {H : Hp} : Keep d l H H := fun _ _ h _ _ => h
theorem Keep.trans {d l : Addr} {H H1 H2 : Hp} (a : Keep d l H H1) (b : Keep d l H1 H2) : Keep d l H H2 := fun x o h h1 h2 => b x o (a x o h h1 h2) h1 h2
theorem same_keep {d l : Addr} {H H' : Hp} (e : Same H H') : Keep d l H H' := fun a o h _ _ => e a o h
theorem keep_d {d l : Addr} {H : Hp} {o : HO} : Keep d l H (upd H d o) := fun a u h h1 _ => by
  rw [upd_ne h1]
  exact h
theorem keep_l {d l : Addr} {H : Hp} {o : HO} : Keep d l H (upd H l o) := fun a u h _ h2 => by
  rw [upd_ne h2]
  exact h
theorem keep_new {d l p : Addr} {H : Hp} {o : HO} (h : H p = none) : Keep d l H (upd H p o) := same_keep (same_upd h)
theorem Keep.sq {K : PySem.W.Frag} {d l s : Addr} {H H' : Hp} {xs : List V} (k : Keep d l H H') (h1 : s ≠ d) (h2 : s ≠ l) (h : SqL K H s xs) : SqL K H' s xs := by
  rcases h with (h | ⟨o, h⟩) | h
  · exact .inl (.inl (k _ _ h h1 h2))
  · exact .inl (.inr ⟨o, k _ _ h h1 h2⟩)
  · exact .inr h
/-- the script: of the written part, or tracked beside the deck -/
def Sct (K : PySem.W.Frag) (H : Hp) (d l s : Addr) (xs : List V) : Prop := (∀ H', SqL K H' s xs) ∨ (SqL K H s xs ∧ s ≠ d ∧ s ≠ l)
theorem Sct.sq {K : PySem.W.Frag} {H : Hp} {d l s : Addr} {xs : List V} (h : Sct K H d l s xs) : SqL K H s xs := by
  rcases h with h | h
  · exact h H
  · exact h.1
theorem Sct.keep {K : PySem.W.Frag} {H H' : Hp} {d l s : Addr} {xs : List V} (h : Sct K H d l s xs) (k : Keep d l H H') : Sct K H' d l s xs := by
  rcases h with h | ⟨h, h1, h2⟩
  · exact .inl h
  · exact .inr ⟨k.sq h1 h2 h, h1, h2⟩
theorem sct_of {K : PySem.W.Frag} {H H' : Hp} {d l s : Addr} {xs : List V} (h : SqL K H s xs) (e : Same H H') (nd : H d = none) (nl : H l = none) : Sct K H' d l s xs := by
  rcases h with (h | ⟨o, h⟩) | h
  · exact .inr ⟨.inl (.inl (e _ _ h)), ne_of_none h nd, ne_of_none h nl⟩
  · exact .inr ⟨.inl (.inr ⟨o, e _ _ h⟩), ne_of_none h nd, ne_of_none h nl⟩
  · exact .inl fun _ => .inr h
/-- the deck at d: the script at s, the numbers at l -/
def Dk (K : PySem.W.Frag) (H : Hp) (d l s : Addr) (ns : List Int) (c : Nat) : Prop :=
  ∃ (xs : List Int) (i k : Nat), H d = some (.lst [.ref s, .ref l, .int (i : Int), .int (k : Int)]) ∧ H l = some (.lst (xs.map V.int)) ∧ k ≤ c ∧ Sct K H d l s (ns.map V.int)
theorem Dk.mono {K : PySem.W.Frag} {H : Hp} {d l s : Addr} {ns : List Int} {c c' : Nat} (h : Dk K H d l s ns c) (hc : c ≤ c') : Dk K H d l s ns c' := by
  obtain ⟨xs, i, k, h1, h2, h3, h4⟩ := h
  exact ⟨xs, i, k, h1, h2, Nat.le_trans h3 hc, h4⟩
theorem Dk.same {K : PySem.W.Frag} {H H' : Hp} {d l s : Addr} {ns : List Int} {c : Nat} (h : Dk K H d l s ns c) (e : Same H H') : Dk K H' d l s ns c := by
  obtain ⟨xs, i, k, h1, h2, h3, h4⟩ := h
  exact ⟨xs, i, k, e _ _ h1, e _ _ h2, h3, h4.keep (same_keep e)⟩
theorem Dk.new {K : PySem.W.Frag} {H : Hp} {d l s p : Addr} {o : HO} {ns : List Int} {c : Nat} (h : Dk K H d l s ns c) (hp : H p = none) : Dk K (upd H p o) d l s ns c := h.same (same_upd hp)
/-- what is no list is not the deck's -/
theorem Keep.at {K : PySem.W.Frag} {H H' : Hp} {d l s a : Addr} {ns : List Int} {c : Nat} {o : HO} (k : Keep d l H H') (h : Dk K H d l s ns c) (e : H a = some o) (no : ∀ xs, o ≠ .lst xs) : H' a = some o := by
  obtain ⟨xs, i, n, h1, h2, _⟩ := h
  exact k a o e (ne_of e h1 (no _)) (ne_of e h2 (no _))
theorem Keep.tup {K : PySem.W.Frag} {H H' : Hp} {d l s a : Addr} {ns : List Int} {c : Nat} {xs : List V} (k : Keep d l H H') (h : Dk K H d l s ns c) (e : H a = some (.tup xs)) : H' a = some (.tup xs) :=
  k.at h e fun _ z => by cases z
theorem Keep.fr {K : PySem.W.Frag} {H H' : Hp} {d l s : Addr} {ns : List Int} {c : Nat} {v : V} {q : Rat} (k : Keep d l H H') (h : Dk K H d l s ns c) (f : FrV H v q) : FrV H' v q := by
  obtain ⟨p, rfl, e⟩ := f
  exact ⟨p, rfl, k.tup h e⟩
theorem Dk.ne {K : PySem.W.Frag} {H : Hp} {d l s : Addr} {ns : List Int} {c : Nat} (h : Dk K H d l s ns c) : d ≠ l := by
  obtain ⟨xs, i, n, h1, h2, _⟩ := h
  refine ne_of h1 h2 fun z => ?_
  cases xs with
  | nil => cases z
  | cons x r => cases z

/-! ### rows of fractions -/
def AF (H : Hp) : List V → List Rat → Prop
  | [], [] => True
  | v :: vs, q :: qs => FrV H v q ∧ AF H vs qs
  | _, _ => False
theorem AF.imp {H H' : Hp} (k : ∀ v q, FrV H v q → FrV H' v q) : ∀ {vs : List V} {qs : List Rat}, AF H vs qs → AF H' vs qs
  | [], [], _ => trivial
  | v :: vs, q :: qs, h => ⟨k v q h.1, AF.imp k h.2⟩
  | [], _ :: _, h => h.elim
  | _ :: _, [], h => h.elim
theorem AF.len {H : Hp} : ∀ {vs : List V} {qs : List Rat}, AF H vs qs → vs.length = qs.length
  | [], [], _ => rfl
  | v :: vs, q :: qs, h => congrArg (· + 1) (AF.len h.2)
  | [], _ :: _, h => h.elim
  | _ :: _, [], h => h.elim
theorem AF.get {H : Hp} : ∀ {vs : List V} {qs : List Rat} {i : Nat} {v : V}, AF H vs qs → vs[i]? = some v → ∃ q, qs[i]? = some q ∧ FrV H v q
  | [], [], _, _, _, e => by simp at e
  | w :: vs, q :: qs, 0, v, h, e => ⟨q, rfl, by
      have e : w = v := Option.some.inj e
      exact e ▸ h.1⟩
  | w :: vs, q :: qs, i + 1, v, h, e => AF.get (i := i) h.2 e
  | [], _ :: _, _, _, h, _ => h.elim
  | _ :: _, [], _, _, h, _ => h.elim
theorem AF.snoc {H : Hp} {v : V} {q : Rat} (hv : FrV H v q) : ∀ {vs : List V} {qs : List Rat}, AF H vs qs → AF H (vs ++ [v]) (qs ++ [q])
  | [], [], _ => ⟨hv, trivial⟩
  | w :: vs, r :: qs, h => ⟨h.1, AF.snoc hv h.2⟩
  | [], _ :: _, h => h.elim
  | _ :: _, [], h => h.elim
theorem AF.same {H H' : Hp} (e : Same H H') {vs : List V} {qs : List Rat} (h : AF H vs qs) : AF H' vs qs := AF.imp (fun _ _ f => f.same e) h
theorem frv_lst {H : Hp} {D : Addr} {acc acc' : List V} {v : V} {q : Rat} (hD : H D = some (.lst acc)) (h : FrV H v q) : FrV (upd H D (.lst acc')) v q := by
  obtain ⟨p, rfl, h⟩ := h
  refine ⟨p, rfl, ?_⟩
  rw [upd_ne (ne_of h hD fun z => by cases z)]
  exact h
theorem AF.lst {H : Hp} {D : Addr} {acc acc' : List V} {vs : List V} {qs : List Rat} (hD : H D = some (.lst acc)) (h : AF H vs qs) : AF (upd H D (.lst acc')) vs qs := AF.imp (fun _ _ f => frv_lst hD f) h
/-- a tuple of fractions: a point -/
def PtV (H : Hp) (v : V) (qs : List Rat) : Prop := ∃ p xs, v = .ref p ∧ H p = some (.tup xs) ∧ AF H xs qs
theorem PtV.same {H H' : Hp} {v : V} {qs : List Rat} (e : Same H H') (h : PtV H v qs) : PtV H' v qs := by
  obtain ⟨p, xs, rfl, h, a⟩ := h
  exact ⟨p, xs, rfl, e _ _ h, a.same e⟩
theorem Keep.pt {K : PySem.W.Frag} {H H' : Hp} {d l s : Addr} {ns : List Int} {c : Nat} {v : V} {qs : List Rat} (k : Keep d l H H') (h : Dk K H d l s ns c) (f : PtV H v qs) : PtV H' v qs := by
  obtain ⟨p, xs, rfl, e, a⟩ := f
  exact ⟨p, xs, rfl, k.tup h e, AF.imp (fun _ _ f => k.fr h f) a⟩
def Rs (n : Nat) (qs : List Rat) : Prop := ∀ q ∈ qs, Rb n q
theorem rs_get {n : Nat} {qs : List Rat} {i : Nat} {q : Rat} (h : Rs n qs) (e : qs[i]? = some q) : Rb n q := h q (List.mem_of_getElem? e)
def rsum : List Rat → Rat
  | [] => 0
  | q :: r => q + rsum r
theorem rsum_snoc (q : Rat) : ∀ l : List Rat, rsum (l ++ [q]) = rsum l + q
  | [] => by
    show q + 0 = 0 + q
    grind
  | r :: l => by
    show r + rsum (l ++ [q]) = r + rsum l + q
    rw [rsum_snoc q l]
    grind
def prods (qs rs : List Rat) : List Rat := List.zipWith (fun q r => q * r) qs rs
theorem take_succ {α : Type} {l : List α} {i : Nat} {x : α} (h : l[i]? = some x) : l.take (i + 1) = l.take i ++ [x] := by
  rw [List.take_add_one, h]
  rfl
theorem prods_at {qs rs : List Rat} {i : Nat} {q r : Rat} (h1 : qs[i]? = some q) (h2 : rs[i]? = some r) : (prods qs rs)[i]? = some (q * r) := by
  unfold prods
  rw [List.getElem?_zipWith, h1, h2]
theorem dot_step {qs rs : List Rat} {i : Nat} {q r : Rat} (h1 : qs[i]? = some q) (h2 : rs[i]? = some r) : rsum ((prods qs rs).take (i + 1)) = rsum ((prods qs rs).take i) + q * r := by
  rw [take_succ (prods_at h1 h2), rsum_snoc]
/-- one turn of dot over whole numbers -/
theorem dot_turn {a b : Int} {q r S : Rat} (hb : b ≠ 0) (e : Rat.divInt a b = S) :
    Rat.divInt (a * ((q.den : Int) * (r.den : Int)) + q.num * r.num * b) (b * ((q.den : Int) * (r.den : Int))) = S + q * r := by
  rw [← e, ← rat_prod q r, Rat.divInt_add_divInt _ _ hb (Int.mul_ne_zero (den_ne q) (den_ne r))]
theorem walk_zipT {K : PySem.W.Frag} {a b : Addr} {xs ys : List V} {n : Nat} (hn : n = min xs.length ys.length) : Walk (RZ.ItzT K a b) n (fun H => SqT K H a xs ∧ SqT K H b ys) (YPair (fun i => xs[i]?) (fun i => ys[i]?)) := by
  subst hn
  refine ⟨fun i _ hi q => ?_, fun _ q => ⟨xs, ys, q.1, q.2, by omega⟩, fun i H v H' _ q y => ?_⟩
  · have h1 : i < xs.length := by omega
    have h2 : i < ys.length := by omega
    exact ⟨xs, ys, xs[i], ys[i], q.1, q.2, by simp [h1], by simp [h2]⟩
  · obtain ⟨T, x, z, h1, h2, h3, h4, h5⟩ := y
    exact ⟨T, x, z, h1, h2, h3, h4 xs q.1, h5 ys q.2⟩

section
variable {P : Program} {w : World} {K : PySem.W.Frag} {mg : Str → Option Value} {base : Heap}
def sp_frac : Sp := fun vs H Q _ => ∃ a b : Int, vs = [.int a, .int b] ∧ b ≠ 0 ∧ Bt 9000 b ∧ ∀ H' v, Same H H' → FrV H' v (Rat.divInt a b) → Q v H'
theorem ok_frac (T : Tx K mg) : FnOk P w K mg base CX0 1 T.f_frac T.d_frac ["above", "below"] sp_frac := by
  refine T.F_frac.ok sc_frac (fun vs H Q E h => ?_) (fun cdv A outer s H vs Q E hr h => ?_)
  · obtain ⟨a, b, rfl, _⟩ := h
    rfl
  · obtain ⟨a, b, rfl, hb, hB, q⟩ := h
    refine ⟨_, (pss_cons (ps_par (i := 2) (j := 3) (by rfl) sc_frac.nd rfl rfl (by decide) rfl rfl (pa_cons (pv 1) (pa_cons (pe_op op_modN (pv 0) (pv 1)) pa_nil)) (by rfl))
      (pss_cons (ps_while PassesOwn.never (pt_truth (pv 3) (by intro _; rfl)) (pss_one (ps_par (i := 2) (j := 3) (by rfl) sc_frac.nd rfl rfl (by decide) rfl rfl (pa_cons (pv 3) (pa_cons (pe_op op_modN (pv 2) (pv 3)) pa_nil)) (by rfl))))
      (pss_one (ps_ret (pe_tup (pa_cons (pe_op op_fdX (pv 0) (pv 2)) (pa_cons (pe_op op_fdX (pv 1) (pv 2)) pa_nil))))))), ?_⟩
    refine ⟨.int b, rfl, .int a, rfl, .int b, rfl, a, b, rfl, rfl, hb, _, _, rfl, ?_⟩
    refine ⟨fun m σ H' => H' = H ∧ ∃ x y : Int, σ = [some (.int a), some (.int b), some (.int x), some (.int y)] ∧ m = y.natAbs ∧ GInv a b x y, ⟨_, rfl, b, a.fmod b, rfl, rfl, GInv.start hb⟩, fun m σ H2 hW => ?_⟩
    obtain ⟨rfl, x, y, rfl, rfl, inv⟩ := hW
    refine ⟨.int y, rfl, y != 0, rfl, ?_⟩
    by_cases hy : y = 0
    · subst hy
      refine iteF ?_
      have ex := inv.fin
      obtain ⟨n1, n2⟩ := inv.ne
      have bx : Bt 9000 x := hB.le n2
      refine ⟨.int a, rfl, .int x, rfl, a, x, rfl, rfl, ⟨n1, bx⟩, .int b, rfl, .int x, rfl, b, x, rfl, rfl, ⟨n1, bx⟩, sz_n (by decide : 2 ≤ 1000), fun p hp => q _ _ (same_upd hp) ?_⟩
      subst ex
      exact frv_new (sg_num hb) (sg_den hb)
    · have hyb : (y != 0) = true := by simpa using hy
      refine ite_yes hyb ?_
      have nx := inv.next hy
      refine ⟨fun σ' H' => ∃ m', m' < y.natAbs ∧ H' = H2 ∧ ∃ x y : Int, σ' = [some (.int a), some (.int b), some (.int x), some (.int y)] ∧ m' = y.natAbs ∧ GInv a b x y, fun _ _ h => h, ?_⟩
      exact ⟨.int y, rfl, .int x, rfl, .int y, rfl, x, y, rfl, rfl, hy, _, _, rfl, _, nx.2, rfl, y, x.fmod y, rfl, rfl, nx.1⟩
theorem b2 {m n : Nat} (hm : m ≤ 4000) (hn : n ≤ 4000) : m + n ≤ 134217728 := by omega
def sp_two (f : Rat → Rat → Rat) (ok : Rat → Prop) : Sp := fun vs H Q _ => ∃ v1 v2 q r, vs = [v1, v2] ∧ FrV H v1 q ∧ FrV H v2 r ∧ Rb 4000 q ∧ Rb 4000 r ∧ ok r ∧ ∀ H' v, Same H H' → FrV H' v (f q r) → Q v H'
/-- the same, of fractions of any sizes that a division bears -/
def sp_twoG (f : Rat → Rat → Rat) (ok : Rat → Prop) : Sp := fun vs H Q _ => ∃ v1 v2 q r m n, vs = [v1, v2] ∧ FrV H v1 q ∧ FrV H v2 r ∧ Rb m q ∧ Rb n r ∧ m + n ≤ 9000 ∧ ok r ∧ ∀ H' v, Same H H' → FrV H' v (f q r) → Q v H'
theorem two_lenG {f : Rat → Rat → Rat} {ok : Rat → Prop} {vs : List V} {H : Hp} {Q : VK} {E : XK} (h : sp_twoG f ok vs H Q E) : vs.length = 2 := by
  obtain ⟨_, _, _, _, _, _, rfl, _⟩ := h
  rfl
theorem two_G {f : Rat → Rat → Rat} {ok : Rat → Prop} (vs : List V) (H : Hp) (Q : VK) (E : XK) (h : sp_two f ok vs H Q E) : sp_twoG f ok vs H Q E := by
  obtain ⟨v1, v2, q, r, e, f1, f2, b1, b2, k⟩ := h
  exact ⟨v1, v2, q, r, 4000, 4000, e, f1, f2, b1, b2, by decide, k⟩
theorem two_len {f : Rat → Rat → Rat} {ok : Rat → Prop} {vs : List V} {H : Hp} {Q : VK} {E : XK} (h : sp_two f ok vs H Q E) : vs.length = 2 := by
  obtain ⟨_, _, _, _, rfl, _⟩ := h
  rfl
end

section
variable {P : Program} {w : World} {K : PySem.W.Frag} {mg : Str → Option Value} {base : Heap}
/-! ### gcd, share -/
def sp_gcd : Sp := fun vs H Q _ => ∃ a b : Int, vs = [.int a, .int b] ∧ Q (.int (Int.gcd a b : Int)) H
theorem ok__law_gcd (T : Tx K mg) : FnOk P w K mg base CX0 1 T.f__law_gcd T.d__law_gcd ["_law_one", "_law_other"] sp_gcd := by
  refine T.F__law_gcd.ok sc__law_gcd (fun vs H Q E h => ?_) (fun cdv A outer s H vs Q E hr h => ?_)
  · obtain ⟨a, b, rfl, _⟩ := h
    rfl
  · obtain ⟨a, b, rfl, q⟩ := h
    refine ⟨_, (pss_cons (ps_set (i := 0) sc__law_gcd.nd rfl (Or.inl rfl) (pe_callB call_abs (by rfl) T.m_abs (by decide +kernel) (pa_cons (pv 0) pa_nil)))
      (pss_cons (ps_set (i := 1) sc__law_gcd.nd rfl (Or.inl rfl) (pe_callB call_abs (by rfl) T.m_abs (by decide +kernel) (pa_cons (pv 1) pa_nil)))
      (pss_cons (ps_while PassesOwn.never (pt_cmpR op_gt (pv 1) pe_int (nomark _)) (pss_one (ps_par (i := 0) (j := 1) (by rfl) sc__law_gcd.nd rfl rfl (by decide) rfl rfl (pa_cons (pv 1) (pa_cons (pe_op op_modN (pv 0) (pv 1)) pa_nil)) (by rfl))))
      (pss_one (ps_ret (pv 0)))))), ?_⟩
    refine ⟨.int a, rfl, a, rfl, .int b, rfl, b, rfl, ?_⟩
    refine ⟨fun m σ H' => H' = H ∧ ∃ x y : Int, σ = [some (.int x), some (.int y)] ∧ m = y.natAbs ∧ HInv a b x y, ⟨_, rfl, _, _, rfl, rfl, gcd_abs a b, by split <;> omega, by split <;> omega⟩, fun m σ H2 hW => ?_⟩
    obtain ⟨rfl, x, y, rfl, rfl, inv⟩ := hW
    refine ⟨.int y, rfl, y, 0, rfl, rfl, _, rfl, ite2 (fun e => ?_) (fun e => ?_)⟩
    · have hy := of_decide_eq_true e
      have nx := inv.next hy
      refine ⟨fun σ' H' => ∃ m', m' < y.natAbs ∧ H' = H2 ∧ ∃ x y : Int, σ' = [some (.int x), some (.int y)] ∧ m' = y.natAbs ∧ HInv a b x y, fun _ _ h => h, ?_⟩
      exact ⟨.int y, rfl, .int x, rfl, .int y, rfl, x, y, rfl, rfl, by omega, _, _, rfl, _, nx.2, rfl, y, x.fmod y, rfl, rfl, nx.1⟩
    · have hy : ¬ 0 < y := fun z => e (decide_eq_true z)
      have ex := inv.fin hy
      subst ex
      exact ⟨_, rfl, q⟩
theorem ok__law_share (T : Tx K mg) : FnOk P w K mg base CX0 2 T.f__law_share T.d__law_share ["_law_top", "_law_bottom"] sp_frac := by
  have G__law_gcd := ok__law_gcd (P := P) (w := w) (base := base) T
  refine T.F__law_share.ok sc__law_share (fun vs H Q E h => ?_) (fun cdv A outer s H vs Q E hr h => ?_)
  · obtain ⟨a, b, rfl, _⟩ := h
    rfl
  · obtain ⟨a, b, rfl, hb, hB, q⟩ := h
    refine ⟨_, (pss_cons (ps_set (i := 2) sc__law_share.nd rfl (Or.inl rfl) (pe_call G__law_gcd (hr.mono (by first | decide | omega)) (by rfl) T.g__law_gcd T.F__law_gcd.kp T.b__law_gcd .nil pass0 (pa_cons (pv 0) (pa_cons (pv 1) pa_nil))))
      (pss_cons (ps_if (pt_cmpR op_lt (pv 1) pe_int (nomark _)) (pss_one (ps_set (i := 2) sc__law_share.nd rfl (Or.inl rfl) (pe_un un_neg (pv 2)))) pss_nil)
      (pss_one (ps_ret (pe_tup (pa_cons (pe_op op_fdX (pv 0) (pv 2)) (pa_cons (pe_op op_fdX (pv 1) (pv 2)) pa_nil))))))), ?_⟩
    have sn := sg_ne (a := a) hb
    have bx : Bt 9000 (sg a b) := hB.le sn.2
    have fin : ∀ x : Int, x = sg a b → tRet (tTup (tCons (tOp (rI (fun _ j => j ≠ 0 ∧ Bt 9000 j) fun i j => V.int (i.fdiv j)) (tVar 0) (tVar 2)) (tCons (tOp (rI (fun _ j => j ≠ 0 ∧ Bt 9000 j) fun i j => V.int (i.fdiv j)) (tVar 1) (tVar 2)) tNil))) { nx := fun _ H' => Q .non H', rt := Q } [some (.int a), some (.int b), some (.int x)] H := fun x ex => by
      subst ex
      exact ⟨.int a, rfl, .int (sg a b), rfl, a, sg a b, rfl, rfl, ⟨sn.1, bx⟩, .int b, rfl, .int (sg a b), rfl, b, sg a b, rfl, rfl, ⟨sn.1, bx⟩, sz_n (by decide : 2 ≤ 1000), fun p hp => q _ _ (same_upd hp) (frv_new (sg_num hb) (sg_den hb))⟩
    refine ⟨.int a, rfl, .int b, rfl, a, b, rfl, ?_⟩
    refine ⟨.int b, rfl, b, 0, rfl, rfl, _, rfl, ite2 (fun e => ?_) (fun e => ?_)⟩
    · have e := of_decide_eq_true e
      refine ⟨_, rfl, _, rfl, fin _ ?_⟩
      unfold sg
      rw [if_pos e]
    · have e : ¬ b < 0 := fun z => e (decide_eq_true z)
      refine fin _ ?_
      unfold sg
      rw [if_neg e]
theorem bt_small {x : Int} (h : x.natAbs < 2 ^ 100) : Bt 9000 x := Nat.lt_of_lt_of_le h (Nat.pow_le_pow_right (by decide) (by decide))
theorem bt13 : Bt 9000 13 := bt_small (by decide)
/-! ### draws -/
def sp_cell (K : PySem.W.Frag) : Sp := fun vs H Q _ => ∃ (s : Addr) (ns : List Int) (k : Nat), vs = [.ref s, .int (k : Int)] ∧ SqL K H s (ns.map V.int) ∧ k < 2 ^ 41 ∧ ∀ v, 0 ≤ v → Q (.int v) H
theorem ok__law_cell (T : Tx K mg) : FnOk P w K mg base CX0 1 T.f__law_cell T.d__law_cell ["_law_script", "_law_k"] (sp_cell K) := by
  refine T.F__law_cell.ok sc__law_cell (fun vs H Q E h => ?_) (fun cdv A outer s H vs Q E hr h => ?_)
  · obtain ⟨a, b, c, rfl, _⟩ := h
    rfl
  · obtain ⟨s, ns, k, rfl, hs, hk, q⟩ := h
    refine ⟨_, (pss_cons (ps_if (pt_cmpR op_eq (pe_callB call_len_seq (by rfl) T.m_len (by decide +kernel) (pa_cons (pv 0) pa_nil)) pe_int (nomark _)) (pss_one (ps_ret (pe_op op_add (pe_op op_mulX pe_int (pv 1)) pe_int))) pss_nil)
      (pss_one (ps_ret (pe_callB call_abs (by rfl) T.m_abs (by decide +kernel) (pa_cons (pe_ix ix_list (pv 0) (pe_op op_modN (pv 1) (pe_callB call_len_seq (by rfl) T.m_len (by decide +kernel) (pa_cons (pv 0) pa_nil))) (fun _ _ => rfl)) pa_nil))))), ?_⟩
    refine ⟨.ref s, rfl, s, _, rfl, .inl hs, rd_c (rd_eqi ⟨_, rfl, ite2 (fun e => ?_) (fun e => ?_)⟩)⟩
    · exact ⟨.int (k : Int), rfl, 7, (k : Int), rfl, rfl, mulx_ok (a := 3) (b := 41) (by decide) (by omega) (by decide), _, 3, rfl, rfl, q _ (by omega)⟩
    · have e : ¬ (((ns.map V.int).length : Int) = 0) := fun z => e (decide_eq_true z)
      rw [List.length_map] at e
      have f := @fmod_pos (k : Int) (ns.length : Int) (by omega)
      have hj : ((k : Int).fmod (ns.length : Int)).toNat < ns.length := by omega
      refine ⟨.ref s, rfl, .int (k : Int), rfl, .ref s, rfl, s, _, rfl, .inl hs, (k : Int), ((ns.map V.int).length : Int), rfl, rfl, (by rw [List.length_map]; exact e), s, _, _, .int ns[((k : Int).fmod (ns.length : Int)).toNat], rfl, rfl, hs, ?_, _, rfl, q _ (by split <;> omega)⟩
      refine at_of (j := ((k : Int).fmod (ns.length : Int)).toNat) ?_ ?_
      · show (k : Int).fmod ((ns.map V.int).length : Int) = _
        rw [List.length_map]
        omega
      · rw [List.getElem?_map, List.getElem?_eq_getElem hj]
        rfl
def sp_mixed (K : PySem.W.Frag) : Sp := fun vs H Q _ => ∃ (s : Addr) (ns : List Int) (k : Nat) (m : Int), vs = [.ref s, .int (k : Int), .int m] ∧ SqL K H s (ns.map V.int) ∧ k < 2 ^ 41 ∧ 0 < m ∧ ∀ v, 0 ≤ v → v < m → Q (.int v) H
theorem ok__law_mixed (T : Tx K mg) : FnOk P w K mg base CX0 2 T.f__law_mixed T.d__law_mixed ["_law_script", "_law_k", "_law_many"] (sp_mixed K) := by
  have G__law_cell := ok__law_cell (P := P) (w := w) (base := base) T
  refine T.F__law_mixed.ok sc__law_mixed (fun vs H Q E h => ?_) (fun cdv A outer s H vs Q E hr h => ?_)
  · obtain ⟨a, b, c, d, rfl, _⟩ := h
    rfl
  · obtain ⟨s, ns, k, m, rfl, hs, hk, hm, q⟩ := h
    refine ⟨_, (pss_cons (ps_set (i := 3) sc__law_mixed.nd rfl (Or.inl rfl) (pe_op op_modN (pe_op op_pow (pe_op op_add (pe_op op_mulX (pe_op op_add (pe_op op_modN (pe_call G__law_cell (hr.mono (by first | decide | omega)) (by rfl) T.g__law_cell T.F__law_cell.kp T.b__law_cell .nil pass0 (pa_cons (pv 0) (pa_cons (pv 1) pa_nil))) pe_int) pe_int) (pe_op op_add (pv 1) pe_int)) (pe_op op_mulX pe_int (pv 1))) pe_int) pe_int))
      (pss_one (ps_ret (pe_op op_modN (pe_op op_fdX (pv 3) pe_int) (pv 2))))), ?_⟩
    refine ⟨.ref s, rfl, .int (k : Int), rfl, s, ns, k, rfl, hs, hk, fun v hv => ?_⟩
    have f := @fmod_pos v 1000003 (by decide)
    refine ⟨v, 1000003, rfl, rfl, (show (1000003 : Int) ≠ 0 by decide), _, 5, rfl, rfl, .int (k : Int), rfl, (k : Int), 2, rfl, rfl, _, _, rfl, rfl, mulx_ok (a := 20) (b := 42) (by omega) (by omega) (by decide), .int (k : Int), rfl, 7919, (k : Int), rfl, rfl, mulx_ok (a := 13) (b := 41) (by decide) (by omega) (by decide), _, _, rfl, rfl, ?_⟩
    have hu : ((v.fmod 1000003 + 5) * ((k : Int) + 2) + 7919 * (k : Int)).natAbs < 2 ^ 64 := by
      have h1 : (v.fmod 1000003 + 5) * ((k : Int) + 2) ≤ 1000008 * ((k : Int) + 2) := Int.mul_le_mul_of_nonneg_right (by omega) (by omega)
      have h0 : 0 ≤ (v.fmod 1000003 + 5) * ((k : Int) + 2) := Int.mul_nonneg (by omega) (by omega)
      omega
    refine ⟨_, 5, rfl, rfl, ⟨by decide, by decide, hu⟩, _, 2147483647, rfl, rfl, (show (2147483647 : Int) ≠ 0 by decide), ?_⟩
    refine ⟨_, rfl, _, 13, rfl, rfl, ⟨by decide, bt13⟩, .int m, rfl, _, m, rfl, rfl, (show m ≠ 0 by omega), ?_⟩
    have g := @fmod_pos (((((v.fmod 1000003 + 5) * ((k : Int) + 2) + 7919 * (k : Int)) ^ (5 : Int).toNat).fmod 2147483647).fdiv 13) m hm
    exact q _ g.1 g.2
end

section
variable {P : Program} {w : World} {K : PySem.W.Frag} {mg : Str → Option Value} {base : Heap}
def sp_take (K : PySem.W.Frag) : Sp := fun vs H Q _ => ∃ (d l s : Addr) (ns : List Int) (c : Nat) (m : Int), vs = [.ref d, .int m] ∧ Dk K H d l s ns c ∧ c < 2 ^ 40 ∧ 0 < m ∧ m < 2 ^ 60 ∧
  ∀ H' v, Keep d l H H' → Dk K H' d l s ns (c + 1) → 0 ≤ v → v < m → Q (.int v) H'
theorem ok__law_take (T : Tx K mg) : FnOk P w K mg base CX0 3 T.f__law_take T.d__law_take ["_law_deck_here", "_law_many"] (sp_take K) := by
  have G__law_mixed := ok__law_mixed (P := P) (w := w) (base := base) T
  refine T.F__law_take.ok sc__law_take (fun vs H Q E h => ?_) (fun cdv A outer s H vs Q E hr h => ?_)
  · obtain ⟨_, _, _, _, _, _, rfl, _⟩ := h
    rfl
  · obtain ⟨d, l, s, ns, c, m, rfl, hD, hc, hm, hm2, q⟩ := h
    refine ⟨_, (pss_cons (ps_while PassesOwn.never (pt_cmpR op_lt (pe_ix ix_list (pv 0) pe_int (fun _ _ => rfl)) (pe_callB call_len_seq (by rfl) T.m_len (by decide +kernel) (pa_cons (pe_ix ix_list (pv 0) pe_int (fun _ _ => rfl)) pa_nil)) (nomark _)) (pss_cons (ps_set (i := 2) sc__law_take.nd rfl (Or.inl rfl) (pe_ix ix_list (pe_ix ix_list (pv 0) pe_int (fun _ _ => rfl)) (pe_ix ix_list (pv 0) pe_int (fun _ _ => rfl)) (fun _ _ => rfl)))
      (pss_cons (ps_if (pt_cmpR op_gt (pv 2) pe_int (nomark _)) (pss_cons (ps_asg (pe_op op_fdX (pv 2) (pv 1)) (pg_sub (pe_ix ix_list (pv 0) pe_int (fun _ _ => rfl)) (pe_ix ix_list (pv 0) pe_int (fun _ _ => rfl)) set_list))
      (pss_one (ps_ret (pe_op op_modN (pv 2) (pv 1))))) pss_nil)
      (pss_one (ps_asg (pe_op op_add (pe_ix ix_list (pv 0) pe_int (fun _ _ => rfl)) pe_int) (pg_sub (pv 0) pe_int set_list))))))
      (pss_cons (ps_asg (pe_op op_add (pe_ix ix_list (pv 0) pe_int (fun _ _ => rfl)) pe_int) (pg_sub (pv 0) pe_int set_list))
      (pss_one (ps_ret (pe_call G__law_mixed (hr.mono (by first | decide | omega)) (by rfl) T.g__law_mixed T.F__law_mixed.kp T.b__law_mixed .nil pass0 (pa_cons (pe_ix ix_list (pv 0) pe_int (fun _ _ => rfl)) (pa_cons (pe_ix ix_list (pv 0) pe_int (fun _ _ => rfl)) (pa_cons (pv 1) pa_nil)))))))), ?_⟩
    have hdl := hD.ne
    obtain ⟨xs, i, k, hd, hl, hk, hs⟩ := hD
    refine ⟨fun n σ H1 => ∃ (xs : List Int) (i k : Nat) (y : Option V), σ = [some (.ref d), some (.int m), y] ∧ Keep d l H H1 ∧ H1 d = some (.lst [.ref s, .ref l, .int (i : Int), .int (k : Int)]) ∧ H1 l = some (.lst (xs.map V.int)) ∧ k ≤ c ∧ Sct K H1 d l s (ns.map V.int) ∧ n = xs.length - i,
      ⟨_, xs, i, k, none, rfl, Keep.refl, hd, hl, hk, hs, rfl⟩, fun n σ H1 hW => ?_⟩
    obtain ⟨xs, i, k, y, rfl, kp, hd, hl, hk, hs, rfl⟩ := hW
    refine ⟨.ref d, rfl, d, _, 2, .int (i : Int), rfl, rfl, SqL.of hd, rfl, .ref d, rfl, d, _, 1, .ref l, rfl, rfl, SqL.of hd, rfl, l, _, rfl, .inl (SqL.of hl), (i : Int), ((xs.map V.int).length : Int), rfl, rfl, _, rfl, ite2 (fun e => ?_) (fun e => ?_)⟩
    · have hi := of_decide_eq_true e
      rw [List.length_map] at hi
      have hi : i < xs.length := by omega
      refine ⟨fun σ' H' => ∃ m', m' < xs.length - i ∧ ∃ (xs : List Int) (i k : Nat) (y : Option V), σ' = [some (.ref d), some (.int m), y] ∧ Keep d l H H' ∧ H' d = some (.lst [.ref s, .ref l, .int (i : Int), .int (k : Int)]) ∧ H' l = some (.lst (xs.map V.int)) ∧ k ≤ c ∧ Sct K H' d l s (ns.map V.int) ∧ m' = xs.length - i,
        fun _ _ h => h, ?_⟩
      have ga : (xs.map V.int)[i]? = some (.int xs[i]) := by
        rw [List.getElem?_map, List.getElem?_eq_getElem hi]
        rfl
      refine ⟨.ref d, rfl, d, _, 1, .ref l, rfl, rfl, SqL.of hd, rfl, .ref d, rfl, d, _, 2, .int (i : Int), rfl, rfl, SqL.of hd, rfl, l, _, (i : Int), .int xs[i], rfl, rfl, SqL.of hl, atI_nat ga, ?_⟩
      refine ⟨.int xs[i], rfl, xs[i], 0, rfl, rfl, _, rfl, ite2 (fun e => ?_) (fun e => ?_)⟩
      · have f := @fmod_pos xs[i] m hm
        have ix : ixN (xs.map V.int).length (i : Int) = some i := by
          unfold ixN
          rw [List.length_map, if_pos (by omega), if_pos (by omega)]
          rfl
        refine ⟨.int xs[i], rfl, .int m, rfl, xs[i], m, rfl, rfl, ⟨(show m ≠ 0 by omega), bt_small (by omega)⟩, .ref d, rfl, d, _, 1, .ref l, rfl, rfl, SqL.of hd, rfl, .ref d, rfl, d, _, 2, .int (i : Int), rfl, rfl, SqL.of hd, rfl, l, _, (i : Int), i, rfl, rfl, hl, ix, ?_⟩
        refine ⟨.int xs[i], rfl, .int m, rfl, xs[i], m, rfl, rfl, (show m ≠ 0 by omega), q _ _ (kp.trans keep_l) ?_ f.1 f.2⟩
        refine ⟨xs.set i (xs[i].fdiv m), i, k, ?_, ?_, by omega, hs.keep keep_l⟩
        · rw [upd_ne hdl]
          exact hd
        · rw [upd_same, List.map_set]
      · refine ⟨.ref d, rfl, d, _, 2, .int (i : Int), rfl, rfl, SqL.of hd, rfl, (i : Int), 1, rfl, rfl, .ref d, rfl, d, _, 2, 2, rfl, rfl, hd, rfl, ?_⟩
        refine ⟨_, ?_, xs, i + 1, k, some (.int xs[i]), rfl, kp.trans keep_d, upd_same, ?_, hk, hs.keep keep_d, rfl⟩
        · omega
        · rw [upd_ne hdl.symm]
          exact hl
    · refine ⟨.ref d, rfl, d, _, 3, .int (k : Int), rfl, rfl, SqL.of hd, rfl, (k : Int), 1, rfl, rfl, .ref d, rfl, d, _, 3, 3, rfl, rfl, hd, rfl, ?_⟩
      have hd' : upd H1 d (.lst [.ref s, .ref l, .int (i : Int), .int ((k + 1 : Nat) : Int)]) d = some (.lst [.ref s, .ref l, .int (i : Int), .int ((k + 1 : Nat) : Int)]) := upd_same
      have hs' : Sct K (upd H1 d (.lst [.ref s, .ref l, .int (i : Int), .int ((k + 1 : Nat) : Int)])) d l s (ns.map V.int) := hs.keep keep_d
      refine ⟨.ref d, rfl, d, _, 0, .ref s, rfl, rfl, SqL.of hd', rfl, .ref d, rfl, d, _, 3, .int ((k + 1 : Nat) : Int), rfl, rfl, SqL.of hd', rfl, .int m, rfl, s, ns, k + 1, m, rfl, hs'.sq, by omega, hm, fun v v0 v1 => ?_⟩
      refine q _ v (kp.trans keep_d) ⟨xs, i, k + 1, hd', ?_, by omega, hs'⟩ v0 v1
      rw [upd_ne hdl.symm]
      exact hl
def sp_deck (K : PySem.W.Frag) : Sp := fun vs H Q _ => ∃ (s : Addr) (ns : List Int), vs = [.ref s] ∧ SqL K H s (ns.map V.int) ∧ ns.length ≤ 63 ∧
  ∀ H' d l, Same H H' → Dk K H' d l s ns 0 → H d = none → H l = none → Q (.ref d) H'
theorem ok__law_deck (T : Tx K mg) : FnOk P w K mg base CX0 1 T.f__law_deck T.d__law_deck ["_law_script"] (sp_deck K) := by
  refine T.F__law_deck.ok sc__law_deck (fun vs H Q E h => ?_) (fun cdv A outer s H vs Q E hr h => ?_)
  · obtain ⟨_, _, rfl, _⟩ := h
    rfl
  · obtain ⟨s, ns, rfl, hs, hn, q⟩ := h
    refine ⟨_, (pss_one (ps_ret (pe_lst (pa_cons (pv 0) (pa_cons (pe_lc (own := [("_law_part", 1)]) (g := gName 1) (by rfl) sc__law_deck.nd (pi_list (pv 0)) (blkOk_by (own := [("_law_part", 1)]) (N := nm__law_deck) (sc := defScope s__law_deck) (by decide +kernel)) (fun _ _ _ _ _ => (pg_name (i := 1) sc__law_deck.nd rfl (Or.inl rfl))) (fun _ _ _ _ _ => (pts_one (pt_cmpR op_ge (pe_callB call_abs (by rfl) T.m_abs (by decide +kernel) (pa_cons (pv 1) pa_nil)) (pe_op op_pow pe_int pe_int) (nomark _)))) (fun _ _ _ _ _ => (pe_callB call_abs (by rfl) T.m_abs (by decide +kernel) (pa_cons (pv 1) pa_nil)))) (pa_cons pe_int (pa_cons pe_int pa_nil))))))), ?_⟩
    refine ⟨.ref s, rfl, .ref s, rfl, s, rfl, ⟨_, hs⟩, fun D nD => ?_⟩
    refine lc_list (K := K) (a := s) (xs := ns.map V.int) (fun i H' => Same H H' ∧ ∃ xs : List Int, H' D = some (.lst (xs.map V.int)) ∧ xs.length ≤ i) ⟨same_upd nD, [], upd_same, Nat.le_refl _⟩ (fun i H' _ h => h.1.seq hs) (fun i x H' hx h => ?_) (fun H' h => ?_)
    · obtain ⟨hS, xs, hx', hxl⟩ := h
      have hil : i < (ns.map V.int).length := (List.getElem?_eq_some_iff.mp hx).1
      rw [List.length_map] at hil
      obtain ⟨z, rfl⟩ : ∃ z, x = .int z := by
        rw [List.getElem?_map, List.getElem?_eq_getElem hil] at hx
        exact ⟨_, (Option.some.inj hx).symm⟩
      refine ⟨rfl, .int z, rfl, z, rfl, 10, 18, rfl, rfl, ⟨by decide, by decide, by decide⟩, _, _, rfl, rfl, _, rfl, ite2 (fun e => ?_) (fun e => ?_)⟩
      · refine ⟨.int z, rfl, z, rfl, _, hx', small1000 (by rw [List.length_map]; omega), fun a o e => ?_, xs ++ [if z < 0 then -z else z], ?_, ?_⟩
        · rw [upd_ne (ne_of_none e nD)]
          exact hS a o e
        · rw [upd_same, List.map_append]
          rfl
        · rw [List.length_append]
          exact Nat.add_le_add_right hxl 1
      · exact ⟨hS, xs, hx', by omega⟩
    · obtain ⟨hS, xs, hx', hxl⟩ := h
      refine ⟨sz_n (by decide : 4 ≤ 1000), fun d nd => ?_⟩
      have nd0 : H d = none := hS.free nd
      refine q _ d D (hS.trans (same_upd nd)) ⟨xs, 0, 0, upd_same, ?_, Nat.le_refl _, sct_of hs (hS.trans (same_upd nd)) nd0 nD⟩ nd0 nD
      rw [upd_ne (ne_of_none hx' nd)]
      exact hx'
def sp_figures (K : PySem.W.Frag) : Sp := fun vs H Q _ => ∃ (d l s : Addr) (ns : List Int) (c : Nat), vs = [.ref d] ∧ Dk K H d l s ns c ∧ c + 4 < 2 ^ 40 ∧
  ∀ H' v, Keep d l H H' → Dk K H' d l s ns (c + 3) → 0 ≤ v → v ≤ 999999 → Q (.int v) H'
theorem ok__law_figures (T : Tx K mg) : FnOk P w K mg base CX0 4 T.f__law_figures T.d__law_figures ["_law_deck_here"] (sp_figures K) := by
  have G__law_take := ok__law_take (P := P) (w := w) (base := base) T
  refine T.F__law_figures.ok sc__law_figures (fun vs H Q E h => ?_) (fun cdv A outer s H vs Q E hr h => ?_)
  · obtain ⟨_, _, _, _, _, rfl, _⟩ := h
    rfl
  · obtain ⟨d, l, s, ns, c, rfl, hD, hc, q⟩ := h
    refine ⟨_, (pss_cons (ps_set (i := 1) sc__law_figures.nd rfl (Or.inl rfl) (pe_call G__law_take (hr.mono (by first | decide | omega)) (by rfl) T.g__law_take T.F__law_take.kp T.b__law_take .nil pass0 (pa_cons (pv 0) (pa_cons pe_int pa_nil))))
      (pss_cons (ps_if (pt_cmpR op_lt (pv 1) pe_int (nomark _)) (pss_one (ps_ret (pe_call G__law_take (hr.mono (by first | decide | omega)) (by rfl) T.g__law_take T.F__law_take.kp T.b__law_take .nil pass0 (pa_cons (pv 0) (pa_cons pe_int pa_nil))))) pss_nil)
      (pss_cons (ps_if (pt_cmpR op_eq (pv 1) pe_int (nomark _)) (pss_one (ps_ret (pe_op op_add (pe_op op_mulX (pe_call G__law_take (hr.mono (by first | decide | omega)) (by rfl) T.g__law_take T.F__law_take.kp T.b__law_take .nil pass0 (pa_cons (pv 0) (pa_cons pe_int pa_nil))) pe_int) (pe_call G__law_take (hr.mono (by first | decide | omega)) (by rfl) T.g__law_take T.F__law_take.kp T.b__law_take .nil pass0 (pa_cons (pv 0) (pa_cons pe_int pa_nil)))))) pss_nil)
      (pss_one (ps_ret (pe_op op_sub pe_int (pe_call G__law_take (hr.mono (by first | decide | omega)) (by rfl) T.g__law_take T.F__law_take.kp T.b__law_take .nil pass0 (pa_cons (pv 0) (pa_cons pe_int pa_nil))))))))), ?_⟩
    refine ⟨.ref d, rfl, d, l, s, ns, c, 4, rfl, hD, by omega, by decide, by decide, fun H1 k k1 D1 _ _ => ?_⟩
    refine ⟨.int k, rfl, k, 2, rfl, rfl, _, rfl, ite2 (fun _ => ?_) (fun _ => ?_)⟩
    · exact ⟨.ref d, rfl, d, l, s, ns, c + 1, 12, rfl, D1, by omega, by decide, by decide, fun H2 v k2 D2 v0 v1 => q H2 v (k1.trans k2) (D2.mono (by omega)) v0 (by omega)⟩
    · refine ⟨.int k, rfl, rfl, _, rfl, ite2 (fun _ => ?_) (fun _ => ?_)⟩
      · refine ⟨.ref d, rfl, d, l, s, ns, c + 1, 1000, rfl, D1, by omega, by decide, by decide, fun H2 v k2 D2 v0 v1 => ?_⟩
        refine ⟨v, 1000, rfl, rfl, mulx_ok (a := 10) (b := 10) (by omega) (by decide) (by decide), ?_⟩
        exact ⟨.ref d, rfl, d, l, s, ns, c + 2, 1000, rfl, D2, by omega, by decide, by decide, fun H3 u k3 D3 u0 u1 => ⟨_, _, rfl, rfl, q H3 _ (k1.trans (k2.trans k3)) (D3.mono (by omega)) (by omega) (by omega)⟩⟩
      · exact ⟨.ref d, rfl, d, l, s, ns, c + 1, 3, rfl, D1, by omega, by decide, by decide, fun H2 v k2 D2 v0 v1 => ⟨_, _, rfl, rfl, q H2 _ (k1.trans k2) (D2.mono (by omega)) (by omega) (by omega)⟩⟩
end

section
variable {P : Program} {w : World} {K : PySem.W.Frag} {mg : Str → Option Value} {base : Heap}
def sp_is : Sp := fun vs H Q _ => ∃ v1 v2 q, vs = [v1, v2] ∧ FrV H v1 q ∧ FrV H v2 q ∧ ∀ H', Same H H' → Q (.bl true) H'
theorem ok__law_is (T : Tx K mg) : FnOk P w K mg base CX0 1 T.f__law_is T.d__law_is ["_law_found", "_law_due"] sp_is := by
  refine T.F__law_is.ok sc__law_is (fun vs H Q E h => ?_) (fun cdv A outer s H vs Q E hr h => ?_)
  · obtain ⟨_, _, _, rfl, _⟩ := h
    rfl
  · obtain ⟨_, _, f, rfl, ⟨p1, rfl, h1⟩, ⟨p2, rfl, h2⟩, q⟩ := h
    refine ⟨_, (pss_cons (ps_if (PW.pt (pw_or (pt_not (pt_val (pe_callB call_isi (by rfl) T.m_isinstance (by decide +kernel) (pa_cons (pv 0) (pa_cons (pe_bltn (v := .ty "tuple") (by rfl) T.m_tuple (by decide +kernel) rfl) pa_nil))))) (pw_or (pt_cmpR op_ne (pe_callB call_len_seq (by rfl) T.m_len (by decide +kernel) (pa_cons (pv 0) pa_nil)) pe_int (nomark _)) (pw_or1 (pt_cmpR (op_neD hr.units) (pv 0) (pv 1) (nomark _)))))) (pss_one (ps_ret pe_bl)) pss_nil)
      (pss_one (ps_ret (pe_cmpR (op_eqD hr.units) (pe_lc (own := [("_law_part", 2)]) (g := gName 2) (by rfl) sc__law_is.nd (pi_tup (pv 0)) (blkOk_by (own := [("_law_part", 2)]) (N := nm__law_is) (sc := defScope s__law_is) (by decide +kernel)) (fun _ _ _ _ _ => (pg_name (i := 2) sc__law_is.nd rfl (Or.inl rfl))) (fun _ _ _ _ _ => (pts_one (PW.pt (pw_or (pt_not (pt_val (pe_callB (call_isiC (K := K) rfl) (by rfl) T.m_isinstance (by decide +kernel) (pa_cons (pv 2) (pa_cons (pe_bltn (v := .ty "int") (by rfl) T.m_int (by decide +kernel) rfl) pa_nil))))) (pw_or1 (pt_val (pe_callB (call_isiC (K := K) rfl) (by rfl) T.m_isinstance (by decide +kernel) (pa_cons (pv 2) (pa_cons (pe_bltn (v := .ty "bool") (by rfl) T.m_bool (by decide +kernel) rfl) pa_nil))))))))) (fun _ _ _ _ _ => (pv 2))) (pe_lst pa_nil) (nomark _))))), ?_⟩
    refine ⟨.ref p1, rfl, _, _, _, _, true, rfl, .ty _, .base (.tup h1), kit_ty (by decide +kernel), true, rfl, iteF ?_⟩
    refine ⟨.ref p1, rfl, p1, _, rfl, .inr (SqT.of h1), rfl, _, rfl, iteNS rfl ?_⟩
    refine ⟨.ref p1, rfl, .ref p2, rfl, _, _, Dp.tup (SqT.of h1) (DpAll.cons (Dp.int _) (DpAll.cons (Dp.int _) DpAll.nil)), Dp.tup (SqT.of h2) (DpAll.cons (Dp.int _) (DpAll.cons (Dp.int _) DpAll.nil)), rfl, rfl, _, rfl, ?_⟩
    refine ite_no (by rw [SeqAt.eqv_refl] <;> first | rfl | decide) ?_
    refine ⟨.ref p1, rfl, p1, rfl, ⟨_, SqT.of h1⟩, fun D nD => ?_⟩
    refine lc_tup (K := K) (a := p1) (xs := [V.int f.num, V.int (f.den : Int)]) (fun i H' => H' = upd H D (.lst [])) rfl (fun i H' _ e => ?_) (fun i x H' hx e => ?_) (fun H' e => ?_)
    · subst e
      exact same_tup (same_upd nD) (SqT.of h1)
    · subst e
      obtain ⟨z, rfl⟩ : ∃ z, x = .int z := by
        match i, hx with
        | 0, hx => exact ⟨_, (Option.some.inj hx).symm⟩
        | 1, hx => exact ⟨_, (Option.some.inj hx).symm⟩
      refine ⟨rfl, .int z, rfl, _, _, _, _, true, rfl, .ty _, .base (.int z), kit_ty (by decide +kernel), true, rfl, iteF ?_⟩
      exact ⟨.int z, rfl, _, _, _, _, false, rfl, .ty _, .base (.int z), kit_ty (by decide +kernel), false, rfl, iteF rfl⟩
    · subst e
      refine ⟨Nat.zero_le _, fun p3 h3 => ?_⟩
      have hD : upd (upd H D (.lst [])) p3 (.lst []) D = some (.lst []) := by
        rw [upd_ne (ne_of_none upd_same h3)]
        exact upd_same
      exact ⟨_, _, Dp.lst (SqL.of hD) DpAll.nil, Dp.lst (SqL.of upd_same) DpAll.nil, rfl, rfl, q _ ((same_upd nD).trans (same_upd h3))⟩
end

/-! ### is_fraction of anything -/
theorem lowest {a b : Int} (hb : 0 < b) : (decide ((Rat.divInt a b).num = a) && decide (((Rat.divInt a b).den : Int) = b)) = decide (0 < b ∧ Int.gcd a b = 1) := by
  by_cases h : Int.gcd a b = 1
  · have e : sg a b = 1 := by
      unfold sg
      rw [if_neg (by omega), h]
      rfl
    have h1 := sg_num (a := a) (b := b) (by omega)
    have h2 := sg_den (a := a) (b := b) (by omega)
    rw [e] at h1 h2
    have k : ∀ z : Int, z.fdiv 1 = z := fun z => by
      rw [Int.fdiv_eq_ediv_of_nonneg z (by decide), Int.ediv_one]
    rw [k] at h1 h2
    rw [decide_eq_true h1.symm, decide_eq_true h2.symm, decide_eq_true ⟨hb, h⟩]
    rfl
  · have r := (Rat.divInt a b).reduced
    rw [decide_eq_false fun z : 0 < b ∧ Int.gcd a b = 1 => h z.2]
    by_cases h1 : (Rat.divInt a b).num = a
    · by_cases h2 : ((Rat.divInt a b).den : Int) = b
      · refine absurd ?_ h
        have e : Int.gcd a b = Nat.gcd a.natAbs b.natAbs := rfl
        rw [e]
        have e2 : b.natAbs = (Rat.divInt a b).den := by omega
        rw [e2]
        rw [h1] at r
        exact r
      · rw [decide_eq_false h2, Bool.and_false]
    · rw [decide_eq_false h1, Bool.false_and]
/-- what is_whole tells -/
def Wh (K : PySem.W.Frag) (H : Hp) (x : V) (b : Bool) : Prop := (∃ i, x = .int i ∧ b = true) ∨
  (b = false ∧ ∃ t, TyX K H x t ∧ (PySem.W.kitOne K t (.type "int") = some false ∨ (PySem.W.kitOne K t (.type "int") = some true ∧ PySem.W.kitOne K t (.type "bool") = some true)))
inductive IsFr (K : PySem.W.Frag) (H : Hp) : V → Bool → Prop
  | other {v : V} {t : Value} (ty : TyX K H v t) (h : PySem.W.kitOne K t (.type "tuple") = some false) : IsFr K H v false
  | len {p : Addr} {xs : List V} (h : H p = some (.tup xs)) (hl : xs.length ≠ 2) : IsFr K H (.ref p) false
  | part1 {p : Addr} {x y : V} (h : H p = some (.tup [x, y])) (hx : Wh K H x false) : IsFr K H (.ref p) false
  | part2 {p : Addr} {i : Int} {y : V} (h : H p = some (.tup [.int i, y])) (hy : Wh K H y false) : IsFr K H (.ref p) false
  | whole {p : Addr} {a b : Int} (h : H p = some (.tup [.int a, .int b])) (hB : Bt 9000 b) : IsFr K H (.ref p) (decide (0 < b ∧ Int.gcd a b = 1))
section
variable {P : Program} {w : World} {K : PySem.W.Frag} {mg : Str → Option Value} {base : Heap}
def sp_whole (K : PySem.W.Frag) : Sp := fun vs H Q _ => ∃ x b, vs = [x] ∧ Wh K H x b ∧ Q (.bl b) H
theorem ok_is_whole (T : Tx K mg) : FnOk P w K mg base CX0 1 T.f_is_whole T.d_is_whole ["thing"] (sp_whole K) := by
  refine T.F_is_whole.ok sc_is_whole (fun vs H Q E h => ?_) (fun cdv A outer s H vs Q E hr h => ?_)
  · obtain ⟨_, _, rfl, _⟩ := h
    rfl
  · obtain ⟨x, b, rfl, hx, q⟩ := h
    refine ⟨_, (pss_one (ps_ret (pe_and (pe_callB call_isi (by rfl) T.m_isinstance (by decide +kernel) (pa_cons (pv 0) (pa_cons (pe_bltn (v := .ty "int") (by rfl) T.m_int (by decide +kernel) rfl) pa_nil))) (pe_one (pe_not (pe_callB call_isi (by rfl) T.m_isinstance (by decide +kernel) (pa_cons (pv 0) (pa_cons (pe_bltn (v := .ty "bool") (by rfl) T.m_bool (by decide +kernel) rfl) pa_nil)))))))), ?_⟩
    rcases hx with ⟨i, rfl, rfl⟩ | ⟨rfl, t, ty, h | ⟨h1, h2⟩⟩
    · refine ⟨_, rfl, _, _, _, _, true, rfl, .ty _, .base (.int i), kit_ty (by decide +kernel), true, rfl, iteT ?_⟩
      exact ⟨_, rfl, _, _, _, _, false, rfl, .ty _, .base (.int i), kit_ty (by decide +kernel), false, rfl, q⟩
    · exact ⟨_, rfl, _, _, _, _, false, rfl, .ty _, ty, h, false, rfl, iteF q⟩
    · refine ⟨_, rfl, _, _, _, _, true, rfl, .ty _, ty, h1, true, rfl, iteT ?_⟩
      exact ⟨_, rfl, _, _, _, _, true, rfl, .ty _, ty, h2, true, rfl, q⟩
def sp_isfr (K : PySem.W.Frag) : Sp := fun vs H Q _ => ∃ v b, vs = [v] ∧ IsFr K H v b ∧ ∀ H', Same H H' → Q (.bl b) H'
theorem ok_is_fraction (T : Tx K mg) : FnOk P w K mg base CX0 2 T.f_is_fraction T.d_is_fraction ["thing"] (sp_isfr K) := by
  have G_frac := ok_frac (P := P) (w := w) (base := base) T
  have G_is_whole := ok_is_whole (P := P) (w := w) (base := base) T
  refine T.F_is_fraction.ok sc_is_fraction (fun vs H Q E h => ?_) (fun cdv A outer s H vs Q E hr h => ?_)
  · obtain ⟨_, _, rfl, _⟩ := h
    rfl
  · obtain ⟨v, b, rfl, hv, q⟩ := h
    refine ⟨_, (pss_cons (ps_if (PW.pt (pw_or (pt_not (pt_val (pe_callB call_isi (by rfl) T.m_isinstance (by decide +kernel) (pa_cons (pv 0) (pa_cons (pe_bltn (v := .ty "tuple") (by rfl) T.m_tuple (by decide +kernel) rfl) pa_nil))))) (pw_or1 (pt_cmpR op_ne (pe_callB call_len_seq (by rfl) T.m_len (by decide +kernel) (pa_cons (pv 0) pa_nil)) pe_int (nomark _))))) (pss_one (ps_ret pe_bl)) pss_nil)
      (pss_cons (ps_asg (pv 0) (pg_tup (by rfl) (pgs_cons (pg_name (i := 1) sc_is_fraction.nd rfl (Or.inl rfl)) (pgs_cons (pg_name (i := 2) sc_is_fraction.nd rfl (Or.inl rfl)) pgs_nil))))
      (pss_cons (ps_if (PW.pt (pw_or (pt_not (pt_val (pe_call G_is_whole (hr.mono (by first | decide | omega)) (by rfl) T.g_is_whole T.F_is_whole.kp T.b_is_whole .nil pass0 (pa_cons (pv 1) pa_nil)))) (pw_or (pt_not (pt_val (pe_call G_is_whole (hr.mono (by first | decide | omega)) (by rfl) T.g_is_whole T.F_is_whole.kp T.b_is_whole .nil pass0 (pa_cons (pv 2) pa_nil)))) (pw_or1 (pt_cmpR op_lt (pv 2) pe_int (nomark _)))))) (pss_one (ps_ret pe_bl)) pss_nil)
      (pss_one (ps_ret (pe_cmpR (op_eqD hr.units) (pe_call G_frac (hr.mono (by first | decide | omega)) (by rfl) T.g_frac T.F_frac.kp T.b_frac .nil pass0 (pa_cons (pv 1) (pa_cons (pv 2) pa_nil))) (pe_tup (pa_cons (pv 1) (pa_cons (pv 2) pa_nil))) (nomark _))))))), ?_⟩
    have q0 := q H (Same.refl H)
    cases hv with
    | other ty h => exact ⟨_, rfl, _, _, _, _, false, rfl, .ty _, ty, h, false, rfl, iteT q0⟩
    | @len p xs h hl =>
      refine ⟨_, rfl, _, _, _, _, true, rfl, .ty _, .base (.tup h), kit_ty (by decide +kernel), true, rfl, iteF ?_⟩
      refine ⟨_, rfl, p, xs, rfl, .inr (SqT.of h), rfl, _, rfl, ite_yes ?_ q0⟩
      have e : ¬ V.int (xs.length : Int) = V.int 2 := fun z => hl (by have := V.int.inj z; omega)
      rw [decide_eq_false e]
      rfl
    | @part1 p x y h hx =>
      refine ⟨_, rfl, _, _, _, _, true, rfl, .ty _, .base (.tup h), kit_ty (by decide +kernel), true, rfl, iteF ?_⟩
      refine ⟨_, rfl, p, _, rfl, .inr (SqT.of h), rfl, _, rfl, iteNS rfl ?_⟩
      refine ⟨_, rfl, p, _, rfl, SqT.of h, rfl, _, _, rfl, _, _, rfl, rfl, ?_⟩
      exact ⟨_, rfl, x, false, rfl, hx, false, rfl, iteT q0⟩
    | @part2 p i y h hy =>
      refine ⟨_, rfl, _, _, _, _, true, rfl, .ty _, .base (.tup h), kit_ty (by decide +kernel), true, rfl, iteF ?_⟩
      refine ⟨_, rfl, p, _, rfl, .inr (SqT.of h), rfl, _, rfl, iteNS rfl ?_⟩
      refine ⟨_, rfl, p, _, rfl, SqT.of h, rfl, _, _, rfl, _, _, rfl, rfl, ?_⟩
      refine ⟨_, rfl, _, true, rfl, .inl ⟨i, rfl, rfl⟩, true, rfl, iteF ?_⟩
      exact ⟨_, rfl, y, false, rfl, hy, false, rfl, iteT q0⟩
    | @whole p a b h hB =>
      refine ⟨_, rfl, _, _, _, _, true, rfl, .ty _, .base (.tup h), kit_ty (by decide +kernel), true, rfl, iteF ?_⟩
      refine ⟨_, rfl, p, _, rfl, .inr (SqT.of h), rfl, _, rfl, iteNS rfl ?_⟩
      refine ⟨_, rfl, p, _, rfl, SqT.of h, rfl, _, _, rfl, _, _, rfl, rfl, ?_⟩
      refine ⟨_, rfl, _, true, rfl, .inl ⟨a, rfl, rfl⟩, true, rfl, iteF ?_⟩
      refine ⟨_, rfl, _, true, rfl, .inl ⟨b, rfl, rfl⟩, true, rfl, iteF ?_⟩
      refine ⟨_, rfl, b, 1, rfl, rfl, _, rfl, ite2 (fun e => ?_) (fun e => ?_)⟩
      · have e := of_decide_eq_true e
        have f : ¬ (0 < b ∧ Int.gcd a b = 1) := by omega
        rw [decide_eq_false f] at q0
        exact q0
      · have e : ¬ b < 1 := fun z => e (decide_eq_true z)
        refine ⟨_, rfl, _, rfl, a, b, rfl, (show b ≠ 0 by omega), hB, fun H1 v1 s1 f1 => ?_⟩
        obtain ⟨p1, rfl, h1⟩ := f1
        refine ⟨_, rfl, _, rfl, sz_n (by decide : 2 ≤ 1000), fun p2 n2 => ?_⟩
        have s2 := same_upd (o := .tup [.int a, .int b]) n2
        refine ⟨_, _, Dp.tup (SqT.of (s2 _ _ h1)) (DpAll.cons (Dp.int _) (DpAll.cons (Dp.int _) DpAll.nil)), Dp.tup (SqT.of upd_same) (DpAll.cons (Dp.int _) (DpAll.cons (Dp.int _) DpAll.nil)), rfl, rfl, ?_⟩
        rw [eqv2, lowest (by omega)]
        exact q _ (s1.trans s2)
end

/-! ### anything, as the law hands it in -/
/-- a part that is no whole number -/
inductive Pk (K : PySem.W.Frag) (H : Hp) : V → PyData → Prop
  | bl (b : Bool) : Pk K H (.bl b) (.bool b)
  | str (z : Str) (ok : (PyData.str z).canLay0 = true) : Pk K H (.str z) (.str z)
  | non : Pk K H .non .none
  | tup {p : Addr} {a b : Int} (h : H p = some (.tup [.int a, .int b])) : Pk K H (.ref p) (.tuple [.int a, .int b])
inductive ThK (K : PySem.W.Frag) (H : Hp) : V → Bool → Prop
  | whole {p : Addr} {a b : Int} (h : H p = some (.tup [.int a, .int b])) (hB : Bt 9000 b) : ThK K H (.ref p) (decide (0 < b ∧ Int.gcd a b = 1))
  | one1 {p : Addr} {x : V} {j : Int} {d : PyData} (h : H p = some (.tup [x, .int j])) (hx : Pk K H x d) : ThK K H (.ref p) false
  | one2 {p : Addr} {i : Int} {y : V} {d : PyData} (h : H p = some (.tup [.int i, y])) (hy : Pk K H y d) : ThK K H (.ref p) false
  | two {p : Addr} {x y : V} {d e : PyData} (h : H p = some (.tup [x, y])) (hx : Pk K H x d) (hy : Pk K H y e) : ThK K H (.ref p) false
  | len {p : Addr} {xs : List V} (h : H p = some (.tup xs)) (hl : xs.length ≠ 2) : ThK K H (.ref p) false
  | lst {p : Addr} {xs : List V} (h : H p = some (.lst xs)) : ThK K H (.ref p) false
  | dct {p : Addr} {kvs : List (Key × V)} (h : H p = some (.dK kvs)) : ThK K H (.ref p) false
  | non : ThK K H .non false
  | int (i : Int) : ThK K H (.int i) false
  | str (z : Str) : ThK K H (.str z) false
theorem Pk.imp {K : PySem.W.Frag} {H H' : Hp} {x : V} {d : PyData} (e : ∀ p xs, H p = some (.tup xs) → H' p = some (.tup xs)) (h : Pk K H x d) : Pk K H' x d := by
  cases h with
  | bl b => exact .bl b
  | str z ok => exact .str z ok
  | non => exact .non
  | tup h => exact .tup (e _ _ h)
theorem ThK.imp {K : PySem.W.Frag} {H H' : Hp} {v : V} {b : Bool} (e : ∀ p xs, H p = some (.tup xs) → H' p = some (.tup xs)) (e2 : ∀ p kvs, H p = some (.dK kvs) → H' p = some (.dK kvs)) (e3 : ∀ p xs, v = .ref p → H p = some (.lst xs) → H' p = some (.lst xs)) (h : ThK K H v b) : ThK K H' v b := by
  cases h with
  | whole h hB => exact .whole (e _ _ h) hB
  | one1 h hx => exact .one1 (e _ _ h) (hx.imp e)
  | one2 h hx => exact .one2 (e _ _ h) (hx.imp e)
  | two h hx hy => exact .two (e _ _ h) (hx.imp e) (hy.imp e)
  | len h hl => exact .len (e _ _ h) hl
  | lst h => exact .lst (e3 _ _ rfl h)
  | dct h => exact .dct (e2 _ _ h)
  | non => exact .non
  | int i => exact .int i
  | str z => exact .str z
theorem ThK.same {K : PySem.W.Frag} {H H' : Hp} {v : V} {b : Bool} (e : Same H H') (h : ThK K H v b) : ThK K H' v b := h.imp (fun _ _ => e _ _) (fun _ _ => e _ _) (fun _ _ _ => e _ _)
theorem ThK.keep {K : PySem.W.Frag} {H H' : Hp} {d l s : Addr} {ns : List Int} {c : Nat} {v : V} {b : Bool} (k : Keep d l H H') (D : Dk K H d l s ns c) (h : ThK K H v b) (nd : v ≠ .ref d) (nl : v ≠ .ref l) : ThK K H' v b :=
  h.imp (fun _ _ h => k.tup D h) (fun _ _ h => k.at D h fun _ z => by cases z) (fun p _ ev h => k _ _ h (fun z => nd (by rw [ev, z])) (fun z => nl (by rw [ev, z])))
theorem Pk.wh {K : PySem.W.Frag} {H : Hp} {x : V} {d : PyData} (h : Pk K H x d) : Wh K H x false := by
  refine .inr ⟨rfl, ?_⟩
  cases h with
  | bl b => exact ⟨_, .base (.bl b), .inr ⟨kit_ty (by decide +kernel), kit_ty (by decide +kernel)⟩⟩
  | str z ok => exact ⟨_, .base (.str z), .inl (kit_ty (by decide +kernel))⟩
  | non => exact ⟨_, .base .non, .inl (kit_ty (by decide +kernel))⟩
  | tup h => exact ⟨_, .base (.tup h), .inl (kit_ty (by decide +kernel))⟩
theorem ThK.isfr {K : PySem.W.Frag} {H : Hp} {v : V} {b : Bool} (h : ThK K H v b) : IsFr K H v b := by
  cases h with
  | whole h hB => exact .whole h hB
  | one1 h hx => exact .part1 h hx.wh
  | one2 h hx => exact .part2 h hx.wh
  | two h hx hy => exact .part1 h hx.wh
  | len h hl => exact .len h hl
  | lst h => exact .other (.base (.lst h)) (kit_ty (by decide +kernel))
  | dct h => exact .other (.base (.dK h)) (kit_ty (by decide +kernel))
  | non => exact .other (.base .non) (kit_ty (by decide +kernel))
  | int i => exact .other (.base (.int i)) (kit_ty (by decide +kernel))
  | str z => exact .other (.base (.str z)) (kit_ty (by decide +kernel))
/-- what the look for parts that are none keeps -/
def fl : V → Bool
  | .int _ => false
  | _ => true
theorem Pk.fl {K : PySem.W.Frag} {H : Hp} {x : V} {d : PyData} (h : Pk K H x d) : Sc.fl x = true := by
  cases h <;> rfl
theorem Pk.dp {K : PySem.W.Frag} {H : Hp} {x : V} {d : PyData} (h : Pk K H x d) : Dp K H x d := by
  cases h with
  | bl b => exact .bl b
  | str z ok => exact .str z
  | non => exact .non
  | tup h => exact Dp.tup (SqT.of h) (DpAll.cons (Dp.int _) (DpAll.cons (Dp.int _) DpAll.nil))
theorem Pk.lay {K : PySem.W.Frag} {H : Hp} {x : V} {d : PyData} (h : Pk K H x d) : d.canLay0 = true ∧ d.depth ≤ 1 := by
  cases h with
  | bl b => exact ⟨rfl, Nat.zero_le 1⟩
  | str z ok => exact ⟨ok, Nat.zero_le 1⟩
  | non => exact ⟨rfl, by decide⟩
  | tup h => exact ⟨rfl, Nat.le_refl 1⟩
theorem Pk.shaped1 {K : PySem.W.Frag} {H : Hp} {x : V} {d : PyData} (h : Pk K H x d) : SeqAt.shaped (.list [d]) = true := by
  have h1 := h.lay
  unfold SeqAt.shaped
  rw [Bool.and_eq_true]
  refine ⟨?_, decide_eq_true ?_⟩
  · show (d.canLay0 && true) = true
    rw [h1.1]
    rfl
  · simp only [PyData.depth, PyData.depthAll]
    omega
theorem Pk.shaped2 {K : PySem.W.Frag} {H : Hp} {x y : V} {d e : PyData} (h : Pk K H x d) (h' : Pk K H y e) : SeqAt.shaped (.list [d, e]) = true := by
  have h1 := h.lay
  have h2 := h'.lay
  unfold SeqAt.shaped
  rw [Bool.and_eq_true]
  refine ⟨?_, decide_eq_true ?_⟩
  · show (d.canLay0 && (e.canLay0 && true)) = true
    rw [h1.1, h2.1]
    rfl
  · simp only [PyData.depth, PyData.depthAll]
    omega
theorem num_lay (i : Int) : (PyData.str ((toString i : String) : Str)).canLay0 = true := by
  show (((toString i : String) : Str).cps.all fun c => decide (c < 0x110000)) = true
  rw [Array.all_eq_true']
  intro c hc
  refine decide_eq_true (Nat.lt_of_not_le fun h => ?_)
  exact int_text_free' c ⟨by omega, by omega⟩ i (Array.mem_toList_iff.mpr hc)
/-- the three ways of anything -/
theorem ThK.kind {K : PySem.W.Frag} {H : Hp} {v : V} {b : Bool} (h : ThK K H v b) : (b = false ∧ ∃ t, TyX K H v t ∧ PySem.W.kitOne K t (.type "tuple") = some false) ∨
    (∃ p xs, v = .ref p ∧ H p = some (.tup xs) ∧ xs.length ≠ 2 ∧ b = false) ∨
    ∃ p x y, v = .ref p ∧ H p = some (.tup [x, y]) ∧ (∀ z ∈ [x, y], (∃ i, z = .int i) ∨ ∃ d, Pk K H z d) ∧
      ((∃ i j, x = .int i ∧ y = .int j ∧ b = decide (0 < j ∧ Int.gcd i j = 1)) ∨ (b = false ∧ ∃ d ds, SeqAt.shaped (.list (d :: ds)) = true ∧ ∀ H', Same H H' → DpAll K H' ([x, y].filter fl) (d :: ds))) := by
  have m2 : ∀ {x y : V} {R : V → Prop}, R x → R y → ∀ z ∈ [x, y], R z := fun {x y R} h1 h2 z hz => by
    rcases List.mem_cons.mp hz with e | hz
    · exact e ▸ h1
    · exact (List.mem_singleton.mp hz) ▸ h2
  cases h with
  | @whole p i j h hB => exact .inr (.inr ⟨p, _, _, rfl, h, m2 (.inl ⟨_, rfl⟩) (.inl ⟨_, rfl⟩), .inl ⟨i, j, rfl, rfl, rfl⟩⟩)
  | @one1 p x j d h hx => exact .inr (.inr ⟨p, _, _, rfl, h, m2 (.inr ⟨_, hx⟩) (.inl ⟨_, rfl⟩), .inr ⟨rfl, d, [], hx.shaped1, fun H' e => by
      rw [List.filter_cons_of_pos hx.fl]
      exact DpAll.cons (hx.imp (fun _ _ => e _ _)).dp DpAll.nil⟩⟩)
  | @one2 p i y d h hy => exact .inr (.inr ⟨p, _, _, rfl, h, m2 (.inl ⟨_, rfl⟩) (.inr ⟨_, hy⟩), .inr ⟨rfl, d, [], hy.shaped1, fun H' e => by
      rw [List.filter_cons_of_neg (show ¬ fl (.int i) = true from Bool.false_ne_true), List.filter_cons_of_pos hy.fl]
      exact DpAll.cons (hy.imp (fun _ _ => e _ _)).dp DpAll.nil⟩⟩)
  | @two p x y d f h hx hy => exact .inr (.inr ⟨p, _, _, rfl, h, m2 (.inr ⟨_, hx⟩) (.inr ⟨_, hy⟩), .inr ⟨rfl, d, [f], hx.shaped2 hy, fun H' e => by
      rw [List.filter_cons_of_pos hx.fl, List.filter_cons_of_pos hy.fl]
      exact DpAll.cons (hx.imp (fun _ _ => e _ _)).dp (DpAll.cons (hy.imp (fun _ _ => e _ _)).dp DpAll.nil)⟩⟩)
  | @len p xs h hl => exact .inr (.inl ⟨p, xs, rfl, h, hl, rfl⟩)
  | lst h => exact .inl ⟨rfl, _, .base (.lst h), kit_ty (by decide +kernel)⟩
  | dct h => exact .inl ⟨rfl, _, .base (.dK h), kit_ty (by decide +kernel)⟩
  | non => exact .inl ⟨rfl, _, .base .non, kit_ty (by decide +kernel)⟩
  | int i => exact .inl ⟨rfl, _, .base (.int i), kit_ty (by decide +kernel)⟩
  | str z => exact .inl ⟨rfl, _, .base (.str z), kit_ty (by decide +kernel)⟩
section
variable {P : Program} {w : World} {K : PySem.W.Frag} {mg : Str → Option Value} {base : Heap}
def sp_good (K : PySem.W.Frag) : Sp := fun vs H Q _ => ∃ v b, vs = [v] ∧ ThK K H v b ∧ ∀ H', Same H H' → Q (.bl b) H'
theorem ok__law_good (T : Tx K mg) : FnOk P w K mg base CX0 2 T.f__law_good T.d__law_good ["_law_thing"] (sp_good K) := by
  have G__law_gcd := ok__law_gcd (P := P) (w := w) (base := base) T
  refine T.F__law_good.ok sc__law_good (fun vs H Q E h => ?_) (fun cdv A outer s H vs Q E hr h => ?_)
  · obtain ⟨_, _, rfl, _⟩ := h
    rfl
  · obtain ⟨v, b, rfl, hv, q⟩ := h
    refine ⟨_, (pss_cons (ps_if (PW.pt (pw_or (pt_not (pt_val (pe_callB call_isi (by rfl) T.m_isinstance (by decide +kernel) (pa_cons (pv 0) (pa_cons (pe_bltn (v := .ty "tuple") (by rfl) T.m_tuple (by decide +kernel) rfl) pa_nil))))) (pw_or1 (pt_cmpR op_ne (pe_callB call_len_seq (by rfl) T.m_len (by decide +kernel) (pa_cons (pv 0) pa_nil)) pe_int (nomark _))))) (pss_one (ps_ret pe_bl)) pss_nil)
      (pss_cons (ps_if (pt_cmpR (op_neD hr.units) (pe_lc (own := [("_law_part", 1)]) (g := gName 1) (by rfl) sc__law_good.nd (pi_tup (pv 0)) (blkOk_by (own := [("_law_part", 1)]) (N := nm__law_good) (sc := defScope s__law_good) (by decide +kernel)) (fun _ _ _ _ _ => (pg_name (i := 1) sc__law_good.nd rfl (Or.inl rfl))) (fun _ _ _ _ _ => (pts_one (PW.pt (pw_or (pt_not (pt_val (pe_callB (call_isiC (K := K) rfl) (by rfl) T.m_isinstance (by decide +kernel) (pa_cons (pv 1) (pa_cons (pe_bltn (v := .ty "int") (by rfl) T.m_int (by decide +kernel) rfl) pa_nil))))) (pw_or1 (pt_val (pe_callB (call_isiC (K := K) rfl) (by rfl) T.m_isinstance (by decide +kernel) (pa_cons (pv 1) (pa_cons (pe_bltn (v := .ty "bool") (by rfl) T.m_bool (by decide +kernel) rfl) pa_nil))))))))) (fun _ _ _ _ _ => (pv 1))) (pe_lst pa_nil) (nomark _)) (pss_one (ps_ret pe_bl)) pss_nil)
      (pss_one (ps_ret (pe_and (pe_cmpR op_gt (pe_ix ix_tup (pv 0) pe_int (fun _ _ => rfl)) pe_int (nomark _)) (pe_one (pe_cmpR op_eq (pe_call G__law_gcd (hr.mono (by first | decide | omega)) (by rfl) T.g__law_gcd T.F__law_gcd.kp T.b__law_gcd .nil pass0 (pa_cons (pe_ix ix_tup (pv 0) pe_int (fun _ _ => rfl)) (pa_cons (pe_ix ix_tup (pv 0) pe_int (fun _ _ => rfl)) pa_nil))) pe_int (nomark _)))))))), ?_⟩
    have q0 := q H (Same.refl H)
    rcases hv.kind with ⟨rfl, t, ty, h⟩ | ⟨p, xs, rfl, h, hl, rfl⟩ | ⟨p, x, y, rfl, h, hz, hw⟩
    · exact ⟨_, rfl, _, _, _, _, false, rfl, .ty _, ty, h, false, rfl, iteT q0⟩
    · refine ⟨_, rfl, _, _, _, _, true, rfl, .ty _, .base (.tup h), kit_ty (by decide +kernel), true, rfl, iteF ?_⟩
      refine ⟨_, rfl, p, xs, rfl, .inr (SqT.of h), rfl, _, rfl, ite_yes ?_ q0⟩
      have e : ¬ V.int (xs.length : Int) = V.int 2 := fun z => hl (by have := V.int.inj z; omega)
      rw [decide_eq_false e]
      rfl
    · refine ⟨_, rfl, _, _, _, _, true, rfl, .ty _, .base (.tup h), kit_ty (by decide +kernel), true, rfl, iteF ?_⟩
      refine ⟨_, rfl, p, _, rfl, .inr (SqT.of h), rfl, _, rfl, iteNS rfl ?_⟩
      refine ⟨_, rfl, p, rfl, ⟨_, SqT.of h⟩, fun D nD => ?_⟩
      refine lc_tup (K := K) (a := p) (xs := [x, y]) (fun i H' => Same H H' ∧ H' D = some (.lst (([x, y].take i).filter fl))) ⟨same_upd nD, upd_same⟩ (fun i H' _ h' => same_tup h'.1 (SqT.of h)) (fun i z H' hx h' => ?_) (fun H' h' => ?_)
      · obtain ⟨hS, hD⟩ := h'
        have hi : i < 2 := (List.getElem?_eq_some_iff.mp hx).1
        have tk := take_succ hx
        have ln : (([x, y].take i).filter fl).length ≤ 2 := Nat.le_trans (List.length_filter_le _ _) (by rw [List.length_take]; omega)
        have keepit : fl z = true → ∃ acc, H' D = some (.lst acc) ∧ acc.length < sizeLine ∧ (Same H (upd H' D (.lst (acc ++ [z]))) ∧ upd H' D (.lst (acc ++ [z])) D = some (.lst (([x, y].take (i + 1)).filter fl))) := fun ef => by
          refine ⟨_, hD, small1000 (by omega), fun a o e => ?_, ?_⟩
          · rw [upd_ne (ne_of_none e nD)]
            exact hS _ _ e
          · rw [upd_same, tk, List.filter_append, List.filter_cons_of_pos ef, List.filter_nil]
        rcases hz z (List.mem_of_getElem? hx) with ⟨n, rfl⟩ | ⟨d, hd⟩
        · refine ⟨rfl, .int n, rfl, _, _, _, _, true, rfl, .ty _, .base (.int n), kit_ty (by decide +kernel), true, rfl, iteF ?_⟩
          refine ⟨.int n, rfl, _, _, _, _, false, rfl, .ty _, .base (.int n), kit_ty (by decide +kernel), false, rfl, iteF ⟨hS, ?_⟩⟩
          rw [tk, List.filter_append, hD]
          show some (HO.lst (([x, y].take i).filter fl)) = some (HO.lst (([x, y].take i).filter fl ++ []))
          rw [List.append_nil]
        · cases hd with
          | bl b =>
            refine ⟨rfl, .bl b, rfl, _, _, _, _, true, rfl, .ty _, .base (.bl b), kit_ty (by decide +kernel), true, rfl, iteF ?_⟩
            exact ⟨.bl b, rfl, _, _, _, _, true, rfl, .ty _, .base (.bl b), kit_ty (by decide +kernel), true, rfl, iteT ⟨.bl b, rfl, keepit rfl⟩⟩
          | str z ok =>
            refine ⟨rfl, .str z, rfl, _, _, _, _, false, rfl, .ty _, .base (.str z), kit_ty (by decide +kernel), false, rfl, iteT ?_⟩
            exact iteT ⟨.str z, rfl, keepit rfl⟩
          | non =>
            refine ⟨rfl, .non, rfl, _, _, _, _, false, rfl, .ty _, .base .non, kit_ty (by decide +kernel), false, rfl, iteT ?_⟩
            exact iteT ⟨.non, rfl, keepit rfl⟩
          | @tup p' a' b' hp' =>
            refine ⟨rfl, .ref p', rfl, _, _, _, _, false, rfl, .ty _, .base (.tup (hS _ _ hp')), kit_ty (by decide +kernel), false, rfl, iteT ?_⟩
            exact iteT ⟨.ref p', rfl, keepit rfl⟩
      · obtain ⟨hS, hD⟩ := h'
        have hD : H' D = some (.lst ([x, y].filter fl)) := hD
        refine ⟨Nat.zero_le _, fun g ng => ?_⟩
        have sg1 := same_upd (o := .lst []) ng
        have SG := hS.trans sg1
        rcases hw with ⟨i, j, rfl, rfl, rfl⟩ | ⟨rfl, d, ds, sh, dp⟩
        · have hD : H' D = some (.lst []) := hD
          refine ⟨_, _, Dp.lst (SqL.of (sg1 _ _ hD)) DpAll.nil, Dp.lst (SqL.of upd_same) DpAll.nil, rfl, rfl, _, rfl, iteF ?_⟩
          refine ⟨_, rfl, p, _, 1, _, rfl, rfl, SqT.of (SG _ _ h), rfl, j, 0, rfl, rfl, _, rfl, ite2 (fun e => ?_) (fun e => ?_)⟩
          · have e := of_decide_eq_true e
            refine ⟨_, rfl, p, _, 0, _, rfl, rfl, SqT.of (SG _ _ h), rfl, _, rfl, p, _, 1, _, rfl, rfl, SqT.of (SG _ _ h), rfl, i, j, rfl, rfl, ?_⟩
            have e2 : decide (V.int (Int.gcd i j : Int) = V.int 1) = decide (0 < j ∧ Int.gcd i j = 1) := by
              by_cases g1 : Int.gcd i j = 1
              · rw [decide_eq_true (⟨e, g1⟩ : 0 < j ∧ Int.gcd i j = 1), g1]
                rfl
              · rw [decide_eq_false fun z : 0 < j ∧ Int.gcd i j = 1 => g1 z.2, decide_eq_false fun z => g1 (by have := V.int.inj z; omega)]
            rw [e2]
            exact q _ SG
          · have e : ¬ 0 < j := fun z => e (decide_eq_true z)
            have q1 := q _ SG
            rw [decide_eq_false fun z : 0 < j ∧ Int.gcd i j = 1 => e z.1] at q1
            exact q1
        · refine ⟨.list (d :: ds), .list [], Dp.lst (SqL.of (sg1 _ _ hD)) (dp _ SG), Dp.lst (SqL.of upd_same) DpAll.nil, sh, rfl, _, rfl, iteT ?_⟩
          exact q _ SG
end

theorem Dk.apart {K : PySem.W.Frag} {H : Hp} {d l s D : Addr} {ns : List Int} {c : Nat} (h : Dk K H d l s ns c) (nD : H D = none) : D ≠ d ∧ D ≠ l ∧ ((∀ H', SqL K H' s (ns.map V.int)) ∨ s ≠ D) := by
  obtain ⟨xs, i, k, h1, h2, _, h4⟩ := h
  refine ⟨(ne_of_none h1 nD).symm, (ne_of_none h2 nD).symm, ?_⟩
  rcases h4 with h4 | ⟨h4, _, _⟩
  · exact .inl h4
  · rcases h4 with (h | ⟨o, h⟩) | h
    · exact .inr (ne_of_none h nD)
    · exact .inr (ne_of_none h nD)
    · exact .inl fun _ => .inr h
theorem Dk.beside {K : PySem.W.Frag} {H : Hp} {d l s D : Addr} {o : HO} {ns : List Int} {c : Nat} (h : Dk K H d l s ns c) (a : D ≠ d ∧ D ≠ l ∧ ((∀ H', SqL K H' s (ns.map V.int)) ∨ s ≠ D)) : Dk K (upd H D o) d l s ns c := by
  obtain ⟨xs, i, k, h1, h2, h3, h4⟩ := h
  obtain ⟨a1, a2, a3⟩ := a
  refine ⟨xs, i, k, ?_, ?_, h3, ?_⟩
  · rw [upd_ne a1.symm]
    exact h1
  · rw [upd_ne a2.symm]
    exact h2
  · rcases a3 with a3 | a3
    · exact .inl a3
    · rcases h4 with h4 | ⟨(h | ⟨z, h⟩) | h, b1, b2⟩
      · exact .inl h4
      · refine .inr ⟨.inl (.inl ?_), b1, b2⟩
        rw [upd_ne a3]
        exact h
      · refine .inr ⟨.inl (.inr ⟨z, ?_⟩), b1, b2⟩
        rw [upd_ne a3]
        exact h
      · exact .inl fun _ => .inr h

/-- all of a row are things; none is the deck's -/
def Ths (K : PySem.W.Frag) (H : Hp) (d l : Addr) (xs : List V) : Prop := ∀ x ∈ xs, (∃ b, ThK K H x b) ∧ x ≠ .ref d ∧ x ≠ .ref l
theorem Ths.same {K : PySem.W.Frag} {H H' : Hp} {d l : Addr} {xs : List V} (h : Ths K H d l xs) (e : Same H H') : Ths K H' d l xs := fun x hx => by
  obtain ⟨⟨b, t⟩, n⟩ := h x hx
  exact ⟨⟨b, t.same e⟩, n⟩
theorem Ths.add {K : PySem.W.Frag} {H : Hp} {d l : Addr} {xs : List V} {v : V} (h : Ths K H d l xs) (t : ∃ b, ThK K H v b) (n : v ≠ .ref d ∧ v ≠ .ref l) : Ths K H d l (v :: xs) := fun x hx => by
  rcases List.mem_cons.mp hx with e | hx
  · rw [e]
    exact ⟨t, n⟩
  · exact h x hx
theorem Ths.sub {K : PySem.W.Frag} {H : Hp} {d l : Addr} {xs ys : List V} (h : Ths K H d l xs) (s : ∀ y ∈ ys, y ∈ xs) : Ths K H d l ys := fun y hy => h y (s y hy)
theorem Dk.ne_new {K : PySem.W.Frag} {H : Hp} {d l s p : Addr} {ns : List Int} {c : Nat} (h : Dk K H d l s ns c) (n : H p = none) : V.ref p ≠ .ref d ∧ V.ref p ≠ .ref l := by
  have a := h.apart n
  exact ⟨fun z => a.1 (V.ref.inj z), fun z => a.2.1 (V.ref.inj z)⟩
theorem cutV_mem {xs : List V} {lo hi : Option Int} {x : V} (h : x ∈ cutV xs lo hi) : x ∈ xs := List.mem_of_mem_drop (List.mem_of_mem_take h)
section
variable {P : Program} {w : World} {K : PySem.W.Frag} {mg : Str → Option Value} {base : Heap}
def sp_things (K : PySem.W.Frag) : Sp := fun vs H Q _ => ∃ (d l s : Addr) (ns : List Int) (c : Nat) (v : V) (f : Rat), vs = [.ref d, v] ∧ Dk K H d l s ns c ∧ c + 4 < 2 ^ 40 ∧ FrV H v f ∧ Rb 200 f ∧
  ∀ H' r xs, Keep d l H H' → Dk K H' d l s ns (c + 2) → H' r = some (.lst xs) → (∀ x ∈ xs, ∃ b, ThK K H' x b) → Q (.ref r) H'
theorem ok__law_things (T : Tx K mg) : FnOk P w K mg base CX0 4 T.f__law_things T.d__law_things ["_law_deck_here", "_law_one"] (sp_things K) := by
  have G__law_take := ok__law_take (P := P) (w := w) (base := base) T
  refine T.F__law_things.ok sc__law_things (fun vs H Q E h => ?_) (fun cdv A outer s H vs Q E hr h => ?_)
  · obtain ⟨_, _, _, _, _, _, _, rfl, _⟩ := h
    rfl
  · obtain ⟨d, l, s, ns, c, v, f, rfl, hD, hc, ⟨p0, rfl, h_p0⟩, bf, q⟩ := h
    refine ⟨_, (pss_cons (ps_asg (pv 1) (pg_tup (by rfl) (pgs_cons (pg_name (i := 2) sc__law_things.nd rfl (Or.inl rfl)) (pgs_cons (pg_name (i := 3) sc__law_things.nd rfl (Or.inl rfl)) pgs_nil))))
      (pss_cons (ps_set (i := 4) sc__law_things.nd rfl (Or.inl rfl) (pe_op op_add pe_int (pe_call G__law_take (hr.mono (by first | decide | omega)) (by rfl) T.g__law_take T.F__law_take.kp T.b__law_take .nil pass0 (pa_cons (pv 0) (pa_cons pe_int pa_nil)))))
      (pss_cons (ps_set (i := 5) sc__law_things.nd rfl (Or.inl rfl) (pe_lst (pa_cons (pv 1) (pa_cons (pe_tup (pa_cons (pv 3) (pa_cons (pv 2) pa_nil))) (pa_cons (pe_tup (pa_cons (pe_op op_mulX (pv 4) (pv 2)) (pa_cons (pe_op op_mulX (pv 4) (pv 3)) pa_nil))) (pa_cons (pe_tup (pa_cons (pv 2) (pa_cons (pe_un un_neg (pv 3)) pa_nil))) (pa_cons (pe_tup (pa_cons (pe_un un_neg (pv 2)) (pa_cons (pv 3) pa_nil))) (pa_cons (pe_tup (pa_cons (pv 2) (pa_cons pe_int pa_nil))) (pa_cons (pe_tup (pa_cons pe_int (pa_cons (pv 3) pa_nil))) pa_nil)))))))))
      (pss_cons (ps_set (i := 5) sc__law_things.nd rfl (Or.inl rfl) (pe_op op_cat (pv 5) (pe_lst (pa_cons (pe_tup (pa_cons (pv 2) (pa_cons pe_bl pa_nil))) (pa_cons (pe_tup (pa_cons pe_bl (pa_cons pe_int pa_nil))) (pa_cons (pe_tup (pa_cons pe_bl (pa_cons pe_int pa_nil))) (pa_cons (pe_lst (pa_cons (pv 2) (pa_cons (pv 3) pa_nil))) (pa_cons (pe_tup (pa_cons (pv 2) (pa_cons (pv 3) (pa_cons pe_int pa_nil)))) (pa_cons (pe_tup (pa_cons (pv 2) pa_nil)) (pa_cons (pe_tup pa_nil) (pa_cons pe_non (pa_cons (pv 2) (pa_cons pe_str pa_nil)))))))))))))
      (pss_cons (ps_set (i := 5) sc__law_things.nd rfl (Or.inl rfl) (pe_op op_cat (pv 5) (pe_lst (pa_cons (pe_tup (pa_cons (pe_callTy call_str_int (by rfl) T.m_str (by decide +kernel) (pa_cons (pv 2) pa_nil)) (pa_cons (pv 3) pa_nil))) (pa_cons (pe_tup (pa_cons (pv 2) (pa_cons pe_non pa_nil))) (pa_cons (pe_disp (pps_cons (pv 2) (pv 3) pps_nil) (by rfl) (by rfl) (fun z => by cases z) (by decide)) (pa_cons (pe_tup (pa_cons pe_int (pa_cons pe_int pa_nil))) (pa_cons (pe_tup (pa_cons pe_int (pa_cons pe_int pa_nil))) (pa_cons (pe_tup (pa_cons pe_int (pa_cons pe_int pa_nil))) (pa_cons (pe_tup (pa_cons (pe_tup (pa_cons (pv 2) (pa_cons (pv 3) pa_nil))) (pa_cons (pe_tup (pa_cons pe_int (pa_cons pe_int pa_nil))) pa_nil))) pa_nil))))))))))
      (pss_cons (ps_set (i := 6) sc__law_things.nd rfl (Or.inl rfl) (pe_call G__law_take (hr.mono (by first | decide | omega)) (by rfl) T.g__law_take T.F__law_take.kp T.b__law_take .nil pass0 (pa_cons (pv 0) (pa_cons pe_int pa_nil))))
      (pss_one (ps_ret (pe_slice sl_list (pe_op op_cat (pe_slice sl_list (pv 5) (po_some (pv 6)) po_none) (pe_slice sl_list (pv 5) po_none (po_some (pv 6)))) po_none (po_some pe_int)))))))))), ?_⟩
    have bt : Bt 200 f.num := bf.1
    have bb : Bt 200 (f.den : Int) := bf.2
    have bb9 : Bt 9000 (f.den : Int) := bb.mono (by decide)
    have bt9 : Bt 9000 f.num := bt.mono (by decide)
    have lg : f.num.natAbs.log2 < 1920 := Nat.lt_of_lt_of_le (PySem.Flt.log2_lt_of (by decide) bt) (by decide)
    generalize f.num = t at *
    generalize (f.den : Int) = b at *
    refine ⟨_, rfl, p0, _, rfl, SqT.of h_p0, rfl, _, _, rfl, _, _, rfl, rfl, ?_⟩
    refine ⟨_, rfl, d, l, s, ns, c, 9, rfl, hD, by omega, by decide, by decide, fun Hx0 n9 k0 Ds0 g0 g1 => ?_⟩
    refine ⟨_, _, rfl, rfl, ?_⟩
    replace h_p0 := k0.tup hD h_p0
    have ne_p0 : V.ref p0 ≠ .ref d ∧ V.ref p0 ≠ .ref l := by
      obtain ⟨_, _, _, x1, x2, _⟩ := Ds0
      exact ⟨fun z => ne_of h_p0 x1 (fun z => by cases z) (V.ref.inj z), fun z => ne_of h_p0 x2 (fun z => by cases z) (V.ref.inj z)⟩
    have bp : Bt 4 (2 + n9) := bt_lit (by omega)
    have hall : Ths K Hx0 d l [] := fun _ h => nomatch h
    have S0 : Same Hx0 Hx0 := Same.refl _
    refine ⟨_, rfl, _, rfl, _, rfl, sz_n (by decide : 2 ≤ 1000), fun a1 n_a1 => ?_⟩
    generalize hh1 : upd _ a1 _ = Hx1
    have ss1 : Same Hx0 Hx1 := hh1 ▸ same_upd n_a1
    have h_a1 : Hx1 a1 = some (.tup [.int b, .int t]) := hh1 ▸ upd_same
    have ne_a1 := Ds0.ne_new n_a1
    have Ds1 := Ds0.same ss1
    replace hall := hall.same ss1
    replace S0 := S0.trans ss1
    replace h_p0 := ss1 _ _ h_p0
    replace hall := hall.add (v := .ref a1) ⟨_, ThK.whole h_a1 bt9⟩ ne_a1
    clear hh1 n_a1 ss1 Ds0
    refine ⟨_, rfl, _, rfl, 2 + n9, t, rfl, rfl, mulx_ok bp bt (by decide), _, rfl, _, rfl, 2 + n9, b, rfl, rfl, mulx_ok bp bb (by decide), sz_n (by decide : 2 ≤ 1000), fun a2 n_a2 => ?_⟩
    generalize hh2 : upd _ a2 _ = Hx2
    have ss2 : Same Hx1 Hx2 := hh2 ▸ same_upd n_a2
    have h_a2 : Hx2 a2 = some (.tup [(.int ((2 + n9) * t)), (.int ((2 + n9) * b))]) := hh2 ▸ upd_same
    have ne_a2 := Ds1.ne_new n_a2
    have Ds2 := Ds1.same ss2
    replace hall := hall.same ss2
    replace S0 := S0.trans ss2
    replace h_p0 := ss2 _ _ h_p0
    replace hall := hall.add (v := .ref a2) ⟨_, ThK.whole h_a2 ((bp.mul bb).mono (by decide))⟩ ne_a2
    clear hh2 n_a2 ss2 Ds1
    refine ⟨_, rfl, _, rfl, b, rfl, sz_n (by decide : 2 ≤ 1000), fun a3 n_a3 => ?_⟩
    generalize hh3 : upd _ a3 _ = Hx3
    have ss3 : Same Hx2 Hx3 := hh3 ▸ same_upd n_a3
    have h_a3 : Hx3 a3 = some (.tup [.int t, (.int (-b))]) := hh3 ▸ upd_same
    have ne_a3 := Ds2.ne_new n_a3
    have Ds3 := Ds2.same ss3
    replace hall := hall.same ss3
    replace S0 := S0.trans ss3
    replace h_p0 := ss3 _ _ h_p0
    replace hall := hall.add (v := .ref a3) ⟨_, ThK.whole h_a3 bb9.neg⟩ ne_a3
    clear hh3 n_a3 ss3 Ds2
    refine ⟨_, rfl, t, rfl, _, rfl, sz_n (by decide : 2 ≤ 1000), fun a4 n_a4 => ?_⟩
    generalize hh4 : upd _ a4 _ = Hx4
    have ss4 : Same Hx3 Hx4 := hh4 ▸ same_upd n_a4
    have h_a4 : Hx4 a4 = some (.tup [(.int (-t)), .int b]) := hh4 ▸ upd_same
    have ne_a4 := Ds3.ne_new n_a4
    have Ds4 := Ds3.same ss4
    replace hall := hall.same ss4
    replace S0 := S0.trans ss4
    replace h_p0 := ss4 _ _ h_p0
    replace hall := hall.add (v := .ref a4) ⟨_, ThK.whole h_a4 bb9⟩ ne_a4
    clear hh4 n_a4 ss4 Ds3
    refine ⟨_, rfl, sz_n (by decide : 2 ≤ 1000), fun a5 n_a5 => ?_⟩
    generalize hh5 : upd _ a5 _ = Hx5
    have ss5 : Same Hx4 Hx5 := hh5 ▸ same_upd n_a5
    have h_a5 : Hx5 a5 = some (.tup [.int t, .int 0]) := hh5 ▸ upd_same
    have ne_a5 := Ds4.ne_new n_a5
    have Ds5 := Ds4.same ss5
    replace hall := hall.same ss5
    replace S0 := S0.trans ss5
    replace h_p0 := ss5 _ _ h_p0
    replace hall := hall.add (v := .ref a5) ⟨_, ThK.whole h_a5 (bt_small (by decide))⟩ ne_a5
    clear hh5 n_a5 ss5 Ds4
    refine ⟨_, rfl, sz_n (by decide : 2 ≤ 1000), fun a6 n_a6 => ?_⟩
    generalize hh6 : upd _ a6 _ = Hx6
    have ss6 : Same Hx5 Hx6 := hh6 ▸ same_upd n_a6
    have h_a6 : Hx6 a6 = some (.tup [.int 0, .int b]) := hh6 ▸ upd_same
    have ne_a6 := Ds5.ne_new n_a6
    have Ds6 := Ds5.same ss6
    replace hall := hall.same ss6
    replace S0 := S0.trans ss6
    replace h_p0 := ss6 _ _ h_p0
    replace hall := hall.add (v := .ref a6) ⟨_, ThK.whole h_a6 bb9⟩ ne_a6
    clear hh6 n_a6 ss6 Ds5
    have hall1 : Ths K Hx6 d l [.ref p0, .ref a1, .ref a2, .ref a3, .ref a4, .ref a5, .ref a6] := (hall.add (v := .ref p0) ⟨_, ThK.whole h_p0 bb9⟩ ne_p0).sub (by simp)
    clear hall h_a1 h_a2 h_a3 h_a4 h_a5 h_a6 ne_a1 ne_a2 ne_a3 ne_a4 ne_a5 ne_a6
    have hall := hall1
    clear hall1
    refine ⟨sz_n (by decide : 7 ≤ 1000), fun l1 n_l1 => ?_⟩
    generalize hh7 : upd _ l1 _ = Hx7
    have ss7 : Same Hx6 Hx7 := hh7 ▸ same_upd n_l1
    have h_l1 : Hx7 l1 = some (.lst [.ref p0, .ref a1, .ref a2, .ref a3, .ref a4, .ref a5, .ref a6]) := hh7 ▸ upd_same
    have ne_l1 := Ds6.ne_new n_l1
    have Ds7 := Ds6.same ss7
    replace hall := hall.same ss7
    replace S0 := S0.trans ss7
    clear hh7 n_l1 ss7 Ds6
    refine ⟨_, rfl, _, rfl, sz_n (by decide : 2 ≤ 1000), fun c1 n_c1 => ?_⟩
    generalize hh8 : upd _ c1 _ = Hx8
    have ss8 : Same Hx7 Hx8 := hh8 ▸ same_upd n_c1
    have h_c1 : Hx8 c1 = some (.tup [.int t, .bl true]) := hh8 ▸ upd_same
    have ne_c1 := Ds7.ne_new n_c1
    have Ds8 := Ds7.same ss8
    replace hall := hall.same ss8
    replace S0 := S0.trans ss8
    replace h_l1 := ss8 _ _ h_l1
    replace hall := hall.add (v := .ref c1) ⟨_, ThK.one2 h_c1 (.bl true)⟩ ne_c1
    clear hh8 n_c1 ss8 Ds7
    refine ⟨sz_n (by decide : 2 ≤ 1000), fun c2 n_c2 => ?_⟩
    generalize hh9 : upd _ c2 _ = Hx9
    have ss9 : Same Hx8 Hx9 := hh9 ▸ same_upd n_c2
    have h_c2 : Hx9 c2 = some (.tup [.bl true, .int 1]) := hh9 ▸ upd_same
    have ne_c2 := Ds8.ne_new n_c2
    have Ds9 := Ds8.same ss9
    replace hall := hall.same ss9
    replace S0 := S0.trans ss9
    replace h_l1 := ss9 _ _ h_l1
    replace hall := hall.add (v := .ref c2) ⟨_, ThK.one1 h_c2 (.bl true)⟩ ne_c2
    clear hh9 n_c2 ss9 Ds8
    refine ⟨sz_n (by decide : 2 ≤ 1000), fun c3 n_c3 => ?_⟩
    generalize hh10 : upd _ c3 _ = Hx10
    have ss10 : Same Hx9 Hx10 := hh10 ▸ same_upd n_c3
    have h_c3 : Hx10 c3 = some (.tup [.bl false, .int 1]) := hh10 ▸ upd_same
    have ne_c3 := Ds9.ne_new n_c3
    have Ds10 := Ds9.same ss10
    replace hall := hall.same ss10
    replace S0 := S0.trans ss10
    replace h_l1 := ss10 _ _ h_l1
    replace hall := hall.add (v := .ref c3) ⟨_, ThK.one1 h_c3 (.bl false)⟩ ne_c3
    clear hh10 n_c3 ss10 Ds9
    refine ⟨_, rfl, _, rfl, sz_n (by decide : 2 ≤ 1000), fun c4 n_c4 => ?_⟩
    generalize hh11 : upd _ c4 _ = Hx11
    have ss11 : Same Hx10 Hx11 := hh11 ▸ same_upd n_c4
    have h_c4 : Hx11 c4 = some (.lst [.int t, .int b]) := hh11 ▸ upd_same
    have ne_c4 := Ds10.ne_new n_c4
    have Ds11 := Ds10.same ss11
    replace hall := hall.same ss11
    replace S0 := S0.trans ss11
    replace h_l1 := ss11 _ _ h_l1
    replace hall := hall.add (v := .ref c4) ⟨_, ThK.lst h_c4⟩ ne_c4
    clear hh11 n_c4 ss11 Ds10
    refine ⟨_, rfl, _, rfl, sz_n (by decide : 3 ≤ 1000), fun c5 n_c5 => ?_⟩
    generalize hh12 : upd _ c5 _ = Hx12
    have ss12 : Same Hx11 Hx12 := hh12 ▸ same_upd n_c5
    have h_c5 : Hx12 c5 = some (.tup [.int t, .int b, .int 1]) := hh12 ▸ upd_same
    have ne_c5 := Ds11.ne_new n_c5
    have Ds12 := Ds11.same ss12
    replace hall := hall.same ss12
    replace S0 := S0.trans ss12
    replace h_l1 := ss12 _ _ h_l1
    replace hall := hall.add (v := .ref c5) ⟨_, ThK.len h_c5 (show (3 : Nat) ≠ 2 by decide)⟩ ne_c5
    clear hh12 n_c5 ss12 Ds11
    refine ⟨_, rfl, sz_n (by decide : 1 ≤ 1000), fun c6 n_c6 => ?_⟩
    generalize hh13 : upd _ c6 _ = Hx13
    have ss13 : Same Hx12 Hx13 := hh13 ▸ same_upd n_c6
    have h_c6 : Hx13 c6 = some (.tup [.int t]) := hh13 ▸ upd_same
    have ne_c6 := Ds12.ne_new n_c6
    have Ds13 := Ds12.same ss13
    replace hall := hall.same ss13
    replace S0 := S0.trans ss13
    replace h_l1 := ss13 _ _ h_l1
    replace hall := hall.add (v := .ref c6) ⟨_, ThK.len h_c6 (show (1 : Nat) ≠ 2 by decide)⟩ ne_c6
    clear hh13 n_c6 ss13 Ds12
    refine ⟨Nat.zero_le _, fun c7 n_c7 => ?_⟩
    generalize hh14 : upd _ c7 _ = Hx14
    have ss14 : Same Hx13 Hx14 := hh14 ▸ same_upd n_c7
    have h_c7 : Hx14 c7 = some (.tup []) := hh14 ▸ upd_same
    have ne_c7 := Ds13.ne_new n_c7
    have Ds14 := Ds13.same ss14
    replace hall := hall.same ss14
    replace S0 := S0.trans ss14
    replace h_l1 := ss14 _ _ h_l1
    replace hall := hall.add (v := .ref c7) ⟨_, ThK.len h_c7 (show (0 : Nat) ≠ 2 by decide)⟩ ne_c7
    clear hh14 n_c7 ss14 Ds13
    have hall1 : Ths K Hx14 d l [.ref p0, .ref a1, .ref a2, .ref a3, .ref a4, .ref a5, .ref a6, .ref c1, .ref c2, .ref c3, .ref c4, .ref c5, .ref c6, .ref c7, .non, .int t, .str (Str.ofString "1/2")] := (((hall.add (v := .non) ⟨_, .non⟩ ⟨nofun, nofun⟩).add (v := .int t) ⟨_, .int t⟩ ⟨nofun, nofun⟩).add (v := .str (Str.ofString "1/2")) ⟨_, .str _⟩ ⟨nofun, nofun⟩).sub (by simp)
    clear hall h_c1 h_c2 h_c3 h_c4 h_c5 h_c6 h_c7 ne_c1 ne_c2 ne_c3 ne_c4 ne_c5 ne_c6 ne_c7
    have hall := hall1
    clear hall1
    refine ⟨_, rfl, sz_n (by decide : 10 ≤ 1000), fun l2 n_l2 => ?_⟩
    generalize hh15 : upd _ l2 _ = Hx15
    have ss15 : Same Hx14 Hx15 := hh15 ▸ same_upd n_l2
    have h_l2 : Hx15 l2 = some (.lst [.ref c1, .ref c2, .ref c3, .ref c4, .ref c5, .ref c6, .ref c7, .non, .int t, .str (Str.ofString "1/2")]) := hh15 ▸ upd_same
    have ne_l2 := Ds14.ne_new n_l2
    have Ds15 := Ds14.same ss15
    replace hall := hall.same ss15
    replace S0 := S0.trans ss15
    replace h_l1 := ss15 _ _ h_l1
    clear hh15 n_l2 ss15 Ds14
    refine ⟨l1, l2, _, _, rfl, rfl, h_l1, h_l2, sz_n (by decide : 17 ≤ 1000), fun l3 n_l3 => ?_⟩
    generalize hh16 : upd _ l3 _ = Hx16
    have ss16 : Same Hx15 Hx16 := hh16 ▸ same_upd n_l3
    have h_l3 : Hx16 l3 = some (.lst [.ref p0, .ref a1, .ref a2, .ref a3, .ref a4, .ref a5, .ref a6, .ref c1, .ref c2, .ref c3, .ref c4, .ref c5, .ref c6, .ref c7, .non, .int t, .str (Str.ofString "1/2")]) := hh16 ▸ upd_same
    have ne_l3 := Ds15.ne_new n_l3
    have Ds16 := Ds15.same ss16
    replace hall := hall.same ss16
    replace S0 := S0.trans ss16
    replace h_l1 := ss16 _ _ h_l1
    replace h_l2 := ss16 _ _ h_l2
    clear hh16 n_l3 ss16 Ds15
    clear h_l1 h_l2
    refine ⟨_, rfl, _, rfl, t, rfl, lg, _, rfl, sz_n (by decide : 2 ≤ 1000), fun e1 n_e1 => ?_⟩
    generalize hh17 : upd _ e1 _ = Hx17
    have ss17 : Same Hx16 Hx17 := hh17 ▸ same_upd n_e1
    have h_e1 : Hx17 e1 = some (.tup [.str (Str.ofString (toString t)), .int b]) := hh17 ▸ upd_same
    have ne_e1 := Ds16.ne_new n_e1
    have Ds17 := Ds16.same ss17
    replace hall := hall.same ss17
    replace S0 := S0.trans ss17
    replace h_l3 := ss17 _ _ h_l3
    replace hall := hall.add (v := .ref e1) ⟨_, ThK.one1 h_e1 (.str _ (num_lay t))⟩ ne_e1
    clear hh17 n_e1 ss17 Ds16
    refine ⟨_, rfl, sz_n (by decide : 2 ≤ 1000), fun e2 n_e2 => ?_⟩
    generalize hh18 : upd _ e2 _ = Hx18
    have ss18 : Same Hx17 Hx18 := hh18 ▸ same_upd n_e2
    have h_e2 : Hx18 e2 = some (.tup [.int t, .non]) := hh18 ▸ upd_same
    have ne_e2 := Ds17.ne_new n_e2
    have Ds18 := Ds17.same ss18
    replace hall := hall.same ss18
    replace S0 := S0.trans ss18
    replace h_l3 := ss18 _ _ h_l3
    replace hall := hall.add (v := .ref e2) ⟨_, ThK.one2 h_e2 .non⟩ ne_e2
    clear hh18 n_e2 ss18 Ds17
    refine fun e3 n_e3 => ⟨_, rfl, _, rfl, upd_same, [(Sum.inl t, .int b)], rfl, (show 1 ≤ 15 by decide), ?_⟩
    rw [upd_upd]
    generalize hh19 : upd _ e3 _ = Hx19
    have ss19 : Same Hx18 Hx19 := hh19 ▸ same_upd n_e3
    have h_e3 : ∃ kvs, Hx19 e3 = some (.dK kvs) := ⟨_, hh19 ▸ upd_same⟩
    obtain ⟨kvs, h_e3⟩ := h_e3
    have ne_e3 := Ds18.ne_new n_e3
    have Ds19 := Ds18.same ss19
    replace hall := hall.same ss19
    replace h_l3 := ss19 _ _ h_l3
    replace S0 := S0.trans ss19
    replace hall := hall.add (v := .ref e3) ⟨_, ThK.dct h_e3⟩ ne_e3
    clear hh19 n_e3 ss19 Ds18
    refine ⟨sz_n (by decide : 2 ≤ 1000), fun e4 n_e4 => ?_⟩
    generalize hh20 : upd _ e4 _ = Hx20
    have ss20 : Same Hx19 Hx20 := hh20 ▸ same_upd n_e4
    have h_e4 : Hx20 e4 = some (.tup [.int 0, .int 1]) := hh20 ▸ upd_same
    have ne_e4 := Ds19.ne_new n_e4
    have Ds20 := Ds19.same ss20
    replace hall := hall.same ss20
    replace S0 := S0.trans ss20
    replace h_l3 := ss20 _ _ h_l3
    replace hall := hall.add (v := .ref e4) ⟨_, ThK.whole h_e4 (bt_small (by decide))⟩ ne_e4
    clear hh20 n_e4 ss20 Ds19
    refine ⟨sz_n (by decide : 2 ≤ 1000), fun e5 n_e5 => ?_⟩
    generalize hh21 : upd _ e5 _ = Hx21
    have ss21 : Same Hx20 Hx21 := hh21 ▸ same_upd n_e5
    have h_e5 : Hx21 e5 = some (.tup [.int 0, .int 0]) := hh21 ▸ upd_same
    have ne_e5 := Ds20.ne_new n_e5
    have Ds21 := Ds20.same ss21
    replace hall := hall.same ss21
    replace S0 := S0.trans ss21
    replace h_l3 := ss21 _ _ h_l3
    replace hall := hall.add (v := .ref e5) ⟨_, ThK.whole h_e5 (bt_small (by decide))⟩ ne_e5
    clear hh21 n_e5 ss21 Ds20
    refine ⟨sz_n (by decide : 2 ≤ 1000), fun e6 n_e6 => ?_⟩
    generalize hh22 : upd _ e6 _ = Hx22
    have ss22 : Same Hx21 Hx22 := hh22 ▸ same_upd n_e6
    have h_e6 : Hx22 e6 = some (.tup [.int 1, .int 1]) := hh22 ▸ upd_same
    have ne_e6 := Ds21.ne_new n_e6
    have Ds22 := Ds21.same ss22
    replace hall := hall.same ss22
    replace S0 := S0.trans ss22
    replace h_l3 := ss22 _ _ h_l3
    replace hall := hall.add (v := .ref e6) ⟨_, ThK.whole h_e6 (bt_small (by decide))⟩ ne_e6
    clear hh22 n_e6 ss22 Ds21
    refine ⟨_, rfl, _, rfl, sz_n (by decide : 2 ≤ 1000), fun i1 n_i1 => ?_⟩
    generalize hh23 : upd _ i1 _ = Hx23
    have ss23 : Same Hx22 Hx23 := hh23 ▸ same_upd n_i1
    have h_i1 : Hx23 i1 = some (.tup [.int t, .int b]) := hh23 ▸ upd_same
    have ne_i1 := Ds22.ne_new n_i1
    have Ds23 := Ds22.same ss23
    replace hall := hall.same ss23
    replace S0 := S0.trans ss23
    replace h_l3 := ss23 _ _ h_l3
    clear hh23 n_i1 ss23 Ds22
    refine ⟨sz_n (by decide : 2 ≤ 1000), fun i2 n_i2 => ?_⟩
    generalize hh24 : upd _ i2 _ = Hx24
    have ss24 : Same Hx23 Hx24 := hh24 ▸ same_upd n_i2
    have h_i2 : Hx24 i2 = some (.tup [.int 1, .int 1]) := hh24 ▸ upd_same
    have ne_i2 := Ds23.ne_new n_i2
    have Ds24 := Ds23.same ss24
    replace hall := hall.same ss24
    replace S0 := S0.trans ss24
    replace h_l3 := ss24 _ _ h_l3
    replace h_i1 := ss24 _ _ h_i1
    clear hh24 n_i2 ss24 Ds23
    refine ⟨sz_n (by decide : 2 ≤ 1000), fun e7 n_e7 => ?_⟩
    generalize hh25 : upd _ e7 _ = Hx25
    have ss25 : Same Hx24 Hx25 := hh25 ▸ same_upd n_e7
    have h_e7 : Hx25 e7 = some (.tup [.ref i1, .ref i2]) := hh25 ▸ upd_same
    have ne_e7 := Ds24.ne_new n_e7
    have Ds25 := Ds24.same ss25
    replace hall := hall.same ss25
    replace S0 := S0.trans ss25
    replace h_l3 := ss25 _ _ h_l3
    replace h_i1 := ss25 _ _ h_i1
    replace h_i2 := ss25 _ _ h_i2
    replace hall := hall.add (v := .ref e7) ⟨_, ThK.two h_e7 (.tup h_i1) (.tup h_i2)⟩ ne_e7
    clear hh25 n_e7 ss25 Ds24
    have hall1 : Ths K Hx25 d l [.ref p0, .ref a1, .ref a2, .ref a3, .ref a4, .ref a5, .ref a6, .ref c1, .ref c2, .ref c3, .ref c4, .ref c5, .ref c6, .ref c7, .non, .int t, .str (Str.ofString "1/2"), .ref e1, .ref e2, .ref e3, .ref e4, .ref e5, .ref e6, .ref e7] := hall.sub (by simp)
    clear hall h_e1 h_e2 h_e3 h_e4 h_e5 h_e6 h_e7 h_i1 h_i2
    have hall := hall1
    clear hall1
    refine ⟨sz_n (by decide : 7 ≤ 1000), fun l4 n_l4 => ?_⟩
    generalize hh26 : upd _ l4 _ = Hx26
    have ss26 : Same Hx25 Hx26 := hh26 ▸ same_upd n_l4
    have h_l4 : Hx26 l4 = some (.lst [.ref e1, .ref e2, .ref e3, .ref e4, .ref e5, .ref e6, .ref e7]) := hh26 ▸ upd_same
    have ne_l4 := Ds25.ne_new n_l4
    have Ds26 := Ds25.same ss26
    replace hall := hall.same ss26
    replace S0 := S0.trans ss26
    replace h_l3 := ss26 _ _ h_l3
    clear hh26 n_l4 ss26 Ds25
    refine ⟨l3, l4, _, _, rfl, rfl, h_l3, h_l4, sz_n (by decide : 24 ≤ 1000), fun l5 n_l5 => ?_⟩
    generalize hh27 : upd _ l5 _ = Hx27
    have ss27 : Same Hx26 Hx27 := hh27 ▸ same_upd n_l5
    have h_l5 : Hx27 l5 = some (.lst [.ref p0, .ref a1, .ref a2, .ref a3, .ref a4, .ref a5, .ref a6, .ref c1, .ref c2, .ref c3, .ref c4, .ref c5, .ref c6, .ref c7, .non, .int t, .str (Str.ofString "1/2"), .ref e1, .ref e2, .ref e3, .ref e4, .ref e5, .ref e6, .ref e7]) := hh27 ▸ upd_same
    have ne_l5 := Ds26.ne_new n_l5
    have Ds27 := Ds26.same ss27
    replace hall := hall.same ss27
    replace S0 := S0.trans ss27
    replace h_l3 := ss27 _ _ h_l3
    replace h_l4 := ss27 _ _ h_l4
    clear hh27 n_l5 ss27 Ds26
    clear h_l3 h_l4
    generalize hrow : ([.ref p0, .ref a1, .ref a2, .ref a3, .ref a4, .ref a5, .ref a6, .ref c1, .ref c2, .ref c3, .ref c4, .ref c5, .ref c6, .ref c7, .non, .int t, .str (Str.ofString "1/2"), .ref e1, .ref e2, .ref e3, .ref e4, .ref e5, .ref e6, .ref e7] : List V) = row at *
    refine ⟨_, rfl, d, l, s, ns, c + 1, 24, rfl, Ds27, by omega, by decide, by decide, fun Hy i k1 D1 i0 i1 => ?_⟩
    have hy := k1 _ _ h_l5 (fun z => ne_l5.1 (congrArg V.ref z)) (fun z => ne_l5.2 (congrArg V.ref z))
    have ally : ∀ x ∈ row, ∃ b, ThK K Hy x b := fun x hx => by
      obtain ⟨⟨b, tb⟩, n1, n2⟩ := hall x hx
      exact ⟨b, tb.keep k1 Ds27 n1 n2⟩
    have KY : Keep d l H Hy := k0.trans ((same_keep S0).trans k1)
    clear hall h_l5 k1 S0 Ds27 k0
    have ln : row.length ≤ 24 := hrow ▸ (show (24 : Nat) ≤ 24 from Nat.le_refl _)
    refine ⟨_, rfl, _, rfl, i, rfl, l5, row, rfl, SqL.of hy, fun q1 m1 => ?_⟩
    have u1 := same_upd (o := .lst (cutV row (some i) none)) m1
    refine ⟨_, rfl, _, rfl, i, rfl, l5, row, rfl, SqL.of (u1 _ _ hy), fun q2 m2 => ?_⟩
    have u2 := same_upd (o := .lst (cutV row none (some i))) m2
    refine ⟨q1, q2, _, _, rfl, rfl, u2 _ _ upd_same, upd_same, Nat.le_trans (Nat.add_le_add (cutV_length _ _ _) (cutV_length _ _ _)) (sz_n (by omega)), fun q3 m3 => ?_⟩
    have u3 := same_upd (o := .lst (cutV row (some i) none ++ cutV row none (some i))) m3
    refine ⟨8, rfl, q3, _, rfl, SqL.of upd_same, fun q4 m4 => ?_⟩
    have u4 := same_upd (o := .lst (cutV (cutV row (some i) none ++ cutV row none (some i)) none (some 8))) m4
    have U := u1.trans (u2.trans (u3.trans u4))
    refine q _ q4 _ (KY.trans (same_keep U)) ((D1.same U).mono (by omega)) upd_same fun x hx => ?_
    have hx : x ∈ row := by
      rcases List.mem_append.mp (cutV_mem hx) with h | h
      · exact cutV_mem h
      · exact cutV_mem h
    obtain ⟨b', tb⟩ := ally x hx
    exact ⟨b', tb.same U⟩
end

section
variable {P : Program} {w : World} {K : PySem.W.Frag} {mg : Str → Option Value} {base : Heap}
theorem bt_pm {n : Nat} {x b : Int} (h : Bt n x) (h0 : 0 ≤ b) (h1 : b < 2) : Bt n (x * (1 - 2 * b)) := by
  have hb : b = 0 ∨ b = 1 := by omega
  rcases hb with rfl | rfl
  · rw [show (1 : Int) - 2 * 0 = 1 by decide, Int.mul_one]
    exact h
  · rw [show (1 : Int) - 2 * 1 = -1 by decide, Int.mul_neg, Int.mul_one]
    exact h.neg
theorem ne_pm {x b : Int} (h : x ≠ 0) : x * (1 - 2 * b) ≠ 0 := Int.mul_ne_zero h (by omega)
def sp_law (K : PySem.W.Frag) : Sp := fun vs H Q _ => ∃ (a : Addr) (ns : List Int), vs = [.ref a] ∧ SqL K H a (ns.map V.int) ∧ ns.length ≤ 63 ∧ ∀ H', Q (.bl true) H'
theorem ok_law {f : Addr} {fd : FuncData} (F : Fun K "law" "law" s_law f fd) (T : Tx K mg) : FnOk P w K mg base CX0 5 f fd ["_law_script"] (sp_law K) := by
  have G__law_deck := ok__law_deck (P := P) (w := w) (base := base) T
  have G__law_figures := ok__law_figures (P := P) (w := w) (base := base) T
  have G__law_good := ok__law_good (P := P) (w := w) (base := base) T
  have G__law_is := ok__law_is (P := P) (w := w) (base := base) T
  have G__law_share := ok__law_share (P := P) (w := w) (base := base) T
  have G__law_take := ok__law_take (P := P) (w := w) (base := base) T
  have G__law_things := ok__law_things (P := P) (w := w) (base := base) T
  have G_frac := ok_frac (P := P) (w := w) (base := base) T
  have G_is_fraction := ok_is_fraction (P := P) (w := w) (base := base) T
  refine F.ok sc_law (fun vs H Q E h => ?_) (fun cdv A outer s H vs Q E hr h => ?_)
  · obtain ⟨_, _, rfl, _⟩ := h
    rfl
  · obtain ⟨sa, ns, rfl, hS, hlen, q⟩ := h
    refine ⟨_, (pss_cons (ps_set (i := 1) sc_law.nd rfl (Or.inl rfl) (pe_call G__law_deck (hr.mono (by first | decide | omega)) (by rfl) T.g__law_deck T.F__law_deck.kp T.b__law_deck .nil pass0 (pa_cons (pv 0) pa_nil)))
      (pss_cons (ps_set (i := 2) sc_law.nd rfl (Or.inl rfl) (pe_ix ix_list (pe_lst (pa_cons pe_int (pa_cons (pe_op op_add (pe_op op_pow pe_int pe_int) pe_int) pa_nil))) (pe_callTy call_int1 (by rfl) T.m_int (by decide +kernel) (pa_cons (pe_cmpR op_eq (pe_call G__law_take (hr.mono (by first | decide | omega)) (by rfl) T.g__law_take T.F__law_take.kp T.b__law_take .nil pass0 (pa_cons (pv 1) (pa_cons pe_int pa_nil))) pe_int (nomark _)) pa_nil)) (fun _ _ => rfl)))
      (pss_cons (ps_for PassesOwn.never rfl (pi_range1 (by rfl) T.m_range (pa_cons pe_int pa_nil)) (pg_name (i := 3) sc_law.nd rfl (Or.inl rfl)) (pss_cons (ps_set (i := 4) sc_law.nd rfl (Or.inl rfl) (pe_op op_mulX (pe_op op_mulX (pe_call G__law_figures (hr.mono (by first | decide | omega)) (by rfl) T.g__law_figures T.F__law_figures.kp T.b__law_figures .nil pass0 (pa_cons (pv 1) pa_nil)) (pv 2)) (pe_op op_sub pe_int (pe_op op_mulX pe_int (pe_call G__law_take (hr.mono (by first | decide | omega)) (by rfl) T.g__law_take T.F__law_take.kp T.b__law_take .nil pass0 (pa_cons (pv 1) (pa_cons pe_int pa_nil)))))))
      (pss_cons (ps_set (i := 5) sc_law.nd rfl (Or.inl rfl) (pe_op op_mulX (pe_op op_mulX (pe_op op_add pe_int (pe_call G__law_figures (hr.mono (by first | decide | omega)) (by rfl) T.g__law_figures T.F__law_figures.kp T.b__law_figures .nil pass0 (pa_cons (pv 1) pa_nil))) (pe_ix ix_list (pe_lst (pa_cons pe_int (pa_cons (pv 2) pa_nil))) (pe_call G__law_take (hr.mono (by first | decide | omega)) (by rfl) T.g__law_take T.F__law_take.kp T.b__law_take .nil pass0 (pa_cons (pv 1) (pa_cons pe_int pa_nil))) (fun _ _ => rfl))) (pe_op op_sub pe_int (pe_op op_mulX pe_int (pe_call G__law_take (hr.mono (by first | decide | omega)) (by rfl) T.g__law_take T.F__law_take.kp T.b__law_take .nil pass0 (pa_cons (pv 1) (pa_cons pe_int pa_nil)))))))
      (pss_cons (ps_set (i := 6) sc_law.nd rfl (Or.inl rfl) (pe_call G__law_share (hr.mono (by first | decide | omega)) (by rfl) T.g__law_share T.F__law_share.kp T.b__law_share .nil pass0 (pa_cons (pv 4) (pa_cons (pv 5) pa_nil))))
      (pss_cons (ps_if (pt_not (pt_val (pe_call G__law_is (hr.mono (by first | decide | omega)) (by rfl) T.g__law_is T.F__law_is.kp T.b__law_is .nil pass0 (pa_cons (pe_call G_frac (hr.mono (by first | decide | omega)) (by rfl) T.g_frac T.F_frac.kp T.b_frac .nil pass0 (pa_cons (pv 4) (pa_cons (pv 5) pa_nil))) (pa_cons (pv 6) pa_nil))))) (pss_one (ps_ret pe_bl)) pss_nil)
      (pss_one (ps_for PassesOwn.never rfl (pi_list (pe_call G__law_things (hr.mono (by first | decide | omega)) (by rfl) T.g__law_things T.F__law_things.kp T.b__law_things .nil pass0 (pa_cons (pv 1) (pa_cons (pv 6) pa_nil)))) (pg_name (i := 7) sc_law.nd rfl (Or.inl rfl)) (pss_cons (ps_set (i := 8) sc_law.nd rfl (Or.inl rfl) (pe_call G_is_fraction (hr.mono (by first | decide | omega)) (by rfl) T.g_is_fraction T.F_is_fraction.kp T.b_is_fraction .nil pass0 (pa_cons (pv 7) pa_nil)))
      (pss_one (ps_if (PW.pt (pw_or (pt_not (pt_val (pe_callB call_isi (by rfl) T.m_isinstance (by decide +kernel) (pa_cons (pv 8) (pa_cons (pe_bltn (v := .ty "bool") (by rfl) T.m_bool (by decide +kernel) rfl) pa_nil))))) (pw_or1 (pt_cmpR op_ne (pv 8) (pe_call G__law_good (hr.mono (by first | decide | omega)) (by rfl) T.g__law_good T.F__law_good.kp T.b__law_good .nil pass0 (pa_cons (pv 7) pa_nil)) (nomark _))))) (pss_one (ps_ret pe_bl)) pss_nil))))))))))
      (pss_one (ps_ret pe_bl))))), ?_⟩
    refine ⟨.ref sa, rfl, sa, ns, rfl, hS, hlen, fun H1 d l s1 D1 _ _ => ?_⟩
    -- many
    refine ⟨10, 30, rfl, rfl, ⟨by decide, by decide, by decide⟩, _, _, rfl, rfl, sz_n (by decide : 2 ≤ 1000), fun p hp => ?_⟩
    have ap := D1.apart hp
    refine ⟨.ref d, rfl, d, l, sa, ns, 0, 4, rfl, D1.new hp, by decide, by decide, by decide, fun H2 k k2 D2 _ _ => ?_⟩
    have hp2 := k2 p _ upd_same ap.1 ap.2.1
    refine ⟨rfl, .inr ⟨_, rfl, ?_⟩⟩
    obtain ⟨m, hm, m0, bm⟩ : ∃ m : Int, atI [V.int 1, V.int (10 ^ (30 : Int).toNat + 57)] (if decide (V.int k = V.int 0) = true then 1 else 0) = some (.int m) ∧ m ≠ 0 ∧ Bt 100 m := by
      by_cases e : decide (V.int k = V.int 0) = true
      · rw [if_pos e]
        exact ⟨_, rfl, by decide, bt_lit (by decide)⟩
      · rw [if_neg e]
        exact ⟨1, rfl, by decide, bt_lit (by decide)⟩
    refine ⟨p, _, _, .int m, rfl, rfl, SqL.of hp2, hm, ?_⟩
    refine ⟨6, rfl, by decide, by decide, for_range (lo := 0) (n := 6) (fun i σ H' => ∃ y0 y1 y2 y3 y4 y5, σ = [some (.ref sa), some (.ref d), some (.int m), y0, y1, y2, y3, y4, y5] ∧ Dk K H' d l sa ns (40 * i + 1)) ⟨none, none, none, none, none, none, rfl, D2⟩ (fun i σ H' hi h => ?_) (fun σ H' h => q _)⟩
    obtain ⟨y0, y1, y2, y3, y4, y5, rfl, D3⟩ := h
    -- top
    refine ⟨.ref d, rfl, d, l, sa, ns, _, rfl, D3, by omega, fun H4 u k4 D4 u0 u1 => ?_⟩
    have bu : Bt 20 u := bt_lit (by omega)
    refine ⟨_, rfl, u, m, rfl, rfl, mulx_ok bu bm (by decide), .ref d, rfl, d, l, sa, ns, _, 2, rfl, D4, by omega, by decide, by decide, fun H5 b5 k5 D5 b50 b51 => ?_⟩
    refine ⟨2, b5, rfl, rfl, mulx_ok (a := 2) (b := 2) (by decide) (by omega) (by decide), 1, _, rfl, rfl, _, _, rfl, rfl, mulx_ok (bu.mul bm) (b := 3) (by omega) (by decide), ?_⟩
    have bT : Bt 120 (u * m * (1 - 2 * b5)) := bt_pm (bu.mul bm) b50 b51
    -- bottom
    refine ⟨.ref d, rfl, d, l, sa, ns, _, rfl, D5, by omega, fun H6 x k6 D6 x0 x1 => ?_⟩
    have bx : Bt 21 (1 + x) := bt_lit (by omega)
    refine ⟨1, x, rfl, rfl, _, rfl, sz_n (by decide : 2 ≤ 1000), fun g ng => ?_⟩
    have ag := D6.apart ng
    refine ⟨.ref d, rfl, d, l, sa, ns, _, 2, rfl, D6.new ng, by omega, by decide, by decide, fun H7 j k7 D7 j0 j1 => ?_⟩
    have hg7 := k7 g _ upd_same ag.1 ag.2.1
    obtain ⟨z, hz, z0, bz⟩ : ∃ z : Int, atI [V.int 1, V.int m] j = some (.int z) ∧ z ≠ 0 ∧ Bt 100 z := by
      have hj : j = 0 ∨ j = 1 := by omega
      rcases hj with rfl | rfl
      · exact ⟨1, rfl, by decide, bt_lit (by decide)⟩
      · exact ⟨m, rfl, m0, bm⟩
    refine ⟨g, _, j, .int z, rfl, rfl, SqL.of hg7, hz, 1 + x, z, rfl, rfl, mulx_ok bx bz (by decide), ?_⟩
    refine ⟨.ref d, rfl, d, l, sa, ns, _, 2, rfl, D7, by omega, by decide, by decide, fun H8 b8 k8 D8 b80 b81 => ?_⟩
    refine ⟨2, b8, rfl, rfl, mulx_ok (a := 2) (b := 2) (by decide) (by omega) (by decide), 1, _, rfl, rfl, _, _, rfl, rfl, mulx_ok (bx.mul bz) (b := 3) (by omega) (by decide), ?_⟩
    have bB : Bt 121 ((1 + x) * z * (1 - 2 * b8)) := bt_pm (bx.mul bz) b80 b81
    have nB : (1 + x) * z * (1 - 2 * b8) ≠ 0 := ne_pm (Int.mul_ne_zero (by omega) z0)
    -- due
    refine ⟨_, rfl, _, rfl, _, _, rfl, nB, bB.mono (by decide), fun H9 v9 s9 f9 => ?_⟩
    have b9 : Rb 200 (Rat.divInt (u * m * (1 - 2 * b5)) ((1 + x) * z * (1 - 2 * b8))) := rb_div nB (bT.mono (by decide)) (bB.mono (by decide))
    refine ⟨_, rfl, _, rfl, _, _, rfl, nB, bB.mono (by decide), fun Ha va sa' fa => ?_⟩
    refine ⟨v9, rfl, va, v9, _, rfl, fa, f9.same sa', fun Hb sb => ⟨true, rfl, iteF ?_⟩⟩
    have Sb := s9.trans (sa'.trans sb)
    -- the things
    refine ⟨.ref d, rfl, v9, rfl, d, l, sa, ns, _, v9, _, rfl, D8.same Sb, by omega, f9.same (sa'.trans sb), b9, fun Hc r xs kc Dc hr' hx => ?_⟩
    refine ⟨r, rfl, ⟨_, SqL.of hr'⟩, ?_⟩
    refine for_list (K := K) (a := r) (xs := xs) (fun i' σ H' => Same Hc H' ∧ ∃ y0 y1 y2 y3 y4 y5, σ = [some (.ref sa), some (.ref d), some (.int m), y0, y1, y2, y3, y4, y5])
      ⟨Same.refl _, _, _, _, _, _, _, rfl⟩ (fun i' σ H' _ h => h.1.seq (SqL.of hr')) (fun i' y σ H' hy h => ?_) (fun σ H' h => ?_)
    · obtain ⟨hSm, y0, y1, y2, y3, y4, y5, rfl⟩ := h
      obtain ⟨b, tb⟩ := hx y (List.mem_of_getElem? hy)
      have tb' := tb.same hSm
      refine ⟨y, rfl, y, b, rfl, tb'.isfr, fun Hd sd => ?_⟩
      refine ⟨_, rfl, _, _, _, _, true, rfl, .ty _, .base (.bl b), kit_ty (by decide +kernel), true, rfl, iteF ?_⟩
      refine ⟨.bl b, rfl, y, rfl, y, b, rfl, tb'.same sd, fun He se => ⟨rfl, _, rfl, iteNS rfl ?_⟩⟩
      exact ⟨hSm.trans (sd.trans se), _, _, _, _, _, _, rfl⟩
    · obtain ⟨hSm, y0, y1, y2, y3, y4, y5, rfl⟩ := h
      exact ⟨_, _, _, _, _, _, rfl, (Dc.same hSm).mono (by omega)⟩
end

theorem all_mk {l : PySem.W.OpenLaw} {w : World} {K : PySem.W.Frag} {h : Heap} {mg : Str → Option Value} {fa : Addr} (X : K.In h) (G : h.Ns mainGlobals mg) (hfa : mg "law" = some (.ref fa))
    {f0 : Addr} {od0 an0 : Option Addr} {sl0 : Array (Option Value)} {oc0 kV0 dc0 pm0 cd0 ct0 : Value}
    (a0 : PySem.W.nsIn K mainGlobals "frac" = some (some (.ref f0))) (l0 : K.lookup f0 = some ⟨oc0, od0, .func (PySem.W.fnOf "frac" "frac" (defArgs s_frac) (defBody s_frac) (defScope s_frac) .none kV0 dc0 pm0 an0 cd0 ct0), sl0⟩) (c0 : PySem.W.codeIn K cd0 "frac" = true) (k0 : PySem.W.keepIn K (.ref f0) = true)
    {f1 : Addr} {od1 an1 : Option Addr} {sl1 : Array (Option Value)} {oc1 kV1 dc1 pm1 cd1 ct1 : Value}
    (a1 : PySem.W.nsIn K mainGlobals "is_whole" = some (some (.ref f1))) (l1 : K.lookup f1 = some ⟨oc1, od1, .func (PySem.W.fnOf "is_whole" "is_whole" (defArgs s_is_whole) (defBody s_is_whole) (defScope s_is_whole) .none kV1 dc1 pm1 an1 cd1 ct1), sl1⟩) (c1 : PySem.W.codeIn K cd1 "is_whole" = true) (k1 : PySem.W.keepIn K (.ref f1) = true)
    {f2 : Addr} {od2 an2 : Option Addr} {sl2 : Array (Option Value)} {oc2 kV2 dc2 pm2 cd2 ct2 : Value}
    (a2 : PySem.W.nsIn K mainGlobals "is_fraction" = some (some (.ref f2))) (l2 : K.lookup f2 = some ⟨oc2, od2, .func (PySem.W.fnOf "is_fraction" "is_fraction" (defArgs s_is_fraction) (defBody s_is_fraction) (defScope s_is_fraction) .none kV2 dc2 pm2 an2 cd2 ct2), sl2⟩) (c2 : PySem.W.codeIn K cd2 "is_fraction" = true) (k2 : PySem.W.keepIn K (.ref f2) = true)
    {f3 : Addr} {od3 an3 : Option Addr} {sl3 : Array (Option Value)} {oc3 kV3 dc3 pm3 cd3 ct3 : Value}
    (a3 : PySem.W.nsIn K mainGlobals "_law_cell" = some (some (.ref f3))) (l3 : K.lookup f3 = some ⟨oc3, od3, .func (PySem.W.fnOf "_law_cell" "_law_cell" (defArgs s__law_cell) (defBody s__law_cell) (defScope s__law_cell) .none kV3 dc3 pm3 an3 cd3 ct3), sl3⟩) (c3 : PySem.W.codeIn K cd3 "_law_cell" = true) (k3 : PySem.W.keepIn K (.ref f3) = true)
    {f4 : Addr} {od4 an4 : Option Addr} {sl4 : Array (Option Value)} {oc4 kV4 dc4 pm4 cd4 ct4 : Value}
    (a4 : PySem.W.nsIn K mainGlobals "_law_mixed" = some (some (.ref f4))) (l4 : K.lookup f4 = some ⟨oc4, od4, .func (PySem.W.fnOf "_law_mixed" "_law_mixed" (defArgs s__law_mixed) (defBody s__law_mixed) (defScope s__law_mixed) .none kV4 dc4 pm4 an4 cd4 ct4), sl4⟩) (c4 : PySem.W.codeIn K cd4 "_law_mixed" = true) (k4 : PySem.W.keepIn K (.ref f4) = true)
    {f5 : Addr} {od5 an5 : Option Addr} {sl5 : Array (Option Value)} {oc5 kV5 dc5 pm5 cd5 ct5 : Value}
    (a5 : PySem.W.nsIn K mainGlobals "_law_deck" = some (some (.ref f5))) (l5 : K.lookup f5 = some ⟨oc5, od5, .func (PySem.W.fnOf "_law_deck" "_law_deck" (defArgs s__law_deck) (defBody s__law_deck) (defScope s__law_deck) .none kV5 dc5 pm5 an5 cd5 ct5), sl5⟩) (c5 : PySem.W.codeIn K cd5 "_law_deck" = true) (k5 : PySem.W.keepIn K (.ref f5) = true)
    {f6 : Addr} {od6 an6 : Option Addr} {sl6 : Array (Option Value)} {oc6 kV6 dc6 pm6 cd6 ct6 : Value}
    (a6 : PySem.W.nsIn K mainGlobals "_law_take" = some (some (.ref f6))) (l6 : K.lookup f6 = some ⟨oc6, od6, .func (PySem.W.fnOf "_law_take" "_law_take" (defArgs s__law_take) (defBody s__law_take) (defScope s__law_take) .none kV6 dc6 pm6 an6 cd6 ct6), sl6⟩) (c6 : PySem.W.codeIn K cd6 "_law_take" = true) (k6 : PySem.W.keepIn K (.ref f6) = true)
    {f7 : Addr} {od7 an7 : Option Addr} {sl7 : Array (Option Value)} {oc7 kV7 dc7 pm7 cd7 ct7 : Value}
    (a7 : PySem.W.nsIn K mainGlobals "_law_gcd" = some (some (.ref f7))) (l7 : K.lookup f7 = some ⟨oc7, od7, .func (PySem.W.fnOf "_law_gcd" "_law_gcd" (defArgs s__law_gcd) (defBody s__law_gcd) (defScope s__law_gcd) .none kV7 dc7 pm7 an7 cd7 ct7), sl7⟩) (c7 : PySem.W.codeIn K cd7 "_law_gcd" = true) (k7 : PySem.W.keepIn K (.ref f7) = true)
    {f8 : Addr} {od8 an8 : Option Addr} {sl8 : Array (Option Value)} {oc8 kV8 dc8 pm8 cd8 ct8 : Value}
    (a8 : PySem.W.nsIn K mainGlobals "_law_share" = some (some (.ref f8))) (l8 : K.lookup f8 = some ⟨oc8, od8, .func (PySem.W.fnOf "_law_share" "_law_share" (defArgs s__law_share) (defBody s__law_share) (defScope s__law_share) .none kV8 dc8 pm8 an8 cd8 ct8), sl8⟩) (c8 : PySem.W.codeIn K cd8 "_law_share" = true) (k8 : PySem.W.keepIn K (.ref f8) = true)
    {f9 : Addr} {od9 an9 : Option Addr} {sl9 : Array (Option Value)} {oc9 kV9 dc9 pm9 cd9 ct9 : Value}
    (a9 : PySem.W.nsIn K mainGlobals "_law_figures" = some (some (.ref f9))) (l9 : K.lookup f9 = some ⟨oc9, od9, .func (PySem.W.fnOf "_law_figures" "_law_figures" (defArgs s__law_figures) (defBody s__law_figures) (defScope s__law_figures) .none kV9 dc9 pm9 an9 cd9 ct9), sl9⟩) (c9 : PySem.W.codeIn K cd9 "_law_figures" = true) (k9 : PySem.W.keepIn K (.ref f9) = true)
    {f10 : Addr} {od10 an10 : Option Addr} {sl10 : Array (Option Value)} {oc10 kV10 dc10 pm10 cd10 ct10 : Value}
    (a10 : PySem.W.nsIn K mainGlobals "_law_is" = some (some (.ref f10))) (l10 : K.lookup f10 = some ⟨oc10, od10, .func (PySem.W.fnOf "_law_is" "_law_is" (defArgs s__law_is) (defBody s__law_is) (defScope s__law_is) .none kV10 dc10 pm10 an10 cd10 ct10), sl10⟩) (c10 : PySem.W.codeIn K cd10 "_law_is" = true) (k10 : PySem.W.keepIn K (.ref f10) = true)
    {f11 : Addr} {od11 an11 : Option Addr} {sl11 : Array (Option Value)} {oc11 kV11 dc11 pm11 cd11 ct11 : Value}
    (a11 : PySem.W.nsIn K mainGlobals "_law_good" = some (some (.ref f11))) (l11 : K.lookup f11 = some ⟨oc11, od11, .func (PySem.W.fnOf "_law_good" "_law_good" (defArgs s__law_good) (defBody s__law_good) (defScope s__law_good) .none kV11 dc11 pm11 an11 cd11 ct11), sl11⟩) (c11 : PySem.W.codeIn K cd11 "_law_good" = true) (k11 : PySem.W.keepIn K (.ref f11) = true)
    {f12 : Addr} {od12 an12 : Option Addr} {sl12 : Array (Option Value)} {oc12 kV12 dc12 pm12 cd12 ct12 : Value}
    (a12 : PySem.W.nsIn K mainGlobals "_law_things" = some (some (.ref f12))) (l12 : K.lookup f12 = some ⟨oc12, od12, .func (PySem.W.fnOf "_law_things" "_law_things" (defArgs s__law_things) (defBody s__law_things) (defScope s__law_things) .none kV12 dc12 pm12 an12 cd12 ct12), sl12⟩) (c12 : PySem.W.codeIn K cd12 "_law_things" = true) (k12 : PySem.W.keepIn K (.ref f12) = true)
    {f13 : Addr} {od13 an13 : Option Addr} {sl13 : Array (Option Value)} {oc13 kV13 dc13 pm13 cd13 ct13 : Value}
    (a13 : PySem.W.nsIn K mainGlobals "law" = some (some (.ref f13))) (l13 : K.lookup f13 = some ⟨oc13, od13, .func (PySem.W.fnOf "law" "law" (defArgs s_law) (defBody s_law) (defScope s_law) .none kV13 dc13 pm13 an13 cd13 ct13), sl13⟩) (c13 : PySem.W.codeIn K cd13 "law" = true) (k13 : PySem.W.keepIn K (.ref f13) = true)
    (z0 : PySem.W.nsIn K mainGlobals "abs" = some none)
    (z1 : PySem.W.nsIn K mainGlobals "bool" = some none)
    (z2 : PySem.W.nsIn K mainGlobals "int" = some none)
    (z3 : PySem.W.nsIn K mainGlobals "isinstance" = some none)
    (z4 : PySem.W.nsIn K mainGlobals "len" = some none)
    (z5 : PySem.W.nsIn K mainGlobals "range" = some none)
    (z6 : PySem.W.nsIn K mainGlobals "str" = some none)
    (z7 : PySem.W.nsIn K mainGlobals "tuple" = some none)
    : ∃ fd : FuncData, (∀ (s : Shared) (v : Value), BindsTo s fd ⟨[v], []⟩ [("_law_script", v)]) ∧ ∀ base : Heap, K.In base → base.Ns mainGlobals mg → FnOk l.prog w K mg base CX0 5 fa fd ["_law_script"] (sp_law K) := by
  have e := hfa.symm.trans (PySem.W.mg_of X G a13)
  cases e
  have F0 := fun_mk (st := s_frac) l0 c0 k0
  have b0 := F0.binds (ps := ["above", "below"]) fun _ _ _ _ _ _ us hl => match us, hl with | [_, _], _ => rfl
  have F1 := fun_mk (st := s_is_whole) l1 c1 k1
  have b1 := F1.binds (ps := ["thing"]) fun _ _ _ _ _ _ us hl => match us, hl with | [_], _ => rfl
  have F2 := fun_mk (st := s_is_fraction) l2 c2 k2
  have b2 := F2.binds (ps := ["thing"]) fun _ _ _ _ _ _ us hl => match us, hl with | [_], _ => rfl
  have F3 := fun_mk (st := s__law_cell) l3 c3 k3
  have b3 := F3.binds (ps := ["_law_script", "_law_k"]) fun _ _ _ _ _ _ us hl => match us, hl with | [_, _], _ => rfl
  have F4 := fun_mk (st := s__law_mixed) l4 c4 k4
  have b4 := F4.binds (ps := ["_law_script", "_law_k", "_law_many"]) fun _ _ _ _ _ _ us hl => match us, hl with | [_, _, _], _ => rfl
  have F5 := fun_mk (st := s__law_deck) l5 c5 k5
  have b5 := F5.binds (ps := ["_law_script"]) fun _ _ _ _ _ _ us hl => match us, hl with | [_], _ => rfl
  have F6 := fun_mk (st := s__law_take) l6 c6 k6
  have b6 := F6.binds (ps := ["_law_deck_here", "_law_many"]) fun _ _ _ _ _ _ us hl => match us, hl with | [_, _], _ => rfl
  have F7 := fun_mk (st := s__law_gcd) l7 c7 k7
  have b7 := F7.binds (ps := ["_law_one", "_law_other"]) fun _ _ _ _ _ _ us hl => match us, hl with | [_, _], _ => rfl
  have F8 := fun_mk (st := s__law_share) l8 c8 k8
  have b8 := F8.binds (ps := ["_law_top", "_law_bottom"]) fun _ _ _ _ _ _ us hl => match us, hl with | [_, _], _ => rfl
  have F9 := fun_mk (st := s__law_figures) l9 c9 k9
  have b9 := F9.binds (ps := ["_law_deck_here"]) fun _ _ _ _ _ _ us hl => match us, hl with | [_], _ => rfl
  have F10 := fun_mk (st := s__law_is) l10 c10 k10
  have b10 := F10.binds (ps := ["_law_found", "_law_due"]) fun _ _ _ _ _ _ us hl => match us, hl with | [_, _], _ => rfl
  have F11 := fun_mk (st := s__law_good) l11 c11 k11
  have b11 := F11.binds (ps := ["_law_thing"]) fun _ _ _ _ _ _ us hl => match us, hl with | [_], _ => rfl
  have F12 := fun_mk (st := s__law_things) l12 c12 k12
  have b12 := F12.binds (ps := ["_law_deck_here", "_law_one"]) fun _ _ _ _ _ _ us hl => match us, hl with | [_, _], _ => rfl
  have F13 := fun_mk (st := s_law) l13 c13 k13
  have T : Tx K mg := ⟨f0, _, F0, b0, PySem.W.mg_of X G a0, f1, _, F1, b1, PySem.W.mg_of X G a1, f2, _, F2, b2, PySem.W.mg_of X G a2, f3, _, F3, b3, PySem.W.mg_of X G a3, f4, _, F4, b4, PySem.W.mg_of X G a4, f5, _, F5, b5, PySem.W.mg_of X G a5, f6, _, F6, b6, PySem.W.mg_of X G a6, f7, _, F7, b7, PySem.W.mg_of X G a7, f8, _, F8, b8, PySem.W.mg_of X G a8, f9, _, F9, b9, PySem.W.mg_of X G a9, f10, _, F10, b10, PySem.W.mg_of X G a10, f11, _, F11, b11, PySem.W.mg_of X G a11, f12, _, F12, b12, PySem.W.mg_of X G a12, PySem.W.mg_none_of X G z0, PySem.W.mg_none_of X G z1, PySem.W.mg_none_of X G z2, PySem.W.mg_none_of X G z3, PySem.W.mg_none_of X G z4, PySem.W.mg_none_of X G z5, PySem.W.mg_none_of X G z6, PySem.W.mg_none_of X G z7⟩
  exact ⟨PySem.W.fnOf "law" "law" (defArgs s_law) (defBody s_law) (defScope s_law) .none kV13 dc13 pm13 an13 cd13 ct13, fun s v => .of_eq rfl, fun base _ _ => ok_law F13 T⟩
end Sc
open PySem PySem.W PyProof.Rows
set_option maxHeartbeats 0 in
theorem PySem.Challenge.cw_scenetongue_k01_fractions_made_holds : PySem.Challenge.rw_scenetongue_k01_fractions_made.Holds := by
  w_on; o_law; k_head; (case hw => w_witness2)
  k_fill
  refine L2.walk_of (l := PySem.Challenge.rw_scenetongue_k01_fractions_made) (n := 63) (k := 5) (x := "_law_script") (CX := fun _ => L2.CX0) (sp := fun w => Sc.sp_law _) rfl (by decide) rfl ⟨rfl, by decide, by decide⟩ (fun w h Y => PySem.W.kIn_of Y) ?F (fun _ _ a ns hl _ hS => ⟨a, ns, rfl, hS, hl, fun _ => rfl⟩) (fun _ _ _ _ _ h => h)
  case F =>
    intro w mg fa h KX G hmg
    refine' Sc.all_mk KX G hmg ?a0 ?l0 ?c0 ?k0 ?a1 ?l1 ?c1 ?k1 ?a2 ?l2 ?c2 ?k2 ?a3 ?l3 ?c3 ?k3 ?a4 ?l4 ?c4 ?k4 ?a5 ?l5 ?c5 ?k5 ?a6 ?l6 ?c6 ?k6 ?a7 ?l7 ?c7 ?k7 ?a8 ?l8 ?c8 ?k8 ?a9 ?l9 ?c9 ?k9 ?a10 ?l10 ?c10 ?k10 ?a11 ?l11 ?c11 ?k11 ?a12 ?l12 ?c12 ?k12 ?a13 ?l13 ?c13 ?k13 ?z0 ?z1 ?z2 ?z3 ?z4 ?z5 ?z6 ?z7
    (case a0 => k_is); (case l0 => k_is); (case c0 => k_is); (case k0 => k_is); (case a1 => k_is); (case l1 => k_is); (case c1 => k_is); (case k1 => k_is); (case a2 => k_is); (case l2 => k_is); (case c2 => k_is); (case k2 => k_is); (case a3 => k_is); (case l3 => k_is); (case c3 => k_is); (case k3 => k_is); (case a4 => k_is); (case l4 => k_is); (case c4 => k_is); (case k4 => k_is); (case a5 => k_is); (case l5 => k_is); (case c5 => k_is); (case k5 => k_is); (case a6 => k_is); (case l6 => k_is); (case c6 => k_is); (case k6 => k_is); (case a7 => k_is); (case l7 => k_is); (case c7 => k_is); (case k7 => k_is); (case a8 => k_is); (case l8 => k_is); (case c8 => k_is); (case k8 => k_is); (case a9 => k_is); (case l9 => k_is); (case c9 => k_is); (case k9 => k_is); (case a10 => k_is); (case l10 => k_is); (case c10 => k_is); (case k10 => k_is); (case a11 => k_is); (case l11 => k_is); (case c11 => k_is); (case k11 => k_is); (case a12 => k_is); (case l12 => k_is); (case c12 => k_is); (case k12 => k_is); (case a13 => k_is); (case l13 => k_is); (case c13 => k_is); (case k13 => k_is); (case z0 => k_is); (case z1 => k_is); (case z2 => k_is); (case z3 => k_is); (case z4 => k_is); (case z5 => k_is); (case z6 => k_is); (case z7 => k_is)
