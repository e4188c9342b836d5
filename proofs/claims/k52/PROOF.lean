import PyProof.Rows.All
import Wide.All
import OpenK.AllK
import Wide.FinOn
import HandS.ForMost
import HandS.Wide
import HandS.WideBits
import HandS.IsInst
import HandS.Walk
import HandS.Zip
import HandS.Style
import HandS.Star
import HandS.More
import HandS.TupAny
import HandS.Comp
import HandS.NoneIn
import HandS.TupSets
import HandS.Rev
import PySem.Challenge.RW_scenetongue_k52_rays_of_cells
set_option Elab.async false
set_option linter.all false
set_option maxRecDepth 100000
set_option maxHeartbeats 4000000

namespace Sc
open PySem PySem.Spec PyProof.Rows L2

/-- the greatest common divisor with the sign of b -/
def sg (a b : Int) : Int := if b < 0 then -(Int.gcd a b : Int) else (Int.gcd a b : Int)
/-- the loop of frac between two turns -/
def GInv (a b x y : Int) : Prop := Int.gcd x y = Int.gcd a b ∧ ((0 < b ∧ 0 ≤ y ∧ y < x ∧ x ≤ b) ∨ (b < 0 ∧ y ≤ 0 ∧ x < y ∧ b ≤ x))
theorem gcd_step (x y : Int) : Int.gcd y (x.fmod y) = Int.gcd x y := by
  rw [Int.fmod_def, Int.mul_comm, Int.gcd_sub_mul_right_right, Int.gcd_comm]
theorem fmod_pos {x y : Int} (h : 0 < y) : 0 ≤ x.fmod y ∧ x.fmod y < y := ⟨Int.fmod_nonneg_of_pos x h, Int.fmod_lt_of_pos x h⟩
theorem fmod_neg {x y : Int} (h : y < 0) : x.fmod y ≤ 0 ∧ y < x.fmod y := by
  have h' : 0 < -y := by omega
  have e := Int.neg_fmod_neg (-x) (-y)
  rw [Int.neg_neg, Int.neg_neg] at e
  have h1 := Int.fmod_nonneg_of_pos (-x) h'
  have h2 := Int.fmod_lt_of_pos (-x) h'
  omega
theorem GInv.start {a b : Int} (hb : b ≠ 0) : GInv a b b (a.fmod b) := by
  refine ⟨gcd_step a b, ?_⟩
  by_cases hp : 0 < b
  · have := @fmod_pos a b hp
    exact .inl ⟨hp, by omega, by omega, Int.le_refl _⟩
  · have hn : b < 0 := by omega
    have := @fmod_neg a b hn
    exact .inr ⟨hn, by omega, by omega, Int.le_refl _⟩
theorem GInv.next {a b x y : Int} (h : GInv a b x y) (hy : y ≠ 0) : GInv a b y (x.fmod y) ∧ (x.fmod y).natAbs < y.natAbs := by
  obtain ⟨hg, hs⟩ := h
  rcases hs with ⟨h1, h2, h3, h4⟩ | ⟨h1, h2, h3, h4⟩
  · have f := @fmod_pos x y (by omega)
    exact ⟨⟨by rw [gcd_step, hg], .inl ⟨h1, by omega, by omega, by omega⟩⟩, by omega⟩
  · have f := @fmod_neg x y (by omega)
    exact ⟨⟨by rw [gcd_step, hg], .inr ⟨h1, by omega, by omega, by omega⟩⟩, by omega⟩
theorem GInv.fin {a b x : Int} (h : GInv a b x 0) : x = sg a b := by
  obtain ⟨hg, hs⟩ := h
  rw [Int.gcd_zero_right] at hg
  unfold sg
  rw [← hg]
  split <;> omega
theorem GInv.ne {a b x y : Int} (h : GInv a b x y) : x ≠ 0 ∧ x.natAbs ≤ b.natAbs := by
  obtain ⟨hg, hs⟩ := h
  omega
/-- the law's own: without signs -/
def HInv (a b x y : Int) : Prop := Int.gcd x y = Int.gcd a b ∧ 0 ≤ x ∧ 0 ≤ y
theorem HInv.next {a b x y : Int} (h : HInv a b x y) (hy : 0 < y) : HInv a b y (x.fmod y) ∧ (x.fmod y).natAbs < y.natAbs := by
  obtain ⟨hg, hx, _⟩ := h
  have f := @fmod_pos x y hy
  exact ⟨⟨by rw [gcd_step, hg], by omega, f.1⟩, by omega⟩
theorem HInv.fin {a b x y : Int} (h : HInv a b x y) (hy : ¬ 0 < y) : x = (Int.gcd a b : Int) := by
  obtain ⟨hg, hx, h3⟩ := h
  have e : y = 0 := by omega
  subst e
  rw [Int.gcd_zero_right] at hg
  omega
theorem gcd_abs (a b : Int) : Int.gcd (if a < 0 then -a else a) (if b < 0 then -b else b) = Int.gcd a b := by
  have h : ∀ z : Int, (if z < 0 then -z else z).natAbs = z.natAbs := fun z => by split <;> omega
  unfold Int.gcd
  rw [h, h]
theorem sg_ne {a b : Int} (hb : b ≠ 0) : sg a b ≠ 0 ∧ (sg a b).natAbs ≤ b.natAbs := by
  have h1 : 0 < Int.gcd a b := Int.gcd_pos_of_ne_zero_right a hb
  have h2 : Int.gcd a b ≤ b.natAbs := Nat.le_of_dvd (by omega) (Int.gcd_dvd_natAbs_right a b)
  unfold sg
  split <;> omega
theorem sg_num {a b : Int} (hb : b ≠ 0) : a.fdiv (sg a b) = (Rat.divInt a b).num := by
  rw [Rat.num_divInt, Int.gcd_comm]
  have d : ((Int.gcd a b : Nat) : Int) ∣ a := Int.gcd_dvd_left a b
  unfold sg
  by_cases h : b < 0
  · rw [if_pos h, Int.sign_eq_neg_one_of_neg h, Int.fdiv_eq_ediv_of_dvd (Int.neg_dvd.mpr d), Int.ediv_neg, Int.neg_mul, Int.one_mul, Int.neg_ediv_of_dvd d]
  · rw [if_neg h, Int.fdiv_eq_ediv_of_dvd d]
    rw [Int.sign_eq_one_of_pos (by omega), Int.one_mul]
theorem sg_den {a b : Int} (hb : b ≠ 0) : b.fdiv (sg a b) = ((Rat.divInt a b).den : Int) := by
  rw [Rat.den_divInt, if_neg hb, Int.gcd_comm b a]
  have d : ((Int.gcd a b : Nat) : Int) ∣ b := Int.gcd_dvd_right a b
  unfold sg
  by_cases h : b < 0
  · rw [if_pos h, Int.fdiv_eq_ediv_of_dvd (Int.neg_dvd.mpr d), Int.ediv_neg, ← Int.neg_ediv_of_dvd d, Int.natCast_ediv]
    congr 1
    omega
  · rw [if_neg h, Int.fdiv_eq_ediv_of_dvd d, Int.natCast_ediv]
    congr 1
    omega

/-! ### sizes -/
def Bt (n : Nat) (x : Int) : Prop := x.natAbs < 2 ^ n
theorem Bt.mono {m n : Nat} {x : Int} (h : Bt m x) (hn : m ≤ n) : Bt n x := Nat.lt_of_lt_of_le h (Nat.pow_le_pow_right (by decide) hn)
theorem Bt.le {n : Nat} {x y : Int} (hy : Bt n y) (h : x.natAbs ≤ y.natAbs) : Bt n x := Nat.lt_of_le_of_lt h hy
theorem Bt.mul {m n : Nat} {x y : Int} (hx : Bt m x) (hy : Bt n y) : Bt (m + n) (x * y) := by
  unfold Bt at *
  rw [Int.natAbs_mul, Nat.pow_add]
  exact Nat.mul_lt_mul'' hx hy
theorem Bt.add {n : Nat} {x y : Int} (hx : Bt n x) (hy : Bt n y) : Bt (n + 1) (x + y) := by
  unfold Bt at *
  rw [Nat.pow_succ]
  omega
theorem Bt.neg {n : Nat} {x : Int} (hx : Bt n x) : Bt n (-x) := by
  unfold Bt at *
  rw [Int.natAbs_neg]
  exact hx
theorem Bt.sub {n : Nat} {x y : Int} (hx : Bt n x) (hy : Bt n y) : Bt (n + 1) (x - y) := by
  unfold Bt at *
  rw [Nat.pow_succ]
  omega
/-- a fraction's two parts -/
def Rb (n : Nat) (q : Rat) : Prop := Bt n q.num ∧ Bt n (q.den : Int)
theorem Rb.mono {m n : Nat} {q : Rat} (h : Rb m q) (hn : m ≤ n) : Rb n q := ⟨h.1.mono hn, h.2.mono hn⟩
theorem den_ne (q : Rat) : ((q.den : Nat) : Int) ≠ 0 := by
  have := q.den_pos
  omega
theorem rb_div {n : Nat} {a b : Int} (hb : b ≠ 0) (h1 : Bt n a) (h2 : Bt n b) : Rb n (Rat.divInt a b) := by
  have hs := (sg_ne (a := a) hb).1
  have e1 : a.fdiv (sg a b) * sg a b = a := Int.fdiv_mul_cancel (by
    unfold sg
    split
    · exact Int.neg_dvd.mpr (Int.gcd_dvd_left a b)
    · exact Int.gcd_dvd_left a b)
  have e2 : b.fdiv (sg a b) * sg a b = b := Int.fdiv_mul_cancel (by
    unfold sg
    split
    · exact Int.neg_dvd.mpr (Int.gcd_dvd_right a b)
    · exact Int.gcd_dvd_right a b)
  have k : ∀ x y : Int, x * sg a b = y → x.natAbs ≤ y.natAbs := fun x y e => by
    rw [← e, Int.natAbs_mul]
    exact Nat.le_mul_of_pos_right _ (by omega)
  rw [sg_num hb] at e1
  rw [sg_den hb] at e2
  exact ⟨h1.le (k _ _ e1), h2.le (k _ _ e2)⟩
theorem rat_sum (q r : Rat) : Rat.divInt (q.num * r.den + r.num * q.den) (q.den * r.den) = q + r := by
  rw [← Rat.divInt_add_divInt _ _ (den_ne q) (den_ne r), Rat.num_divInt_den, Rat.num_divInt_den]
theorem rat_less (q r : Rat) : Rat.divInt (q.num * r.den - r.num * q.den) (q.den * r.den) = q - r := by
  rw [← Rat.divInt_sub_divInt _ _ (den_ne q) (den_ne r), Rat.num_divInt_den, Rat.num_divInt_den]
theorem rat_prod (q r : Rat) : Rat.divInt (q.num * r.num) (q.den * r.den) = q * r := by
  rw [← Rat.divInt_mul_divInt, Rat.num_divInt_den, Rat.num_divInt_den]
theorem rat_quot (q r : Rat) : Rat.divInt (q.num * r.den) (q.den * r.num) = q / r := by
  rw [Rat.div_def, Rat.inv_def, ← Rat.divInt_mul_divInt, Rat.num_divInt_den]
theorem Rb.add {m n : Nat} {q r : Rat} (hq : Rb m q) (hr : Rb n r) : Rb (m + n + 1) (q + r) := by
  rw [← rat_sum]
  exact rb_div (Int.mul_ne_zero (den_ne q) (den_ne r)) ((hq.1.mul hr.2).add ((hr.1.mul hq.2).mono (by omega))) ((hq.2.mul hr.2).mono (by omega))
theorem Rb.sub {m n : Nat} {q r : Rat} (hq : Rb m q) (hr : Rb n r) : Rb (m + n + 1) (q - r) := by
  rw [← rat_less]
  exact rb_div (Int.mul_ne_zero (den_ne q) (den_ne r)) ((hq.1.mul hr.2).sub ((hr.1.mul hq.2).mono (by omega))) ((hq.2.mul hr.2).mono (by omega))
theorem Rb.mul {m n : Nat} {q r : Rat} (hq : Rb m q) (hr : Rb n r) : Rb (m + n) (q * r) := by
  rw [← rat_prod]
  exact rb_div (Int.mul_ne_zero (den_ne q) (den_ne r)) (hq.1.mul hr.1) (hq.2.mul hr.2)
theorem num_ne {r : Rat} (h : r ≠ 0) : r.num ≠ 0 := fun e => h (Rat.num_eq_zero.mp e)
theorem Rb.div {m n : Nat} {q r : Rat} (hq : Rb m q) (hr : Rb n r) (h : r ≠ 0) : Rb (m + n) (q / r) := by
  rw [← rat_quot]
  exact rb_div (Int.mul_ne_zero (den_ne q) (num_ne h)) (hq.1.mul hr.2) (hq.2.mul hr.1)

/-! ### rules of numbers -/
section
variable {X : Cx}
theorem op_fdX : OpR X (binaryOp .FloorDiv) (rI (fun _ j => j ≠ 0 ∧ Bt 9000 j) fun i j => .int (i.fdiv j)) := opI fun _ _ _ _ _ _ _ hc q =>
  floordiv_int hc.1 q (.inl (PyProof.noPylong_of_log2 (PySem.Flt.log2_lt_of (by decide) hc.2)))
end

/-! ### the mirror: values, memory, and how they stand for what is in the heap -/
inductive D where
  | non
  | bl (b : Bool)
  | int (i : Int)
  | str (x : Str)
  | ty (n : String)
  | fn (a : Addr)
  | tup (xs : List D)
  | rol (xs : List D)
  | rf (i : Nat)
inductive Cell where
  | lst (xs : List D)
  | dK (kvs : List (Key × D))
  | ins (C : Addr) (fs : List (Str × D))
abbrev Mem := List Cell
abbrev Rho := List (Option D)
/-- a tuple, a list that stands for good -/
def TupS (K : PySem.W.Frag) (H : Hp) (a : Addr) (xs : List V) : Prop := H a = some (.tup xs) ∨ ∀ H', SqT K H' a xs
def RolS (K : PySem.W.Frag) (H : Hp) (a : Addr) (xs : List V) : Prop := (∃ o, H a = some (.frz o (.lst xs))) ∨ ∀ H', SqL K H' a xs
mutual
inductive VR (K : PySem.W.Frag) (as : List Addr) (H : Hp) : V → D → Prop
  | non : VR K as H .non .non
  | bl (b : Bool) : VR K as H (.bl b) (.bl b)
  | int (i : Int) : VR K as H (.int i) (.int i)
  | str (x : Str) : VR K as H (.str x) (.str x)
  | ty (n : String) : VR K as H (.ty n) (.ty n)
  | fn (a : Addr) : VR K as H (.ref a) (.fn a)
  | tup {a : Addr} {xs : List V} {ds : List D} : TupS K H a xs → VRs K as H xs ds → VR K as H (.ref a) (.tup ds)
  | rol {a : Addr} {xs : List V} {ds : List D} : RolS K H a xs → VRs K as H xs ds → VR K as H (.ref a) (.rol ds)
  | rf {i : Nat} {a : Addr} : as[i]? = some a → VR K as H (.ref a) (.rf i)
inductive VRs (K : PySem.W.Frag) (as : List Addr) (H : Hp) : List V → List D → Prop
  | nil : VRs K as H [] []
  | cons {v : V} {vs : List V} {d : D} {ds : List D} : VR K as H v d → VRs K as H vs ds → VRs K as H (v :: vs) (d :: ds)
end
/-- the heap grows: what is tracked by the memory may change, all else stays -/
structure Gr (as : List Addr) (H : Hp) (as' : List Addr) (H' : Hp) : Prop where
  app : ∃ t, as' = as ++ t
  live : ∀ a o, H a = some o → ∃ o', H' a = some o'
  keep : ∀ a o, H a = some o → a ∉ as → H' a = some o
  fresh : ∀ a, a ∈ as' → a ∉ as → H a = none
  tup : ∀ a xs, H a = some (.tup xs) → H' a = some (.tup xs)
  frz : ∀ a o u, H a = some (.frz o u) → H' a = some (.frz o u)
section
variable {K : PySem.W.Frag} {as as' as1 as2 : List Addr} {H H' H1 H2 : Hp}
theorem Gr.refl : Gr as H as H := ⟨⟨[], by simp⟩, fun _ o h => ⟨o, h⟩, fun _ _ h _ => h, fun _ h n => absurd h n, fun _ _ h => h, fun _ _ _ h => h⟩
theorem Gr.trans (g : Gr as H as1 H1) (k : Gr as1 H1 as2 H2) : Gr as H as2 H2 where
  app := by
    obtain ⟨t, rfl⟩ := g.app
    obtain ⟨u, rfl⟩ := k.app
    exact ⟨t ++ u, by simp⟩
  live := fun a o h => let ⟨o1, h1⟩ := g.live a o h; k.live a o1 h1
  keep := fun a o h n => by
    by_cases m : a ∈ as1
    · have := g.fresh a m n
      rw [h] at this; cases this
    · exact k.keep a o (g.keep a o h n) m
  fresh := fun a m n => by
    by_cases m1 : a ∈ as1
    · exact g.fresh a m1 n
    · have h1 := k.fresh a m m1
      cases e : H a with
      | none => rfl
      | some o =>
        obtain ⟨o1, q⟩ := g.live a o e
        rw [h1] at q; cases q
  tup := fun a xs h => k.tup a xs (g.tup a xs h)
  frz := fun a o u h => k.frz a o u (g.frz a o u h)
/-- as much of it as values need -/
structure Gv (as : List Addr) (H : Hp) (as' : List Addr) (H' : Hp) : Prop where
  app : ∃ t, as' = as ++ t
  tup : ∀ a xs, H a = some (.tup xs) → H' a = some (.tup xs)
  frz : ∀ a o u, H a = some (.frz o u) → H' a = some (.frz o u)
theorem Gr.gv (g : Gr as H as' H') : Gv as H as' H' := ⟨g.app, g.tup, g.frz⟩
theorem Gv.get (g : Gv as H as' H') {i : Nat} {a : Addr} (h : as[i]? = some a) : as'[i]? = some a := by
  obtain ⟨t, rfl⟩ := g.app
  rw [List.getElem?_append_left (List.getElem?_eq_some_iff.mp h).1]
  exact h
theorem TupS.gv (g : Gv as H as' H') {a : Addr} {xs : List V} (h : TupS K H a xs) : TupS K H' a xs := h.elim (fun h => .inl (g.tup _ _ h)) .inr
theorem TupS.sq {a : Addr} {xs : List V} (h : TupS K H a xs) : SqT K H a xs := h.elim SqT.of fun h => h H
theorem RolS.gv (g : Gv as H as' H') {a : Addr} {xs : List V} (h : RolS K H a xs) : RolS K H' a xs := h.elim (fun ⟨o, h⟩ => .inl ⟨o, g.frz _ _ _ h⟩) .inr
theorem RolS.sq {a : Addr} {xs : List V} (h : RolS K H a xs) : SqL K H a xs := h.elim (fun ⟨o, h⟩ => .inl (.inr ⟨o, h⟩)) fun h => h H
mutual
theorem VR.gv (g : Gv as H as' H') : ∀ {v : V} {d : D}, VR K as H v d → VR K as' H' v d
  | _, _, .non => .non
  | _, _, .bl b => .bl b
  | _, _, .int i => .int i
  | _, _, .str x => .str x
  | _, _, .ty n => .ty n
  | _, _, .fn a => .fn a
  | _, _, .tup h hs => .tup (h.gv g) (VRs.gv g hs)
  | _, _, .rol h hs => .rol (h.gv g) (VRs.gv g hs)
  | _, _, .rf h => .rf (g.get h)
theorem VRs.gv (g : Gv as H as' H') : ∀ {vs : List V} {ds : List D}, VRs K as H vs ds → VRs K as' H' vs ds
  | _, _, .nil => .nil
  | _, _, .cons h hs => .cons (VR.gv g h) (VRs.gv g hs)
end
theorem VR.gr (g : Gr as H as' H') {v : V} {d : D} (h : VR K as H v d) : VR K as' H' v d := h.gv g.gv
theorem VRs.gr (g : Gr as H as' H') {vs : List V} {ds : List D} (h : VRs K as H vs ds) : VRs K as' H' vs ds := h.gv g.gv
theorem VRs.len : ∀ {vs : List V} {ds : List D}, VRs K as H vs ds → vs.length = ds.length
  | _, _, .nil => rfl
  | _, _, .cons _ hs => congrArg (· + 1) (VRs.len hs)
theorem VRs.get : ∀ {vs : List V} {ds : List D} {j : Nat} {d : D}, VRs K as H vs ds → ds[j]? = some d → ∃ v, vs[j]? = some v ∧ VR K as H v d
  | _, _, _, _, .nil, e => by simp at e
  | _, _, 0, _, .cons h _, e => by
    simp at e
    subst e
    exact ⟨_, rfl, h⟩
  | _, _, j + 1, _, .cons _ hs, e => by
    obtain ⟨v, h1, h2⟩ := VRs.get (j := j) hs (by simpa using e)
    exact ⟨v, by simpa using h1, h2⟩
theorem VRs.get' : ∀ {vs : List V} {ds : List D} {j : Nat} {v : V}, VRs K as H vs ds → vs[j]? = some v → ∃ d, ds[j]? = some d ∧ VR K as H v d
  | _, _, _, _, .nil, e => by simp at e
  | _, _, 0, _, .cons h _, e => by
    simp at e
    subst e
    exact ⟨_, rfl, h⟩
  | _, _, j + 1, _, .cons _ hs, e => by
    obtain ⟨v, h1, h2⟩ := VRs.get' (j := j) hs (by simpa using e)
    exact ⟨v, by simpa using h1, h2⟩
theorem VRs.append : ∀ {xs ys : List V} {ds es : List D}, VRs K as H xs ds → VRs K as H ys es → VRs K as H (xs ++ ys) (ds ++ es)
  | _, _, _, _, .nil, s => s
  | _, _, _, _, .cons r t, s => .cons r (VRs.append t s)
theorem VRs.take : ∀ {xs : List V} {ds : List D} (n : Nat), VRs K as H xs ds → VRs K as H (xs.take n) (ds.take n)
  | _, _, 0, _ => by simpa using VRs.nil
  | _, _, _ + 1, .nil => .nil
  | _, _, n + 1, .cons r t => .cons r (VRs.take n t)
theorem VRs.drop : ∀ {xs : List V} {ds : List D} (n : Nat), VRs K as H xs ds → VRs K as H (xs.drop n) (ds.drop n)
  | _, _, 0, r => r
  | _, _, _ + 1, .nil => .nil
  | _, _, n + 1, .cons _ t => VRs.drop n t
theorem VRs.set {x : V} {d : D} (r : VR K as H x d) : ∀ {xs : List V} {ds : List D} (i : Nat), VRs K as H xs ds → VRs K as H (xs.set i x) (ds.set i d)
  | _, _, _, .nil => .nil
  | _, _, 0, .cons _ t => .cons r t
  | _, _, i + 1, .cons q t => .cons q (VRs.set r i t)
theorem VRs.rev : ∀ {xs : List V} {ds : List D}, VRs K as H xs ds → VRs K as H xs.reverse ds.reverse
  | _, _, .nil => .nil
  | _, _, .cons r t => by
    rw [List.reverse_cons, List.reverse_cons]
    exact (VRs.rev t).append (.cons r .nil)
theorem VRs.isEmpty {xs : List V} {ds : List D} (h : VRs K as H xs ds) : xs.isEmpty = ds.isEmpty := by
  cases h <;> rfl
theorem VRs.nil_iff {xs : List V} {ds : List D} (h : VRs K as H xs ds) : xs = [] ↔ ds = [] := by
  cases h <;> simp
def CRel (K : PySem.W.Frag) (as : List Addr) (H : Hp) (a : Addr) : Cell → Prop
  | .lst ds => ∃ xs, H a = some (.lst xs) ∧ VRs K as H xs ds
  | .dK kds => ∃ kvs, H a = some (.dK kvs) ∧ kvs.map (·.1) = kds.map (·.1) ∧ VRs K as H (kvs.map (·.2)) (kds.map (·.2))
  | .ins C fds => ∃ dx fs, H a = some (.ins C dx fs) ∧ fs.map (·.1) = fds.map (·.1) ∧ VRs K as H (fs.map (·.2)) (fds.map (·.2))
theorem CRel.gv (g : Gv as H as' H') {a : Addr} (e : H' a = H a) : ∀ {c : Cell}, CRel K as H a c → CRel K as' H' a c
  | .lst _, ⟨xs, h, r⟩ => ⟨xs, e.trans h, r.gv g⟩
  | .dK _, ⟨kvs, h, k, r⟩ => ⟨kvs, e.trans h, k, r.gv g⟩
  | .ins _ _, ⟨dx, fs, h, k, r⟩ => ⟨dx, fs, e.trans h, k, r.gv g⟩
theorem CRel.gr (g : Gr as H as' H') {a : Addr} (e : H' a = H a) {c : Cell} (h : CRel K as H a c) : CRel K as' H' a c := h.gv g.gv e
/-- what a cell's place holds is no tuple and nothing locked -/
theorem CRel.there {a : Addr} : ∀ {c : Cell}, CRel K as H a c → ∃ o, H a = some o ∧ (∀ xs, o ≠ .tup xs) ∧ ∀ p u, o ≠ .frz p u
  | .lst _, ⟨_, h, _⟩ => ⟨_, h, fun _ z => (nomatch z), fun _ _ z => (nomatch z)⟩
  | .dK _, ⟨_, h, _⟩ => ⟨_, h, fun _ z => (nomatch z), fun _ _ z => (nomatch z)⟩
  | .ins _ _, ⟨_, _, h, _⟩ => ⟨_, h, fun _ z => (nomatch z), fun _ _ z => (nomatch z)⟩
structure MR (K : PySem.W.Frag) (as : List Addr) (H : Hp) (M : Mem) : Prop where
  len : as.length = M.length
  nd : as.Nodup
  cell : ∀ (i : Nat) (a : Addr) (c : Cell), as[i]? = some a → M[i]? = some c → CRel K as H a c
variable {M : Mem}
theorem MR.nil : MR K [] H [] := ⟨rfl, List.nodup_nil, fun _ _ _ h => by simp at h⟩
theorem MR.at (m : MR K as H M) {i : Nat} {a : Addr} (h : as[i]? = some a) : ∃ c, M[i]? = some c ∧ CRel K as H a c := by
  have hi : i < M.length := by rw [← m.len]; exact (List.getElem?_eq_some_iff.mp h).1
  exact ⟨M[i], List.getElem?_eq_getElem hi, m.cell i a _ h (List.getElem?_eq_getElem hi)⟩
theorem MR.get (m : MR K as H M) {i : Nat} {c : Cell} (h : M[i]? = some c) : ∃ a, as[i]? = some a ∧ CRel K as H a c := by
  have hi : i < as.length := by rw [m.len]; exact (List.getElem?_eq_some_iff.mp h).1
  exact ⟨as[i], List.getElem?_eq_getElem hi, m.cell i _ c (List.getElem?_eq_getElem hi) h⟩
theorem MR.there (m : MR K as H M) {a : Addr} (h : a ∈ as) : ∃ o, H a = some o ∧ (∀ xs, o ≠ .tup xs) ∧ ∀ p u, o ≠ .frz p u := by
  obtain ⟨i, hi⟩ := List.getElem?_of_mem h
  obtain ⟨c, _, r⟩ := m.at hi
  exact r.there
theorem MR.keepv (m : MR K as H M) (g : Gv as H as H') (e : ∀ a ∈ as, H' a = H a) : MR K as H' M :=
  ⟨m.len, m.nd, fun i a c h1 h2 => (m.cell i a c h1 h2).gv g (e a (List.mem_of_getElem? h1))⟩
theorem MR.keep (m : MR K as H M) (g : Gr as H as H') (e : ∀ a ∈ as, H' a = H a) : MR K as H' M := m.keepv g.gv e
/-- a new object that the memory doesn't track -/
theorem Gr.new {p : Addr} {o : HO} (hp : H p = none) : Gr as H as (upd H p o) where
  app := ⟨[], by simp⟩
  live := fun a u h => ⟨u, by rw [upd_ne (ne_of_none h hp)]; exact h⟩
  keep := fun a u h _ => by rw [upd_ne (ne_of_none h hp)]; exact h
  fresh := fun a h n => absurd h n
  tup := fun a xs h => by rw [upd_ne (ne_of_none h hp)]; exact h
  frz := fun a u xs h => by rw [upd_ne (ne_of_none h hp)]; exact h
theorem MR.new (m : MR K as H M) {p : Addr} {o : HO} (hp : H p = none) : MR K as (upd H p o) M :=
  m.keep (Gr.new hp) fun a h => by
    obtain ⟨u, e, _⟩ := m.there h
    rw [upd_ne (ne_of_none e hp)]
/-- a new object that the memory tracks -/
theorem Gr.alloc {p : Addr} {o : HO} (hp : H p = none) : Gr as H (as ++ [p]) (upd H p o) where
  app := ⟨[p], rfl⟩
  live := (Gr.new (as := as) hp).live
  keep := (Gr.new (as := as) hp).keep
  fresh := fun a h n => by
    rcases List.mem_append.mp h with h | h
    · exact absurd h n
    · rw [List.mem_singleton.mp h]; exact hp
  tup := (Gr.new (as := as) hp).tup
  frz := (Gr.new (as := as) hp).frz
theorem MR.alloc (m : MR K as H M) {p : Addr} {o : HO} {c : Cell} (hp : H p = none) (hc : CRel K (as ++ [p]) (upd H p o) p c) : MR K (as ++ [p]) (upd H p o) (M ++ [c]) := by
  have np : p ∉ as := fun h => by
    obtain ⟨u, e, _⟩ := m.there h
    rw [hp] at e; cases e
  refine ⟨by simp [m.len], ?_, fun i a c' h1 h2 => ?_⟩
  · rw [List.nodup_append]
    exact ⟨m.nd, by simp, fun a ha b hb z => by
      rw [List.mem_singleton.mp hb] at z
      subst z
      exact np ha⟩
  · by_cases hi : i < as.length
    · rw [List.getElem?_append_left hi] at h1
      rw [List.getElem?_append_left (by rw [← m.len]; exact hi)] at h2
      obtain ⟨u, e, _⟩ := m.there (List.mem_of_getElem? h1)
      exact (m.cell i a c' h1 h2).gr (Gr.alloc hp) (by rw [upd_ne (ne_of_none e hp)])
    · have : i = as.length := by
        have := (List.getElem?_eq_some_iff.mp h1).1
        simp at this
        omega
      subst this
      rw [List.getElem?_append_right (Nat.le_refl _)] at h1
      rw [m.len, List.getElem?_append_right (Nat.le_refl _)] at h2
      simp at h1 h2
      subst h1 h2
      exact hc
theorem Gr.write (m : MR K as H M) {a : Addr} {o : HO} (h : a ∈ as) : Gr as H as (upd H a o) := by
  obtain ⟨u, e, n1, n2⟩ := m.there h
  refine ⟨⟨[], by simp⟩, fun b x q => ?_, fun b x q n => ?_, fun b q n => absurd q n, fun b xs q => ?_, fun b p x q => ?_⟩
  · by_cases hb : b = a
    · subst hb; exact ⟨o, upd_same⟩
    · exact ⟨x, by rw [upd_ne hb]; exact q⟩
  · rw [upd_ne fun z => n (by rw [z]; exact h)]; exact q
  · rw [upd_ne fun z => n1 xs (by rw [z, e] at q; exact Option.some.inj q)]; exact q
  · rw [upd_ne fun z => n2 p x (by rw [z, e] at q; exact Option.some.inj q)]; exact q
theorem MR.write (m : MR K as H M) {i : Nat} {a : Addr} {o : HO} {c : Cell} (h : as[i]? = some a) (hc : CRel K as (upd H a o) a c) : MR K as (upd H a o) (M.set i c) := by
  have g : Gr as H as (upd H a o) := Gr.write m (List.mem_of_getElem? h)
  refine ⟨by simp [m.len], m.nd, fun j b c' h1 h2 => ?_⟩
  by_cases hj : j = i
  · subst hj
    rw [h] at h1
    cases h1
    have : j < M.length := by rw [← m.len]; exact (List.getElem?_eq_some_iff.mp h).1
    rw [List.getElem?_set_self this] at h2
    cases h2
    exact hc
  · rw [List.getElem?_set_ne (fun z => hj z.symm)] at h2
    have hb : b ≠ a := fun z => by
      subst z
      exact hj ((List.getElem?_inj (List.getElem?_eq_some_iff.mp h1).1 m.nd).mp (by rw [h1, h]))
    exact (m.cell j b c' h1 h2).gr g (upd_ne hb)
/-! what stands behind the first n cells is forgotten -/
mutual
def D.lo (n : Nat) : D → Bool
  | .tup ds => D.los n ds
  | .rol ds => D.los n ds
  | .rf i => decide (i < n)
  | _ => true
def D.los (n : Nat) : List D → Bool
  | [] => true
  | d :: ds => D.lo n d && D.los n ds
end
abbrev D.imm : D → Bool := D.lo 0
mutual
theorem VR.low {n : Nat} : ∀ {v : V} {d : D}, VR K as H v d → d.lo n = true → VR K (as.take n) H v d
  | _, _, .non, _ => .non
  | _, _, .bl b, _ => .bl b
  | _, _, .int i, _ => .int i
  | _, _, .str x, _ => .str x
  | _, _, .ty n, _ => .ty n
  | _, _, .fn a, _ => .fn a
  | _, _, .tup h hs, e => .tup h (VRs.low hs (by simpa [D.lo] using e))
  | _, _, .rol h hs, e => .rol h (VRs.low hs (by simpa [D.lo] using e))
  | _, _, .rf h, e => .rf (by
    simp only [D.lo, decide_eq_true_eq] at e
    rw [List.getElem?_take_of_lt e]
    exact h)
theorem VRs.low {n : Nat} : ∀ {vs : List V} {ds : List D}, VRs K as H vs ds → D.los n ds = true → VRs K (as.take n) H vs ds
  | _, _, .nil, _ => .nil
  | _, _, .cons h hs, e => by
    simp only [D.los, Bool.and_eq_true] at e
    exact .cons (VR.low h e.1) (VRs.low hs e.2)
end
def Cell.lo (n : Nat) : Cell → Bool
  | .lst ds => D.los n ds
  | .dK kds => D.los n (kds.map (·.2))
  | .ins _ fds => D.los n (fds.map (·.2))
theorem CRel.low {n : Nat} {a : Addr} : ∀ {c : Cell}, CRel K as H a c → c.lo n = true → CRel K (as.take n) H a c
  | .lst _, ⟨xs, h, r⟩, e => ⟨xs, h, r.low e⟩
  | .dK _, ⟨kvs, h, k, r⟩, e => ⟨kvs, h, k, r.low e⟩
  | .ins _ _, ⟨dx, fs, h, k, r⟩, e => ⟨dx, fs, h, k, r.low e⟩
theorem MR.low (m : MR K as H M) {n : Nat} (e : (M.take n).all (Cell.lo n) = true) : MR K (as.take n) H (M.take n) := by
  refine ⟨by simp [m.len], m.nd.sublist (List.take_sublist n as), fun i a c h1 h2 => ?_⟩
  have hi : i < n := by
    have := (List.getElem?_eq_some_iff.mp h1).1
    simp at this
    omega
  have hc := List.all_eq_true.mp e c (List.mem_of_getElem? h2)
  rw [List.getElem?_take_of_lt hi] at h1 h2
  exact (m.cell i a c h1 h2).low hc
theorem Gr.low (g : Gr as H as' H') : Gr as H (as'.take as.length) H' := by
  obtain ⟨t, e⟩ := g.app
  have : as'.take as.length = as := by rw [e]; simp
  rw [this]
  exact ⟨⟨[], by simp⟩, g.live, g.keep, fun _ h n => absurd h n, g.tup, g.frz⟩
theorem Gr.same (g : Gr [] H as' H') : Same H H' := fun a o h => g.keep a o h (by simp)
theorem Gr.of_same {as : List Addr} (m : MR K as H M) (s : Same H H') : Gr as H as H' :=
  ⟨⟨[], by simp⟩, fun _ o h => ⟨o, s _ _ h⟩, fun a o h _ => s a o h, fun _ h n => absurd h n, fun a xs h => s _ _ h, fun a o u h => s _ _ h⟩
theorem MR.same (m : MR K as H M) (s : Same H H') : MR K as H' M := m.keep (Gr.of_same m s) fun a h => by
  obtain ⟨o, e, _⟩ := m.there h
  rw [s _ _ e, e]
/-- what has no place in the memory stands for itself in any -/
theorem VR.up (h : VR K [] H v d) : VR K as H v d := by
  have g : Gr [] H as H → VR K as H v d := fun g => h.gr g
  exact VR.rec (motive_1 := fun v d _ => VR K as H v d) (motive_2 := fun vs ds _ => VRs K as H vs ds) .non .bl .int .str .ty .fn (fun h _ hs => .tup h hs) (fun h _ hs => .rol h hs) (fun h => by simp at h) .nil (fun _ _ h hs => .cons h hs) h
theorem Gr.free (g : Gr as H as' H') {L : Addr} (h : H' L = none) : H L = none := by
  cases e : H L with
  | none => rfl
  | some o =>
    obtain ⟨o', q⟩ := g.live L o e
    rw [h] at q; cases q
/-- a list that the memory doesn't track is written -/
theorem Gv.side {L : Addr} {xs : List V} {o : HO} (h : H L = some (.lst xs)) : Gv as H as (upd H L o) :=
  ⟨⟨[], by simp⟩, fun a ys q => by rw [upd_ne fun z => by rw [z, h] at q; cases q]; exact q, fun a p u q => by rw [upd_ne fun z => by rw [z, h] at q; cases q]; exact q⟩
theorem Gr.over (g : Gr as H as' H') {L : Addr} {o : HO} (hn : H L = none) : Gr as H as' (upd H' L o) where
  app := g.app
  live := fun a u q => by
    obtain ⟨u', q'⟩ := g.live a u q
    exact ⟨u', by rw [upd_ne (ne_of_none q hn)]; exact q'⟩
  keep := fun a u q n => by rw [upd_ne (ne_of_none q hn)]; exact g.keep a u q n
  fresh := g.fresh
  tup := fun a xs q => by rw [upd_ne (ne_of_none q hn)]; exact g.tup a xs q
  frz := fun a u xs q => by rw [upd_ne (ne_of_none q hn)]; exact g.frz a u xs q
theorem MR.side (m : MR K as H M) {L : Addr} {xs : List V} {o : HO} (h : H L = some (.lst xs)) (n : L ∉ as) : MR K as (upd H L o) M :=
  m.keepv (Gv.side h) fun a ha => upd_ne fun z => n (by rw [← z]; exact ha)
/-- such a list comes under the memory -/
theorem Gr.take (g : Gr as H as' H') {L : Addr} (hn : H L = none) (n : L ∉ as') : Gr as H (as' ++ [L]) H' where
  app := by
    obtain ⟨t, rfl⟩ := g.app
    exact ⟨t ++ [L], by simp⟩
  live := g.live
  keep := g.keep
  fresh := fun a q n => by
    rcases List.mem_append.mp q with q | q
    · exact g.fresh a q n
    · rw [List.mem_singleton.mp q]; exact hn
  tup := g.tup
  frz := g.frz
theorem MR.take (m : MR K as H M) {L : Addr} {xs : List V} {ds : List D} (h : H L = some (.lst xs)) (n : L ∉ as) (r : VRs K as H xs ds) : MR K (as ++ [L]) H (M ++ [.lst ds]) := by
  have gv : Gv as H (as ++ [L]) H := ⟨⟨[L], rfl⟩, fun _ _ q => q, fun _ _ _ q => q⟩
  refine ⟨by simp [m.len], ?_, fun i a c' h1 h2 => ?_⟩
  · rw [List.nodup_append]
    exact ⟨m.nd, by simp, fun a ha b hb z => by
      rw [List.mem_singleton.mp hb] at z
      subst z
      exact n ha⟩
  · by_cases hi : i < as.length
    · rw [List.getElem?_append_left hi] at h1
      rw [List.getElem?_append_left (by rw [← m.len]; exact hi)] at h2
      exact (m.cell i a c' h1 h2).gv gv rfl
    · have : i = as.length := by
        have := (List.getElem?_eq_some_iff.mp h1).1
        simp at this
        omega
      subst this
      rw [List.getElem?_append_right (Nat.le_refl _)] at h1
      rw [m.len, List.getElem?_append_right (Nat.le_refl _)] at h2
      simp at h1 h2
      subst h1 h2
      exact ⟨xs, h, r.gv gv⟩
end

/-! ### the mirror: slots, readings -/
def SR (K : PySem.W.Frag) (as : List Addr) (H : Hp) : L2.St → Rho → Prop := Paired fun o p => ∀ d, p = some d → ∃ v, o = some v ∧ VR K as H v d
abbrev FE := Rho → Mem → Option (D × Mem)
abbrev FT := Rho → Mem → Option (Bool × Mem)
abbrev FA := Rho → Mem → Option (List D × Mem)
section
variable {K : PySem.W.Frag} {as as' : List Addr} {H H' : Hp} {σ : L2.St} {ρ : Rho} {M M' : Mem}
theorem SR.gr (g : Gr as H as' H') : ∀ {σ : L2.St} {ρ : Rho}, SR K as H σ ρ → SR K as' H' σ ρ
  | _, _, .nil => .nil
  | _, _, .cons h t => .cons (fun d e => let ⟨v, h1, h2⟩ := h d e; ⟨v, h1, h2.gr g⟩) (SR.gr g t)
theorem SR.get : ∀ {σ : L2.St} {ρ : Rho} {i : Nat} {d : D}, SR K as H σ ρ → ρ[i]? = some (some d) → ∃ v, σ[i]? = some (some v) ∧ VR K as H v d
  | _, _, _, _, .nil, e => by simp at e
  | _, _, 0, d, .cons h _, e => by
    obtain ⟨v, h1, h2⟩ := h d (by simpa using e)
    subst h1
    exact ⟨v, rfl, h2⟩
  | _, _, i + 1, _, .cons _ t, e => by
    obtain ⟨v, h1, h2⟩ := SR.get (i := i) t (by simpa using e)
    exact ⟨v, by simpa using h1, h2⟩
theorem SR.set {v : V} {d : D} (r : VR K as H v d) : ∀ {σ : L2.St} {ρ : Rho} (i : Nat), SR K as H σ ρ → SR K as H (σ.set i (some v)) (ρ.set i (some d))
  | _, _, _, .nil => .nil
  | _, _, 0, .cons _ t => .cons (fun d' e => ⟨v, rfl, by cases e; exact r⟩) t
  | _, _, i + 1, .cons h t => .cons h (SR.set r i t)
theorem SR.unset : ∀ {σ : L2.St} {ρ : Rho} (i : Nat), SR K as H σ ρ → SR K as H (σ.set i none) (ρ.set i none)
  | _, _, _, .nil => .nil
  | _, _, 0, .cons _ t => .cons (fun d' e => by cases e) t
  | _, _, i + 1, .cons h t => .cons h (SR.unset i t)
theorem SR.some : ∀ {vs : List V} {ds : List D}, VRs K as H vs ds → SR K as H (vs.map some) (ds.map some)
  | _, _, .nil => .nil
  | _, _, .cons h hs => .cons (fun d e => ⟨_, rfl, by cases e; exact h⟩) (SR.some hs)
theorem SR.app : ∀ {σ τ : L2.St} {ρ θ : Rho}, SR K as H σ ρ → SR K as H τ θ → SR K as H (σ ++ τ) (ρ ++ θ)
  | _, _, _, _, .nil, s => s
  | _, _, _, _, .cons h t, s => .cons h (SR.app t s)
theorem SR.nones : ∀ n : Nat, SR K as H (List.replicate n none) (List.replicate n none)
  | 0 => .nil
  | n + 1 => .cons (fun d e => by cases e) (SR.nones n)
/-- the slots at a def's entry -/
def startD (n : Nat) (ds : List D) : Rho := ds.map some ++ List.replicate (n - ds.length) none
theorem SR.start {N : List Str} {vs : List V} {ds : List D} (h : VRs K as H vs ds) : SR K as H (L2.start N vs) (startD N.length ds) := by
  unfold L2.start startD
  rw [← h.len]
  exact (SR.some h).app (SR.nones _)
def rE (K : PySem.W.Frag) (f : FE) : TE := fun σ H Q => ∃ as ρ M d M', SR K as H σ ρ ∧ MR K as H M ∧ f ρ M = some (d, M') ∧ ∀ v as' H', Gr as H as' H' → MR K as' H' M' → VR K as' H' v d → Q v H'
def rT (K : PySem.W.Frag) (f : FT) : TT := fun σ H Q => ∃ as ρ M b M', SR K as H σ ρ ∧ MR K as H M ∧ f ρ M = some (b, M') ∧ ∀ as' H', Gr as H as' H' → MR K as' H' M' → Q b H'
def rA (K : PySem.W.Frag) (f : FA) : TA := fun σ H Q => ∃ as ρ M ds M', SR K as H σ ρ ∧ MR K as H M ∧ f ρ M = some (ds, M') ∧ ∀ vs as' H', Gr as H as' H' → MR K as' H' M' → VRs K as' H' vs ds → Q vs H'
/-- an operation on two values -/
abbrev G2 := D → D → Mem → Option (D × Mem)
def rO (K : PySem.W.Frag) (g : G2) : R2 := fun x y H Q => ∃ as M dx dy d M', MR K as H M ∧ VR K as H x dx ∧ VR K as H y dy ∧ g dx dy M = some (d, M') ∧ ∀ v as' H', Gr as H as' H' → MR K as' H' M' → VR K as' H' v d → Q v H'
abbrev G1 := D → Mem → Option (D × Mem)
def rU1 (K : PySem.W.Frag) (g : G1) : V → Hp → VK → Prop := fun x H Q => ∃ as M dx d M', MR K as H M ∧ VR K as H x dx ∧ g dx M = some (d, M') ∧ ∀ v as' H', Gr as H as' H' → MR K as' H' M' → VR K as' H' v d → Q v H'
abbrev GL := List D → Mem → Option (D × Mem)
def rL (K : PySem.W.Frag) (g : GL) : List V → Hp → VK → Prop := fun xs H Q => ∃ as M ds d M', MR K as H M ∧ VRs K as H xs ds ∧ g ds M = some (d, M') ∧ ∀ v as' H', Gr as H as' H' → MR K as' H' M' → VR K as' H' v d → Q v H'
def rM (K : PySem.W.Frag) (g : D → GL) : V → List V → Hp → VK → Prop := fun x xs H Q => ∃ as M dx ds d M', MR K as H M ∧ VR K as H x dx ∧ VRs K as H xs ds ∧ g dx ds M = some (d, M') ∧ ∀ v as' H', Gr as H as' H' → MR K as' H' M' → VR K as' H' v d → Q v H'
end
theorem pe_mono {X : Cx} {e : Expr} {t t' : TE} (h : PE X e t) (m : ∀ σ H Q, t' σ H Q → t σ H Q) : PE X e t' := ⟨fun pins s σ H Q I q => h.run pins s σ H Q I (m σ H Q q)⟩
theorem pt_mono {X : Cx} {e : Expr} {t t' : TT} (h : PT X e t) (m : ∀ σ H Q, t' σ H Q → t σ H Q) : PT X e t' := ⟨fun pins s σ H Q I q => h.run pins s σ H Q I (m σ H Q q)⟩
theorem pw_mono {X : Cx} {e : Expr} {t t' : TT} (h : PW X e t) (m : ∀ σ H Q, t' σ H Q → t σ H Q) : PW X e t' := ⟨fun wh pins s σ H Q I q => h.run wh pins s σ H Q I (m σ H Q q)⟩
theorem pts_mono {X : Cx} {e : List Expr} {t t' : TT} (h : PTs X e t) (m : ∀ σ H Q, t' σ H Q → t σ H Q) : PTs X e t' := ⟨fun pins s σ H Q I q => h.run pins s σ H Q I (m σ H Q q)⟩
theorem pa_mono {X : Cx} {e : List Expr} {t t' : TA} (h : PA X e t) (m : ∀ σ H Q, t' σ H Q → t σ H Q) : PA X e t' := ⟨fun pos pins s σ H Q I q => h.run pos pins s σ H Q I (m σ H Q q)⟩
theorem ps_mono {X : Cx} {e : Stmt} {t t' : TS} (h : PS X e t) (m : ∀ D σ H, t' D σ H → t D σ H) : PS X e t' := ⟨fun pins s σ H D I q => h.run pins s σ H D I (m D σ H q)⟩
theorem pss_mono {X : Cx} {e : List Stmt} {t t' : TS} (h : PSs X e t) (m : ∀ D σ H, t' D σ H → t D σ H) : PSs X e t' := ⟨fun pins s σ H D I q => h.run pins s σ H D I (m D σ H q)⟩
theorem pi_mono {X : Cx} {tg e : Expr} {t t' : TI} (h : PI X tg e t) (m : ∀ σ H R, t' σ H R → t σ H R) : PI X tg e t' := ⟨fun pins s σ H R I q => h.run pins s σ H R I (m σ H R q)⟩
theorem pg_mono {X : Cx} {e : Expr} {t t' : TG} (h : PG X e t) (m : ∀ v σ H Q, t' v σ H Q → t v σ H Q) : PG X e t' := ⟨fun pins s σ H v u Q I r q => h.run pins s σ H v u Q I r (m v σ H Q q)⟩
def SE (K : PySem.W.Frag) (X : Cx) (e : Expr) (f : FE) : Prop := X.K = K → X.calm = true → PE X e (rE K f)
def ST (K : PySem.W.Frag) (X : Cx) (e : Expr) (f : FT) : Prop := X.K = K → X.calm = true → PT X e (rT K f)
def SW (K : PySem.W.Frag) (X : Cx) (e : Expr) (f : FT) : Prop := X.K = K → X.calm = true → PW X e (rT K f)
def SA (K : PySem.W.Frag) (X : Cx) (es : List Expr) (f : FA) : Prop := X.K = K → X.calm = true → PA X es (rA K f)
/-! ### combinators -/
def fV (i : Nat) : FE := fun ρ M => ((ρ[i]?).bind id).map fun d => (d, M)
def fC (d : D) : FE := fun _ M => some (d, M)
def fO (g : G2) (fa fb : FE) : FE := fun ρ M => (fa ρ M).bind fun p => (fb ρ p.2).bind fun q => g p.1 q.1 q.2
def fU (g : G1) (fa : FE) : FE := fun ρ M => (fa ρ M).bind fun p => g p.1 p.2
def fNil : FA := fun _ M => some ([], M)
def fCons (fa : FE) (fr : FA) : FA := fun ρ M => (fa ρ M).bind fun p => (fr ρ p.2).bind fun q => some (p.1 :: q.1, q.2)
def fL (g : GL) (fa : FA) : FE := fun ρ M => (fa ρ M).bind fun p => g p.1 p.2
def fM (g : D → GL) (fo : FE) (fa : FA) : FE := fun ρ M => (fo ρ M).bind fun o => (fa ρ o.2).bind fun p => g o.1 p.1 p.2
def fIf (c : FT) (fa fb : FE) : FE := fun ρ M => (c ρ M).bind fun p => if p.1 = true then fa ρ p.2 else fb ρ p.2
def tV (f : FE) : FT := fun ρ M => (f ρ M).bind fun p => match p.1 with
  | .bl b => some (b, p.2)
  | _ => none
def gTru : D → Mem → Option Bool
  | .non, _ => some false
  | .bl b, _ => some b
  | .int i, _ => some (i != 0)
  | .str x, _ => if x.length ≤ 100000 then some (x.length != 0) else none
  | .tup ds, _ => some !ds.isEmpty
  | .rol ds, _ => some !ds.isEmpty
  | .rf i, M => match M[i]? with
    | some (.lst ds) => some !ds.isEmpty
    | _ => none
  | _, _ => none
def tTr (f : FE) : FT := fun ρ M => (f ρ M).bind fun p => (gTru p.1 p.2).map fun b => (b, p.2)
def tAn (a b : FT) : FT := fun ρ M => (a ρ M).bind fun p => if p.1 = true then b ρ p.2 else some (false, p.2)
def tOr2 (a b : FT) : FT := fun ρ M => (a ρ M).bind fun p => if p.1 = true then some (true, p.2) else b ρ p.2
def tNo (a : FT) : FT := fun ρ M => (a ρ M).bind fun p => some (!p.1, p.2)
def fNotB (a : FE) : FE := fun ρ M => (a ρ M).bind fun p => match p.1 with
  | .bl b => some (.bl (!b), p.2)
  | _ => none
def fAnB (a b : FE) : FE := fun ρ M => (a ρ M).bind fun p => match p.1 with
  | .bl c => if c = true then b ρ p.2 else some (.bl false, p.2)
  | _ => none
def fOrB (a b : FE) : FE := fun ρ M => (a ρ M).bind fun p => match p.1 with
  | .bl c => if c = true then some (.bl true, p.2) else b ρ p.2
  | _ => none
def fTup (fa : FA) : FE := fun ρ M => (fa ρ M).bind fun p => if p.1.length ≤ 100000 then some (.tup p.1, p.2) else none
def fLst (fa : FA) : FE := fun ρ M => (fa ρ M).bind fun p => if p.1.length ≤ 100000 then some (.rf p.2.length, p.2 ++ [.lst p.1]) else none
def fCh (g g' : G2) (fa fb fc : FE) : FE := fun ρ M => (fa ρ M).bind fun p => (fb ρ p.2).bind fun q => (g p.1 q.1 q.2).bind fun r => match r.1 with
  | .bl k => if k = true then (fc ρ r.2).bind fun s => g' q.1 s.1 s.2 else some (.bl false, r.2)
  | _ => none
theorem lim_ok {n : Nat} (h : n ≤ 100000) : n ≤ sizeLine := Nat.le_trans h (by decide)
section
variable {K : PySem.W.Frag} {X : Cx} {a b c e : Expr} {es : List Expr} {fa fb fc : FE} {fr : FA} {ta tb : FT} {pos : Pos}
theorem SE.imp {t : TE} {f : FE} (h : X.K = K → X.calm = true → PE X e t) (m : ∀ σ H Q, rE K f σ H Q → t σ H Q) : SE K X e f := fun hK hc => pe_mono (h hK hc) m
theorem se_v {i : Nat} {x : Str} (hN : X.N[i]? = some x) (hv : Vis X.env.scope x) (hd : (x == ("__debug__" : Str)) = false := by decide) (hcd : (x == ("__classdict__" : Str)) = false := by decide) : SE K X (.Name x pos) (fV i) :=
  SE.imp (fun _ _ => pe_var hN hv hd hcd) fun σ H Q ⟨as, ρ, M, d, M', sr, mr, ev, k⟩ => by
    unfold fV at ev
    cases e : ρ[i]? with
    | none => rw [e] at ev; simp at ev
    | some o =>
      cases o with
      | none => rw [e] at ev; simp at ev
      | some d' =>
        rw [e] at ev
        simp at ev
        obtain ⟨rfl, rfl⟩ := ev
        obtain ⟨v, h1, h2⟩ := sr.get e
        exact ⟨v, h1, k v as H Gr.refl mr h2⟩
theorem se_pv {i : Nat} (h : PE X e (tVar i)) : SE K X e (fV i) :=
  SE.imp (fun _ _ => h) fun σ H Q ⟨as, ρ, M, d, M', sr, mr, ev, k⟩ => by
    unfold fV at ev
    cases e : ρ[i]? with
    | none => rw [e] at ev; simp at ev
    | some o =>
      cases o with
      | none => rw [e] at ev; simp at ev
      | some d' =>
        rw [e] at ev
        simp at ev
        obtain ⟨rfl, rfl⟩ := ev
        obtain ⟨v, h1, h2⟩ := sr.get e
        exact ⟨v, h1, k v as H Gr.refl mr h2⟩
theorem se_c {v : V} {d : D} (h : PE X e (tC v)) (r : ∀ as H, VR K as H v d) : SE K X e (fC d) :=
  SE.imp (fun _ _ => h) fun σ H Q ⟨as, ρ, M, d', M', sr, mr, ev, k⟩ => by
    cases ev
    exact k v as H Gr.refl mr (r as H)
theorem se_int {i : Int} {j} : SE K X (.Constant (.int i) j pos) (fC (.int i)) := se_c pe_int fun _ _ => .int i
theorem se_bl {b : Bool} {j} : SE K X (.Constant (.bool b) j pos) (fC (.bl b)) := se_c pe_bl fun _ _ => .bl b
theorem se_non {j} : SE K X (.Constant .none j pos) (fC .non) := se_c pe_non fun _ _ => .non
theorem se_str {x : Str} {j} : SE K X (.Constant (.str x) j pos) (fC (.str x)) := se_c pe_str fun _ _ => .str x
theorem se_glob {x : Str} {v : V} {u : Value} {d : D} (hg : Gl X x) (hm : X.mg x = some u) (r : RelV v u) (rd : ∀ as H, VR K as H v d) (hd : (x == ("__debug__" : Str)) = false := by decide) : SE K X (.Name x pos) (fC d) := se_c (pe_glob hg hm r hd) rd
theorem se_bltn {x : Str} {T : String} (hg : Gl X x) (hm : X.mg x = none) (hv : bootBuiltins x = some (.type T)) (hn : x ≠ "__name__" := by decide) (hd : (x == ("__debug__" : Str)) = false := by decide) : SE K X (.Name x pos) (fC (.ty T)) := se_c (pe_bltn (v := .ty T) hg hm hv rfl hn hd) fun _ _ => .ty T
/-- the two parts of an operation, one behind the other -/
theorem rE.two {g : G2} {σ : L2.St} {H : Hp} {Q : VK} (h : rE K (fO g fa fb) σ H Q) : tOp (rO K g) (rE K fa) (rE K fb) σ H Q := by
  obtain ⟨as, ρ, M, d, M', sr, mr, ev, k⟩ := h
  unfold fO at ev
  obtain ⟨⟨x, M1⟩, e1, ev⟩ := Option.bind_eq_some_iff.mp ev
  obtain ⟨⟨y, M2⟩, e2, ev⟩ := Option.bind_eq_some_iff.mp ev
  refine ⟨as, ρ, M, x, M1, sr, mr, e1, fun v as1 H1 g1 m1 r1 => ⟨as1, ρ, M1, y, M2, sr.gr g1, m1, e2, fun u as2 H2 g2 m2 r2 => ?_⟩⟩
  exact ⟨as2, M2, x, y, d, M', m2, r1.gr g2, r2, ev, fun w as3 H3 g3 m3 r3 => k w as3 H3 ((g1.trans g2).trans g3) m3 r3⟩
theorem se_op {op : Operator} {g : G2} (ho : X.K = K → OpR X (binaryOp op) (rO K g)) (ha : SE K X a fa) (hb : SE K X b fb) : SE K X (.BinOp a op b pos) (fO g fa fb) :=
  SE.imp (fun hK hc => pe_op (ho hK) (ha hK hc) (hb hK hc)) fun _ _ _ => rE.two
theorem se_cmp {op : CmpOp} {g : G2} (ho : X.K = K → OpR X (compareOp op) (rO K g)) (ha : SE K X a fa) (hb : SE K X b fb) (hm : behindInMarks op b = false) : SE K X (.Compare a [op] [b] pos) (fO g fa fb) :=
  SE.imp (fun hK hc => pe_cmpR (ho hK) (ha hK hc) (hb hK hc) hm) fun _ _ _ => rE.two
theorem se_ix {g : G2} (hr : X.K = K → IxR X (rO K g)) (ha : SE K X a fa) (hb : SE K X b fb) (hs : PlainIx b) : SE K X (.Subscript a b pos) (fO g fa fb) :=
  SE.imp (fun hK hc => pe_ix (hr hK) (ha hK hc) (hb hK hc) hs) fun _ _ _ => rE.two
theorem se_un {op : UnaryOp} {g : G1} (ho : X.K = K → UnR X (unaryOp op) (rU1 K g)) (ha : SE K X a fa) : SE K X (.UnaryOp op a pos) (fU g fa) :=
  SE.imp (fun hK hc => pe_un (ho hK) (ha hK hc)) fun σ H Q ⟨as, ρ, M, d, M', sr, mr, ev, k⟩ => by
    unfold fU at ev
    obtain ⟨⟨x, M1⟩, e1, ev⟩ := Option.bind_eq_some_iff.mp ev
    exact ⟨as, ρ, M, x, M1, sr, mr, e1, fun v as1 H1 g1 m1 r1 => ⟨as1, M1, x, d, M', m1, r1, ev, fun w as3 H3 g3 m3 r3 => k w as3 H3 (g1.trans g3) m3 r3⟩⟩
theorem se_chain {op op' : CmpOp} {g g' : G2} (ho : X.K = K → OpR X (compareOp op) (rO K g)) (ho' : X.K = K → OpR X (compareOp op') (rO K g')) (ha : SE K X a fa) (hb : SE K X b fb) (hc : SE K X c fc)
    (hm : lastMarks [op, op'] [b, c] = false := by with_unfolding_all rfl) : SE K X (.Compare a [op, op'] [b, c] pos) (fCh g g' fa fb fc) :=
  SE.imp (fun hK hq => pe_chain (ho hK) (ho' hK) (ha hK hq) (hb hK hq) (hc hK hq) hm) fun σ H Q ⟨as, ρ, M, d, M', sr, mr, ev, k⟩ => by
    unfold fCh at ev
    obtain ⟨⟨x, M1⟩, e1, ev⟩ := Option.bind_eq_some_iff.mp ev
    obtain ⟨⟨y, M2⟩, e2, ev⟩ := Option.bind_eq_some_iff.mp ev
    obtain ⟨⟨z, M3⟩, e3, ev⟩ := Option.bind_eq_some_iff.mp ev
    refine ⟨as, ρ, M, x, M1, sr, mr, e1, fun v as1 H1 g1 m1 r1 => ⟨as1, ρ, M1, y, M2, sr.gr g1, m1, e2, fun u as2 H2 g2 m2 r2 => ⟨as2, M2, x, y, z, M3, m2, r1.gr g2, r2, e3, fun w as3 H3 g3 m3 r3 => ?_⟩⟩⟩
    cases z with
    | bl kk =>
      cases r3
      refine ⟨kk, rfl, ?_⟩
      dsimp only at ev
      cases kk with
      | true =>
        rw [if_pos rfl] at ev ⊢
        obtain ⟨⟨s, M4⟩, e4, ev⟩ := Option.bind_eq_some_iff.mp ev
        refine ⟨as3, ρ, M3, s, M4, ((sr.gr g1).gr g2).gr g3, m3, e4, fun q as4 H4 g4 m4 r4 => ⟨as4, M4, y, s, d, M', m4, (r2.gr g3).gr g4, r4, ev, fun p as5 H5 g5 m5 r5 => k p as5 H5 ((((g1.trans g2).trans g3).trans g4).trans g5) m5 r5⟩⟩
      | false =>
        rw [if_neg (fun z => nomatch z)] at ev ⊢
        cases ev
        exact k _ as3 H3 ((g1.trans g2).trans g3) m3 (.bl false)
    | _ => cases ev
theorem sa_nil : SA K X [] fNil := fun _ _ => pa_mono pa_nil fun σ H Q ⟨as, ρ, M, ds, M', sr, mr, ev, k⟩ => by
  cases ev
  exact k [] as H Gr.refl mr .nil
theorem sa_cons (ha : SE K X e fa) (hr : SA K X es fr) (hs : starEach (e :: es) X.env = (false, eval e X.env) :: starEach es X.env := by rfl) : SA K X (e :: es) (fCons fa fr) :=
  fun hK hc => pa_mono (pa_cons (ha hK hc) (hr hK hc) hs) fun σ H Q ⟨as, ρ, M, ds, M', sr, mr, ev, k⟩ => by
    unfold fCons at ev
    obtain ⟨⟨x, M1⟩, e1, ev⟩ := Option.bind_eq_some_iff.mp ev
    obtain ⟨⟨y, M2⟩, e2, ev⟩ := Option.bind_eq_some_iff.mp ev
    cases ev
    exact ⟨as, ρ, M, x, M1, sr, mr, e1, fun v as1 H1 g1 m1 r1 => ⟨as1, ρ, M1, y, _, sr.gr g1, m1, e2, fun us as2 H2 g2 m2 r2 => k _ as2 H2 (g1.trans g2) m2 (.cons (r1.gr g2) r2)⟩⟩
theorem se_tup {x1} (h : SA K X es fr) : SE K X (.Tuple es x1 pos) (fTup fr) :=
  SE.imp (fun hK hc => pe_tup (h hK hc)) fun σ H Q ⟨as, ρ, M, d, M', sr, mr, ev, k⟩ => by
    unfold fTup at ev
    obtain ⟨⟨ds, M1⟩, e1, ev⟩ := Option.bind_eq_some_iff.mp ev
    dsimp only at ev
    split at ev
    · rename_i hl
      cases ev
      refine ⟨as, ρ, M, ds, _, sr, mr, e1, fun vs as1 H1 g1 m1 r1 => ⟨lim_ok (by rw [r1.len]; exact hl), fun p hp => ?_⟩⟩
      have gn : Gr as1 H1 as1 (upd H1 p (.tup vs)) := Gr.new hp
      exact k _ as1 _ (g1.trans gn) (m1.new hp) (.tup (.inl upd_same) (r1.gr gn))
    · cases ev
theorem se_lst (h : SA K X es fr) : SE K X (.List es pos) (fLst fr) :=
  SE.imp (fun hK hc => pe_lst (h hK hc)) fun σ H Q ⟨as, ρ, M, d, M', sr, mr, ev, k⟩ => by
    unfold fLst at ev
    obtain ⟨⟨ds, M1⟩, e1, ev⟩ := Option.bind_eq_some_iff.mp ev
    dsimp only at ev
    split at ev
    · rename_i hl
      cases ev
      refine ⟨as, ρ, M, ds, _, sr, mr, e1, fun vs as1 H1 g1 m1 r1 => ⟨lim_ok (by rw [r1.len]; exact hl), fun p hp => ?_⟩⟩
      have gn : Gr as1 H1 (as1 ++ [p]) (upd H1 p (.lst vs)) := Gr.alloc hp
      exact k _ _ _ (g1.trans gn) (m1.alloc hp ⟨vs, upd_same, r1.gr gn⟩) (.rf (by rw [← m1.len]; simp))
    · cases ev
theorem se_if (hc : ST K X c ta) (ha : SE K X a fa) (hb : SE K X b fb) : SE K X (.IfExp c a b pos) (fIf ta fa fb) :=
  SE.imp (fun hK hq => pe_ifExp (hc hK hq) (ha hK hq) (hb hK hq)) fun σ H Q ⟨as, ρ, M, d, M', sr, mr, ev, k⟩ => by
    unfold fIf at ev
    obtain ⟨⟨x, M1⟩, e1, ev⟩ := Option.bind_eq_some_iff.mp ev
    refine ⟨as, ρ, M, x, M1, sr, mr, e1, fun as1 H1 g1 m1 => ?_⟩
    cases x with
    | true => exact ⟨as1, ρ, M1, d, M', sr.gr g1, m1, by simpa using ev, fun v as2 H2 g2 m2 r2 => k v as2 H2 (g1.trans g2) m2 r2⟩
    | false => exact ⟨as1, ρ, M1, d, M', sr.gr g1, m1, by simpa using ev, fun v as2 H2 g2 m2 r2 => k v as2 H2 (g1.trans g2) m2 r2⟩
/-! tests -/
theorem st_val (h : SE K X e fa) (he : ∀ whole, isTrue e X.env whole = (do let v ← whole; standAt e.pos; holding [v] (truthy v)) := by intro _; rfl) : ST K X e (tV fa) :=
  fun hK hc => pt_mono (pt_val (h hK hc) he) fun σ H Q ⟨as, ρ, M, d, M', sr, mr, ev, k⟩ => by
    unfold tV at ev
    obtain ⟨⟨x, M1⟩, e1, ev⟩ := Option.bind_eq_some_iff.mp ev
    refine ⟨as, ρ, M, x, M1, sr, mr, e1, fun v as1 H1 g1 m1 r1 => ?_⟩
    cases x with
    | bl b =>
      cases ev
      cases r1
      exact ⟨_, rfl, k as1 H1 g1 m1⟩
    | _ => cases ev
theorem st_cmp {op : CmpOp} {g : G2} (ho : X.K = K → OpR X (compareOp op) (rO K g)) (ha : SE K X a fa) (hb : SE K X b fb) (hm : behindInMarks op b = false) : ST K X (.Compare a [op] [b] pos) (tV (fO g fa fb)) :=
  fun hK hc => pt_mono (pt_cmpR (ho hK) (ha hK hc) (hb hK hc) hm) fun σ H Q ⟨as, ρ, M, d, M', sr, mr, ev, k⟩ => by
    unfold tV at ev
    obtain ⟨⟨x, M1⟩, e1, ev⟩ := Option.bind_eq_some_iff.mp ev
    refine rE.two ⟨as, ρ, M, x, M1, sr, mr, e1, fun v as1 H1 g1 m1 r1 => ?_⟩
    cases x with
    | bl b =>
      cases ev
      cases r1
      exact ⟨_, rfl, k as1 H1 g1 m1⟩
    | _ => cases ev
theorem tru_of {K : PySem.W.Frag} {as : List Addr} {H : Hp} {M : Mem} (m : MR K as H M) {v : V} {x : D} {b : Bool} (r : VR K as H v x) (e : gTru x M = some b) : TruV K v H b := by
  cases r with
  | non => cases e; rfl
  | bl b => cases e; rfl
  | int i => cases e; rfl
  | str z =>
    simp only [gTru] at e
    split at e
    · rename_i hl
      cases e
      exact ⟨lim_ok hl, by rw [Bool.eq_iff_iff]; simp⟩
    · cases e
  | ty n => cases e
  | fn a => cases e
  | tup h hs => cases e; exact .inr (.inl ⟨_, h.sq, by rw [hs.isEmpty]⟩)
  | rol h hs => cases e; exact .inl ⟨_, h.sq, by rw [hs.isEmpty]⟩
  | @rf i ad h =>
    simp only [gTru] at e
    split at e
    · rename_i ds hc
      cases e
      obtain ⟨xs, q, r⟩ := m.cell i ad _ h hc
      exact .inl ⟨xs, SqL.of q, by rw [r.isEmpty]⟩
    · cases e
theorem st_tru (h : SE K X e fa) (he : ∀ whole, isTrue e X.env whole = (do let v ← whole; standAt e.pos; holding [v] (truthy v))) : ST K X e (tTr fa) :=
  fun hK hc => pt_mono (pt_truth (h hK hc) he) fun σ H Q ⟨as, ρ, M, d, M', sr, mr, ev, k⟩ => by
    subst hK
    unfold tTr at ev
    obtain ⟨⟨x, M1⟩, e1, ev⟩ := Option.bind_eq_some_iff.mp ev
    obtain ⟨b, e2, ev⟩ := Option.map_eq_some_iff.mp ev
    cases ev
    exact ⟨as, ρ, M, x, M1, sr, mr, e1, fun v as1 H1 g1 m1 r1 => ⟨_, tru_of m1 r1 e2, k as1 H1 g1 m1⟩⟩
theorem sw_pt {f : FT} (h : SW K X e f) : ST K X e f := fun hK hc => (h hK hc).pt
theorem rT.two {ta tb : FT} {σ : L2.St} {H : Hp} {Q : Bool → Hp → Prop} (h : rT K (tAn ta tb) σ H Q) : tAnd (rT K ta) (rT K tb) σ H Q := by
  obtain ⟨as, ρ, M, b, M', sr, mr, ev, k⟩ := h
  unfold tAn at ev
  obtain ⟨⟨x, M1⟩, e1, ev⟩ := Option.bind_eq_some_iff.mp ev
  refine ⟨as, ρ, M, x, M1, sr, mr, e1, fun as1 H1 g1 m1 => ?_⟩
  cases x with
  | true =>
    rw [if_pos rfl] at ev ⊢
    exact ⟨as1, ρ, M1, b, M', sr.gr g1, m1, ev, fun as2 H2 g2 m2 => k as2 H2 (g1.trans g2) m2⟩
  | false =>
    rw [if_neg (fun z => nomatch z)] at ev ⊢
    cases ev
    exact k as1 H1 g1 m1
theorem rT.twoO {ta tb : FT} {σ : L2.St} {H : Hp} {Q : Bool → Hp → Prop} (h : rT K (tOr2 ta tb) σ H Q) : tOr (rT K ta) (rT K tb) σ H Q := by
  obtain ⟨as, ρ, M, b, M', sr, mr, ev, k⟩ := h
  unfold tOr2 at ev
  obtain ⟨⟨x, M1⟩, e1, ev⟩ := Option.bind_eq_some_iff.mp ev
  refine ⟨as, ρ, M, x, M1, sr, mr, e1, fun as1 H1 g1 m1 => ?_⟩
  cases x with
  | true =>
    rw [if_pos rfl] at ev ⊢
    cases ev
    exact k as1 H1 g1 m1
  | false =>
    rw [if_neg (fun z => nomatch z)] at ev ⊢
    exact ⟨as1, ρ, M1, b, M', sr.gr g1, m1, ev, fun as2 H2 g2 m2 => k as2 H2 (g1.trans g2) m2⟩
variable {rest : List Expr}
theorem sw_and1 (ha : ST K X a ta) : SW K X (.BoolOp .And [a] pos) ta := fun hK hc => pw_and1 (ha hK hc)
theorem sw_or1 (ha : ST K X a ta) : SW K X (.BoolOp .Or [a] pos) ta := fun hK hc => pw_or1 (ha hK hc)
theorem sw_and (ha : ST K X a ta) (hb : SW K X (.BoolOp .And (b :: rest) pos) tb) : SW K X (.BoolOp .And (a :: b :: rest) pos) (tAn ta tb) := fun hK hc => pw_mono (pw_and (ha hK hc) (hb hK hc)) fun _ _ _ => rT.two
theorem sw_or (ha : ST K X a ta) (hb : SW K X (.BoolOp .Or (b :: rest) pos) tb) : SW K X (.BoolOp .Or (a :: b :: rest) pos) (tOr2 ta tb) := fun hK hc => pw_mono (pw_or (ha hK hc) (hb hK hc)) fun _ _ _ => rT.twoO
theorem st_not (ha : ST K X a ta) : ST K X (.UnaryOp .Not a pos) (tNo ta) := fun hK hc => pt_mono (pt_not (ha hK hc)) fun σ H Q ⟨as, ρ, M, b, M', sr, mr, ev, k⟩ => by
  unfold tNo at ev
  obtain ⟨⟨x, M1⟩, e1, ev⟩ := Option.bind_eq_some_iff.mp ev
  cases ev
  exact ⟨as, ρ, M, x, _, sr, mr, e1, fun as1 H1 g1 m1 => k as1 H1 g1 m1⟩
theorem se_not (ha : SE K X a fa) : SE K X (.UnaryOp .Not a pos) (fNotB fa) := SE.imp (fun hK hc => pe_not (ha hK hc)) fun σ H Q ⟨as, ρ, M, d, M', sr, mr, ev, k⟩ => by
  unfold fNotB at ev
  obtain ⟨⟨x, M1⟩, e1, ev⟩ := Option.bind_eq_some_iff.mp ev
  refine ⟨as, ρ, M, x, M1, sr, mr, e1, fun v as1 H1 g1 m1 r1 => ?_⟩
  cases x with
  | bl b =>
    cases ev
    cases r1
    exact ⟨_, rfl, k _ as1 H1 g1 m1 (.bl _)⟩
  | _ => cases ev
theorem se_one {op} (ha : SE K X a fa) : SE K X (.BoolOp op [a] pos) fa := fun hK hc => pe_one (ha hK hc)
theorem se_and (ha : SE K X a fa) (hb : SE K X (.BoolOp .And (b :: rest) pos) fb) : SE K X (.BoolOp .And (a :: b :: rest) pos) (fAnB fa fb) := SE.imp (fun hK hc => pe_and (ha hK hc) (hb hK hc)) fun σ H Q ⟨as, ρ, M, d, M', sr, mr, ev, k⟩ => by
  unfold fAnB at ev
  obtain ⟨⟨x, M1⟩, e1, ev⟩ := Option.bind_eq_some_iff.mp ev
  refine ⟨as, ρ, M, x, M1, sr, mr, e1, fun v as1 H1 g1 m1 r1 => ?_⟩
  cases x with
  | bl c =>
    cases r1
    refine ⟨_, rfl, ?_⟩
    cases c with
    | true =>
      rw [if_pos rfl]
      exact ⟨as1, ρ, M1, d, M', sr.gr g1, m1, by simpa using ev, fun w as2 H2 g2 m2 r2 => k w as2 H2 (g1.trans g2) m2 r2⟩
    | false =>
      rw [if_neg (fun z => nomatch z)]
      cases ev
      exact k _ as1 H1 g1 m1 (.bl _)
  | _ => cases ev
theorem se_or (ha : SE K X a fa) (hb : SE K X (.BoolOp .Or (b :: rest) pos) fb) : SE K X (.BoolOp .Or (a :: b :: rest) pos) (fOrB fa fb) := SE.imp (fun hK hc => pe_or (ha hK hc) (hb hK hc)) fun σ H Q ⟨as, ρ, M, d, M', sr, mr, ev, k⟩ => by
  unfold fOrB at ev
  obtain ⟨⟨x, M1⟩, e1, ev⟩ := Option.bind_eq_some_iff.mp ev
  refine ⟨as, ρ, M, x, M1, sr, mr, e1, fun v as1 H1 g1 m1 r1 => ?_⟩
  cases x with
  | bl c =>
    cases r1
    refine ⟨_, rfl, ?_⟩
    cases c with
    | true =>
      rw [if_pos rfl]
      cases ev
      exact k _ as1 H1 g1 m1 (.bl _)
    | false =>
      rw [if_neg (fun z => nomatch z)]
      exact ⟨as1, ρ, M1, d, M', sr.gr g1, m1, by simpa using ev, fun w as2 H2 g2 m2 r2 => k w as2 H2 (g1.trans g2) m2 r2⟩
  | _ => cases ev
end

/-! ### operators -/
/-- products whose sizes are within the line -/
def MulOk (i j : Int) : Prop := ∃ m n : Nat, i.natAbs < 2 ^ m ∧ j.natAbs < 2 ^ n ∧ m + n ≤ 134217728
open Classical in
noncomputable def gMul : G2
  | .int i, .int j, M => if MulOk i j then some (.int (i * j), M) else none
  | .rf l, .int k, M => match M[l]? with
    | some (.lst ds) => if 0 ≤ k ∧ k ≤ 1000 ∧ ds.length ≤ 100 then some (.rf M.length, M ++ [.lst (List.replicate k.toNat ds).flatten]) else none
    | _ => none
  | _, _, _ => none
def gAdd : G2
  | .int i, .int j, M => some (.int (i + j), M)
  | .str a, .str b, M => if a.length + b.length ≤ 100000 then some (.str (a ++ b), M) else none
  | .tup a, .tup b, M => if a.length + b.length ≤ 100000 then some (.tup (a ++ b), M) else none
  | .rf i, .rf j, M => match M[i]?, M[j]? with
    | some (.lst a), some (.lst b) => if a.length + b.length ≤ 100000 then some (.rf M.length, M ++ [.lst (a ++ b)]) else none
    | _, _ => none
  | _, _, _ => none
def gSub : G2
  | .int i, .int j, M => some (.int (i - j), M)
  | _, _, _ => none
open Classical in
noncomputable def gFd : G2
  | .int i, .int j, M => if j ≠ 0 ∧ Bt 9000 j then some (.int (i.fdiv j), M) else none
  | _, _, _ => none
def gMod : G2
  | .int i, .int j, M => if j ≠ 0 then some (.int (i.fmod j), M) else none
  | _, _, _ => none
def gPow : G2
  | .int i, .int j, M => if 0 ≤ j ∧ j ≤ 1000000 ∧ i.natAbs < 2 ^ 64 then some (.int (i ^ j.toNat), M) else none
  | _, _, _ => none
def gNeg : G1
  | .int i, M => some (.int (-i), M)
  | _, _ => none
def gCmp (p : Int → Int → Bool) : G2
  | .int i, .int j, M => some (.bl (p i j), M)
  | _, _, _ => none
abbrev gLt : G2 := gCmp fun i j => decide (i < j)
abbrev gLe : G2 := gCmp fun i j => decide (i ≤ j)
abbrev gGt : G2 := gCmp fun i j => decide (j < i)
abbrev gGe : G2 := gCmp fun i j => decide (j ≤ i)
def D.isNon : D → Bool
  | .non => true
  | _ => false
/-- x is None -/
def gIsN : G2
  | d, .non, M => some (.bl d.isNon, M)
  | _, _, _ => none
def gNotN : G2
  | d, .non, M => some (.bl (!d.isNon), M)
  | _, _, _ => none
mutual
/-- data as the library's data -/
def D.py : D → Option PyData
  | .non => some .none
  | .bl b => some (.bool b)
  | .int i => some (.int i)
  | .str x => some (.str x)
  | .tup ds => (D.pys ds).map .tuple
  | .rol ds => (D.pys ds).map .list
  | _ => none
def D.pys : List D → Option (List PyData)
  | [] => some []
  | d :: ds => (D.py d).bind fun p => (D.pys ds).map fun r => p :: r
end
def toPy (M : Mem) : D → Option PyData
  | .rf i => match M[i]? with
    | some (.lst ds) => (D.pys ds).map .list
    | _ => none
  | d => d.py
def gEqB (neg : Bool) : G2 := fun x y M => (toPy M x).bind fun d => (toPy M y).bind fun e => if SeqAt.shaped d = true ∧ SeqAt.shaped e = true then some (.bl (if neg then !PyData.eqv d e else PyData.eqv d e), M) else none
abbrev gEq : G2 := gEqB false
abbrev gNe : G2 := gEqB true
/-- x[i] -/
def gIx : G2
  | .tup ds, .int i, M => (atI ds i).map fun d => (d, M)
  | .rol ds, .int i, M => (atI ds i).map fun d => (d, M)
  | .str z, .int i, M => if z.length ≤ 100000 then (atI z.cps.toList i).map fun c => (.str ⟨#[c]⟩, M) else none
  | .rf l, .int i, M => match M[l]? with
    | some (.lst ds) => (atI ds i).map fun d => (d, M)
    | _ => none
  | _, _, _ => none
section
variable {K : PySem.W.Frag} {X : Cx} {as : List Addr} {H : Hp} {M : Mem}
theorem VRs.atI {vs : List V} {ds : List D} {i : Int} {d : D} (h : VRs K as H vs ds) (e : atI ds i = some d) : ∃ v, L2.atI vs i = some v ∧ VR K as H v d := by
  unfold L2.atI at e ⊢
  rw [h.len]
  obtain ⟨j, e1, e2⟩ := Option.bind_eq_some_iff.mp e
  obtain ⟨v, e3, r⟩ := h.get e2
  exact ⟨v, by rw [e1]; exact e3, r⟩
theorem MR.lst (m : MR K as H M) {i : Nat} {a : Addr} {ds : List D} (h : as[i]? = some a) (e : M[i]? = some (.lst ds)) : ∃ xs, H a = some (.lst xs) ∧ VRs K as H xs ds := m.cell i a _ h e
theorem or_sub : X.K = K → OpR X (binaryOp .Sub) (rO K gSub) := fun _ pins s σ H x y v u Q I r1 r2 ⟨as, M, dx, dy, d, M', m, q1, q2, ev, k⟩ => by
  cases q1 <;> cases q2 <;> first | cases ev | skip
  exact op_sub pins s σ H _ _ v u Q I r1 r2 ⟨_, _, rfl, rfl, k _ as H Gr.refl m (.int _)⟩
theorem or_add : X.K = K → OpR X (binaryOp .Add) (rO K gAdd) := fun hK pins s σ H x y v u Q I r1 r2 hh => by
  subst hK
  obtain ⟨as, M, dx, dy, d, M', m, q1, q2, ev, k⟩ := hh
  cases q1 with
  | int i =>
    cases q2 with
    | int j =>
      cases ev
      exact op_add pins s σ H _ _ v u Q I r1 r2 ⟨_, _, rfl, rfl, k _ as H Gr.refl m (.int _)⟩
    | _ => cases ev
  | str a =>
    cases q2 with
    | str b =>
      simp only [gAdd] at ev
      split at ev
      · rename_i hl
        cases ev
        exact op_add_str pins s σ H _ _ v u Q I r1 r2 ⟨_, _, rfl, rfl, lim_ok hl, k _ as H Gr.refl m (.str _)⟩
      · cases ev
    | _ => cases ev
  | @tup a1 xs ds h1 hs1 =>
    cases q2 with
    | @tup a2 ys es h2 hs2 =>
      simp only [gAdd] at ev
      split at ev
      · rename_i hl
        cases ev
        refine op_catA pins s σ H _ _ v u Q I r1 r2 ⟨_, _, xs, ys, rfl, rfl, h1.sq, h2.sq, lim_ok (by rw [hs1.len, hs2.len]; exact hl), fun z => ?_, fun z1 z2 => ?_, fun z1 z2 p hp => ?_⟩
        · have z' := hs1.nil_iff.mp z
          subst z'
          exact k _ as H Gr.refl m (.tup h2 hs2)
        · have z' := hs2.nil_iff.mp z2
          subst z'
          exact k _ as H Gr.refl m (.tup h1 (by simpa using hs1))
        · have g : Gr as H as (upd H p (.tup (xs ++ ys))) := Gr.new hp
          exact k _ as _ g (m.new hp) (.tup (.inl upd_same) ((hs1.append hs2).gr g))
      · cases ev
    | _ => cases ev
  | @rf i1 a1 h1 =>
    cases q2 with
    | @rf i2 a2 h2 =>
      simp only [gAdd] at ev
      split at ev
      · rename_i d1 d2 e1 e2
        split at ev
        · rename_i hl
          cases ev
          obtain ⟨xs, p1, hs1⟩ := m.lst h1 e1
          obtain ⟨ys, p2, hs2⟩ := m.lst h2 e2
          refine op_cat pins s σ H _ _ v u Q I r1 r2 ⟨_, _, xs, ys, rfl, rfl, p1, p2, lim_ok (by rw [hs1.len, hs2.len]; exact hl), fun p hp => ?_⟩
          have g : Gr as H (as ++ [p]) (upd H p (.lst (xs ++ ys))) := Gr.alloc hp
          exact k _ _ _ g (m.alloc hp ⟨_, upd_same, (hs1.append hs2).gr g⟩) (.rf (by rw [← m.len]; simp))
        · cases ev
      · cases ev
    | _ => cases ev
  | _ => cases ev
theorem or_mul : X.K = K → OpR X (binaryOp .Mult) (rO K gMul) := fun hK pins s σ H x y v u Q I r1 r2 hh => by
  subst hK
  obtain ⟨as, M, dx, dy, d, M', m, q1, q2, ev, k⟩ := hh
  cases q1 with
  | int i =>
    cases q2 with
    | int j =>
      simp only [gMul] at ev
      split at ev
      · rename_i hl
        cases ev
        obtain ⟨m1, n1, h1, h2, h3⟩ := hl
        exact op_mulX pins s σ H _ _ v u Q I r1 r2 ⟨_, _, rfl, rfl, mulx_ok h1 h2 h3, k _ as H Gr.refl m (.int _)⟩
      · cases ev
    | _ => cases ev
  | @rf i1 a1 h1 =>
    cases q2 with
    | int kk =>
      simp only [gMul] at ev
      split at ev
      · rename_i d1 e1
        split at ev
        · rename_i hl
          obtain ⟨l1, l2, l3⟩ := hl
          cases ev
          obtain ⟨xs, p1, hs1⟩ := m.lst h1 e1
          have hz : xs.length * kk.toNat ≤ 100000 := by
            rw [hs1.len]
            exact Nat.le_trans (Nat.mul_le_mul l3 (show kk.toNat ≤ 1000 by omega)) (by decide)
          refine op_rep pins s σ H _ _ v u Q I r1 r2 ⟨_, _, xs, rfl, rfl, p1, by omega, by omega, lim_ok hz, fun p hp => ?_⟩
          have g : Gr as H (as ++ [p]) (upd H p (.lst (List.replicate kk.toNat xs).flatten)) := Gr.alloc hp
          have hf : ∀ n, VRs X.K (as ++ [p]) (upd H p (.lst (List.replicate kk.toNat xs).flatten)) (List.replicate n xs).flatten (List.replicate n d1).flatten := fun n => by
            induction n with
            | zero => exact .nil
            | succ n ih =>
              rw [List.replicate_succ, List.replicate_succ, List.flatten_cons, List.flatten_cons]
              exact (hs1.gr g).append ih
          exact k _ _ _ g (m.alloc hp ⟨_, upd_same, hf _⟩) (.rf (by rw [← m.len]; simp))
        · cases ev
      · cases ev
    | _ => cases ev
  | _ => cases ev
theorem or_fd : X.K = K → OpR X (binaryOp .FloorDiv) (rO K gFd) := fun _ pins s σ H x y v u Q I r1 r2 ⟨as, M, dx, dy, d, M', m, q1, q2, ev, k⟩ => by
  cases q1 <;> cases q2 <;> first | (simp only [gFd] at ev; first | cases ev | skip) | skip
  split at ev
  · rename_i hl
    cases ev
    exact op_fdX pins s σ H _ _ v u Q I r1 r2 ⟨_, _, rfl, rfl, hl, k _ as H Gr.refl m (.int _)⟩
  · cases ev
theorem or_mod : X.K = K → OpR X (binaryOp .Mod) (rO K gMod) := fun _ pins s σ H x y v u Q I r1 r2 ⟨as, M, dx, dy, d, M', m, q1, q2, ev, k⟩ => by
  cases q1 <;> cases q2 <;> first | (simp only [gMod] at ev; first | cases ev | skip) | skip
  split at ev
  · rename_i hl
    cases ev
    exact op_modN pins s σ H _ _ v u Q I r1 r2 ⟨_, _, rfl, rfl, hl, k _ as H Gr.refl m (.int _)⟩
  · cases ev
theorem or_pow : X.K = K → OpR X (binaryOp .Pow) (rO K gPow) := fun _ pins s σ H x y v u Q I r1 r2 ⟨as, M, dx, dy, d, M', m, q1, q2, ev, k⟩ => by
  cases q1 <;> cases q2 <;> first | (simp only [gPow] at ev; first | cases ev | skip) | skip
  split at ev
  · rename_i hl
    cases ev
    exact op_pow pins s σ H _ _ v u Q I r1 r2 ⟨_, _, rfl, rfl, hl, k _ as H Gr.refl m (.int _)⟩
  · cases ev
theorem ur_neg : X.K = K → UnR X (unaryOp .USub) (rU1 K gNeg) := fun _ pins s σ H x v Q I r1 ⟨as, M, dx, d, M', m, q1, ev, k⟩ => by
  cases q1 <;> first | cases ev | skip
  exact un_neg pins s σ H _ v Q I r1 ⟨_, rfl, k _ as H Gr.refl m (.int _)⟩
theorem or_cmp {op : CmpOp} {p : Int → Int → Bool} (h : OpR X (compareOp op) (rI0 fun i j => .bl (p i j))) : X.K = K → OpR X (compareOp op) (rO K (gCmp p)) := fun _ pins s σ H x y v u Q I r1 r2 ⟨as, M, dx, dy, d, M', m, q1, q2, ev, k⟩ => by
  cases q1 <;> cases q2 <;> first | cases ev | skip
  exact h pins s σ H _ _ v u Q I r1 r2 ⟨_, _, rfl, rfl, k _ as H Gr.refl m (.bl _)⟩
theorem or_lt : X.K = K → OpR X (compareOp .Lt) (rO K gLt) := or_cmp op_lt
theorem or_le : X.K = K → OpR X (compareOp .LtE) (rO K gLe) := or_cmp op_le
theorem or_gt : X.K = K → OpR X (compareOp .Gt) (rO K gGt) := or_cmp op_gt
theorem or_ge : X.K = K → OpR X (compareOp .GtE) (rO K gGe) := or_cmp op_ge
theorem VR.isNon {v : V} {d : D} (h : VR K as H v d) : decide (v = .non) = d.isNon := by
  cases h <;> rfl
theorem or_isN : X.K = K → OpR X (compareOp .Is) (rO K gIsN) := fun _ pins s σ H x y v u Q I r1 r2 ⟨as, M, dx, dy, d, M', m, q1, q2, ev, k⟩ => by
  cases q2 <;> first | (simp only [gIsN] at ev; first | cases ev | skip) | skip
  exact op_isN pins s σ H _ _ v u Q I r1 r2 ⟨rfl, by rw [q1.isNon]; exact k _ as H Gr.refl m (.bl _)⟩
theorem or_notN : X.K = K → OpR X (compareOp .IsNot) (rO K gNotN) := fun _ pins s σ H x y v u Q I r1 r2 ⟨as, M, dx, dy, d, M', m, q1, q2, ev, k⟩ => by
  cases q2 <;> first | (simp only [gNotN] at ev; first | cases ev | skip) | skip
  exact op_notN pins s σ H _ _ v u Q I r1 r2 ⟨rfl, by rw [q1.isNon]; exact k _ as H Gr.refl m (.bl _)⟩
mutual
theorem VR.dp : ∀ {v : V} {d : D} {p : PyData}, VR K as H v d → d.py = some p → Dp K H v p
  | _, _, _, .non, e => by cases e; exact .non
  | _, _, _, .bl b, e => by cases e; exact .bl b
  | _, _, _, .int b, e => by cases e; exact .int b
  | _, _, _, .str b, e => by cases e; exact .str b
  | _, _, _, .ty b, e => by cases e
  | _, _, _, .fn b, e => by cases e
  | _, _, _, .tup h hs, e => by
    simp only [D.py, Option.map_eq_some_iff] at e
    obtain ⟨ps, e1, rfl⟩ := e
    exact .tup h.sq (VRs.dp hs e1)
  | _, _, _, .rol h hs, e => by
    simp only [D.py, Option.map_eq_some_iff] at e
    obtain ⟨ps, e1, rfl⟩ := e
    exact .lst h.sq (VRs.dp hs e1)
  | _, _, _, .rf h, e => by cases e
theorem VRs.dp : ∀ {vs : List V} {ds : List D} {ps : List PyData}, VRs K as H vs ds → D.pys ds = some ps → DpAll K H vs ps
  | _, _, _, .nil, e => by cases e; exact .nil
  | _, _, _, .cons h hs, e => by
    simp only [D.pys, Option.bind_eq_some_iff, Option.map_eq_some_iff] at e
    obtain ⟨p, e1, r, e2, rfl⟩ := e
    exact .cons (VR.dp h e1) (VRs.dp hs e2)
end
theorem VR.dpM (m : MR K as H M) {v : V} {d : D} {p : PyData} (h : VR K as H v d) (e : toPy M d = some p) : Dp K H v p := by
  cases h with
  | @rf i a h =>
    simp only [toPy] at e
    split at e
    · rename_i ds hc
      obtain ⟨ps, e1, rfl⟩ := Option.map_eq_some_iff.mp e
      obtain ⟨xs, p1, hs⟩ := m.lst h hc
      exact .lst (SqL.of p1) (VRs.dp hs e1)
    · cases e
  | non => exact VR.dp (as := as) .non e
  | bl b => exact VR.dp (as := as) (.bl b) e
  | int b => exact VR.dp (as := as) (.int b) e
  | str b => exact VR.dp (as := as) (.str b) e
  | ty b => exact VR.dp (as := as) (.ty b) e
  | fn b => exact VR.dp (as := as) (.fn b) e
  | tup h hs => exact VR.dp (as := as) (.tup h hs) e
  | rol h hs => exact VR.dp (as := as) (.rol h hs) e
theorem or_eq (hu : X.A.units + 64 < cLine) : X.K = K → OpR X (compareOp .Eq) (rO K gEq) := fun hK pins s σ H x y v u Q I r1 r2 ⟨as, M, dx, dy, d, M', m, q1, q2, ev, k⟩ => by
  subst hK
  simp only [gEqB, Option.bind_eq_some_iff] at ev
  obtain ⟨a, e1, b, e2, ev⟩ := ev
  split at ev
  · rename_i hs
    cases ev
    exact op_eqD hu pins s σ H _ _ v u Q I r1 r2 ⟨a, b, q1.dpM m e1, q2.dpM m e2, hs.1, hs.2, k _ as H Gr.refl m (.bl _)⟩
  · cases ev
theorem or_ne (hu : X.A.units + 64 < cLine) : X.K = K → OpR X (compareOp .NotEq) (rO K gNe) := fun hK pins s σ H x y v u Q I r1 r2 ⟨as, M, dx, dy, d, M', m, q1, q2, ev, k⟩ => by
  subst hK
  simp only [gEqB, Option.bind_eq_some_iff] at ev
  obtain ⟨a, e1, b, e2, ev⟩ := ev
  split at ev
  · rename_i hs
    cases ev
    exact op_neD hu pins s σ H _ _ v u Q I r1 r2 ⟨a, b, q1.dpM m e1, q2.dpM m e2, hs.1, hs.2, k _ as H Gr.refl m (.bl _)⟩
  · cases ev
theorem xr_ix : X.K = K → IxR X (rO K gIx) := fun hK a b pins s σ H x y v u Q I r1 r2 hh hp => by
  subst hK
  obtain ⟨as, M, dx, dy, d, M', m, q1, q2, ev, k⟩ := hh
  cases q1 with
  | str z =>
    cases q2 with
    | int i =>
      simp only [gIx] at ev
      split at ev
      · rename_i hl
        obtain ⟨c, e1, ev⟩ := Option.map_eq_some_iff.mp ev
        cases ev
        exact ix_str a b pins s σ H _ _ v u Q I r1 r2 ⟨_, _, c, rfl, rfl, lim_ok hl, e1, k _ as H Gr.refl m (.str _)⟩ hp
      · cases ev
    | _ => cases ev
  | tup h1 hs1 =>
    cases q2 with
    | int i =>
      obtain ⟨d', e1, ev⟩ := Option.map_eq_some_iff.mp ev
      cases ev
      obtain ⟨v1, e2, r⟩ := hs1.atI e1
      exact ix_tup a b pins s σ H _ _ v u Q I r1 r2 ⟨_, _, _, v1, rfl, rfl, h1.sq, e2, k _ as H Gr.refl m r⟩ hp
    | _ => cases ev
  | rol h1 hs1 =>
    cases q2 with
    | int i =>
      obtain ⟨d', e1, ev⟩ := Option.map_eq_some_iff.mp ev
      cases ev
      obtain ⟨v1, e2, r⟩ := hs1.atI e1
      exact ix_list a b pins s σ H _ _ v u Q I r1 r2 ⟨_, _, _, v1, rfl, rfl, h1.sq, e2, k _ as H Gr.refl m r⟩ hp
    | _ => cases ev
  | @rf i1 a1 h1 =>
    cases q2 with
    | int i =>
      simp only [gIx] at ev
      split at ev
      · rename_i ds hc
        obtain ⟨d', e1, ev⟩ := Option.map_eq_some_iff.mp ev
        cases ev
        obtain ⟨xs, p1, hs⟩ := m.lst h1 hc
        obtain ⟨v1, e2, r⟩ := hs.atI e1
        exact ix_list a b pins s σ H _ _ v u Q I r1 r2 ⟨_, _, _, v1, rfl, rfl, SqL.of p1, e2, k _ as H Gr.refl m r⟩ hp
      · cases ev
    | _ => cases ev
  | _ => cases ev
end

/-! ### targets, statements, loops, comprehensions -/
inductive Fl where
  | nx (ρ : Rho)
  | rt (d : D)
  | bk (ρ : Rho)
  | ct (ρ : Rho)
abbrev FS := Rho → Mem → Option (Fl × Mem)
abbrev FG := D → Rho → Option Rho
/-- a target that fills slots: those of vs alone -/
def rG (K : PySem.W.Frag) (vs : List Nat) (f : FG) : TG := fun v σ H Q => ∃ as ρ d ρ', SR K as H σ ρ ∧ VR K as H v d ∧ f d ρ = some ρ' ∧ ∀ σ', SR K as H σ' ρ' → wipe σ' vs = wipe σ vs → Q σ' H
def SG (K : PySem.W.Frag) (X : Cx) (vs : List Nat) (e : Expr) (f : FG) : Prop := X.K = K → X.calm = true → PG X e (rG K vs f)
abbrev FGs := List D → Rho → Option Rho
def rGs (K : PySem.W.Frag) (vs : List Nat) (f : FGs) : TGs := fun us σ H Q => ∃ as ρ ds ρ', SR K as H σ ρ ∧ VRs K as H us ds ∧ f ds ρ = some ρ' ∧ ∀ σ', SR K as H σ' ρ' → wipe σ' vs = wipe σ vs → Q σ' H
def SGs (K : PySem.W.Frag) (X : Cx) (vs : List Nat) (es : List Expr) (f : FGs) : Prop := X.K = K → X.calm = true → PGs X es (rGs K vs f)
theorem pgs_mono {X : Cx} {es : List Expr} {t t' : TGs} (h : PGs X es t) (m : ∀ v σ H Q, t' v σ H Q → t v σ H Q) : PGs X es t' := ⟨fun pins s σ H v u Q I r q => h.run pins s σ H v u Q I r (m v σ H Q q)⟩
def gN (i : Nat) : FG := fun d ρ => some (ρ.set i (some d))
def gsNil : FGs := fun ds ρ => match ds with
  | [] => some ρ
  | _ => none
def gsCons (g : FG) (gs : FGs) : FGs := fun ds ρ => match ds with
  | d :: r => (g d ρ).bind fun ρ1 => gs r ρ1
  | _ => none
def gT (n : Nat) (gs : FGs) : FG := fun d ρ => match d with
  | .tup ds => if ds.length = n then gs ds ρ else none
  | _ => none
theorem wipe_set {σ : L2.St} {i : Nat} {x : Option V} : ∀ {vs : List Nat}, i ∈ vs → wipe (σ.set i x) vs = wipe σ vs
  | v :: vs, h => by
    unfold wipe
    by_cases hi : i ∈ vs
    · rw [wipe_set hi]
    · have hv : i = v := by
        rcases List.mem_cons.mp h with h | h
        · exact h
        · exact absurd h hi
      subst hv
      have : ∀ {us : List Nat}, i ∉ us → wipe (σ.set i x) us = (wipe σ us).set i x := fun {us} hn => by
        induction us with
        | nil => rfl
        | cons u us ih =>
          unfold wipe
          have h1 : i ≠ u := fun z => hn (by rw [z]; exact List.mem_cons_self)
          rw [ih fun z => hn (List.mem_cons_of_mem _ z), List.set_comm _ _ h1]
      rw [this hi, List.set_set]
section
variable {K : PySem.W.Frag} {X : Cx} {vs : List Nat} {pos : Pos}
theorem sg_name {i : Nat} {x : Str} (hi : i ∈ vs) (hN : X.N.Nodup) (hx : X.N[i]? = some x) (hl : Loc X.env.scope x) (hf : X.fn x = true ∨ X.env.scope.names.lookup x = some .local := by first | exact .inl rfl | exact .inr rfl | assumption) : SG K X vs (.Name x pos) (gN i) :=
  fun _ _ => pg_mono (pg_name hN hx hl hf) fun v σ H Q ⟨as, ρ, d, ρ', sr, r, ev, k⟩ => by
    cases ev
    exact k _ (sr.set r i) (wipe_set hi)
theorem sgs_nil : SGs K X vs [] gsNil := fun _ _ => pgs_mono pgs_nil fun us σ H Q ⟨as, ρ, ds, ρ', sr, r, ev, k⟩ => by
  cases r with
  | nil => cases ev; exact ⟨rfl, k _ sr rfl⟩
  | cons _ _ => cases ev
theorem sgs_cons {e : Expr} {es : List Expr} {g : FG} {gs : FGs} (h1 : SG K X vs e g) (h2 : SGs K X vs es gs) (hs : (assignEach (e :: es) X.env).map (·.2) = assign e X.env :: (assignEach es X.env).map (·.2) := by rfl) : SGs K X vs (e :: es) (gsCons g gs) :=
  fun hK hc => pgs_mono (pgs_cons (h1 hK hc) (h2 hK hc) hs) fun us σ H Q ⟨as, ρ, ds, ρ', sr, r, ev, k⟩ => by
    cases r with
    | nil => cases ev
    | cons r rs =>
      simp only [gsCons] at ev
      obtain ⟨ρ1, e1, ev⟩ := Option.bind_eq_some_iff.mp ev
      exact ⟨_, _, rfl, as, ρ, _, ρ1, sr, r, e1, fun σ1 s1 w1 => ⟨as, ρ1, _, ρ', s1, rs, ev, fun σ2 s2 w2 => k σ2 s2 (w2.trans w1)⟩⟩
theorem sg_tup {es : List Expr} {kk : Nat} {gs : FGs} {n : Nat} (h : SGs K X vs es gs) (hn : (assignEach es X.env).length = n := by rfl) (hst : (assignEach es X.env).findIdx? (·.1) = none := by rfl) : SG K X vs (.Tuple es kk pos) (gT n gs) :=
  fun hK hc => by
    subst hK
    refine pg_mono (pg_tup hc (h rfl hc) hn hst) fun v σ H Q ⟨as, ρ, d, ρ', sr, r, ev, k⟩ => ?_
    cases r with
    | @tup a xs ds h1 hs =>
      simp only [gT] at ev
      split at ev
      · rename_i hl
        exact ⟨a, xs, rfl, h1.sq, by rw [hs.len]; exact hl, as, ρ, ds, ρ', sr, hs, ev, k⟩
      · cases ev
    | _ => cases ev
end
def FlOk (K : PySem.W.Frag) (as : List Addr) (H : Hp) (M' : Mem) (D : Ends) : Fl → Prop
  | .nx ρ' => ∀ σ' as' H', Gr as H as' H' → MR K as' H' M' → SR K as' H' σ' ρ' → D.nx σ' H'
  | .bk ρ' => ∀ σ' as' H', Gr as H as' H' → MR K as' H' M' → SR K as' H' σ' ρ' → D.bk σ' H'
  | .ct ρ' => ∀ σ' as' H', Gr as H as' H' → MR K as' H' M' → SR K as' H' σ' ρ' → D.ct σ' H'
  | .rt d => ∀ v as' H', Gr as H as' H' → MR K as' H' M' → VR K as' H' v d → D.rt v H'
def rS (K : PySem.W.Frag) (f : FS) : TS := fun D σ H => ∃ as ρ M fl M', SR K as H σ ρ ∧ MR K as H M ∧ f ρ M = some (fl, M') ∧ FlOk K as H M' D fl
def SS (K : PySem.W.Frag) (X : Cx) (st : Stmt) (f : FS) : Prop := X.K = K → X.calm = true → PS X st (rS K f)
def SSs (K : PySem.W.Frag) (X : Cx) (sts : List Stmt) (f : FS) : Prop := X.K = K → X.calm = true → PSs X sts (rS K f)
theorem FlOk.gr {K : PySem.W.Frag} {as as' : List Addr} {H H' : Hp} {M' : Mem} {D : Ends} (g : Gr as H as' H') : ∀ {fl : Fl}, FlOk K as H M' D fl → FlOk K as' H' M' D fl
  | .nx _, h => fun σ a2 H2 g2 => h σ a2 H2 (g.trans g2)
  | .bk _, h => fun σ a2 H2 g2 => h σ a2 H2 (g.trans g2)
  | .ct _, h => fun σ a2 H2 g2 => h σ a2 H2 (g.trans g2)
  | .rt _, h => fun σ a2 H2 g2 => h σ a2 H2 (g.trans g2)
def sNext : FS := fun ρ M => some (.nx ρ, M)
def sSeq (a b : FS) : FS := fun ρ M => (a ρ M).bind fun p => match p.1 with
  | .nx ρ1 => b ρ1 p.2
  | fl => some (fl, p.2)
def sAsg (f : FE) (g : FG) : FS := fun ρ M => (f ρ M).bind fun p => (g p.1 ρ).map fun ρ1 => (.nx ρ1, p.2)
def sPar (i j : Nat) (fa : FA) : FS := fun ρ M => (fa ρ M).bind fun p => match p.1 with
  | [d, e] => some (.nx ((ρ.set i (some d)).set j (some e)), p.2)
  | _ => none
def sRet (f : FE) : FS := fun ρ M => (f ρ M).map fun p => (.rt p.1, p.2)
def sDrop (f : FE) : FS := fun ρ M => (f ρ M).map fun p => (.nx ρ, p.2)
def sIf (c : FT) (a b : FS) : FS := fun ρ M => (c ρ M).bind fun p => if p.1 = true then a ρ p.2 else b ρ p.2
def sNever : FS := fun _ _ => none
def sBrk : FS := fun ρ M => some (.bk ρ, M)
def sCont : FS := fun ρ M => some (.ct ρ, M)
def sRetN : FS := fun _ M => some (.rt .non, M)
section
variable {K : PySem.W.Frag} {X : Cx} {st : Stmt} {sts : List Stmt} {f h : FS} {e : Expr} {fe : FE} {pos : Pos}
theorem ss_pass : SS K X (.Pass pos) sNext := fun _ _ => ps_mono ps_pass fun D σ H ⟨as, ρ, M, fl, M', sr, mr, ev, k⟩ => by
  cases ev
  exact k σ as H Gr.refl mr sr
theorem ss_brk : SS K X (.Break pos) sBrk := fun _ _ => ps_mono ps_break fun D σ H ⟨as, ρ, M, fl, M', sr, mr, ev, k⟩ => by
  cases ev
  exact k σ as H Gr.refl mr sr
theorem ss_cont : SS K X (.Continue pos) sCont := fun _ _ => ps_mono ps_continue fun D σ H ⟨as, ρ, M, fl, M', sr, mr, ev, k⟩ => by
  cases ev
  exact k σ as H Gr.refl mr sr
theorem ss_never : SS K X st sNever := fun _ _ => ps_mono ps_never fun D σ H ⟨as, ρ, M, fl, M', sr, mr, ev, k⟩ => by cases ev
theorem ss_retN : SS K X (.Return none pos) sRetN := fun _ _ => ps_mono ps_retN fun D σ H ⟨as, ρ, M, fl, M', sr, mr, ev, k⟩ => by
  cases ev
  exact k .non as H Gr.refl mr .non
theorem ss_ret (he : SE K X e fe) : SS K X (.Return (some e) pos) (sRet fe) := fun hK hc => ps_mono (ps_ret (he hK hc)) fun D σ H ⟨as, ρ, M, fl, M', sr, mr, ev, k⟩ => by
  unfold sRet at ev
  obtain ⟨⟨d, M1⟩, e1, ev⟩ := Option.map_eq_some_iff.mp ev
  cases ev
  exact ⟨as, ρ, M, d, _, sr, mr, e1, fun v as1 H1 g1 m1 r1 => k v as1 H1 g1 m1 r1⟩
theorem ss_expr (he : SE K X e fe) (hs : swapsWith e none pos.line X.env = pure false := by rfl) : SS K X (.Expr e pos) (sDrop fe) := fun hK hc => ps_mono (ps_expr (he hK hc) hs) fun D σ H ⟨as, ρ, M, fl, M', sr, mr, ev, k⟩ => by
  unfold sDrop at ev
  obtain ⟨⟨d, M1⟩, e1, ev⟩ := Option.map_eq_some_iff.mp ev
  cases ev
  exact ⟨as, ρ, M, d, _, sr, mr, e1, fun v as1 H1 g1 m1 r1 => k σ as1 H1 g1 m1 (sr.gr g1)⟩
theorem ss_set {i : Nat} {x : Str} {pos' : Pos} (hN : X.N.Nodup) (hi : X.N[i]? = some x) (hx : Loc X.env.scope x) (he : SE K X e fe) (hs : swapsWith e (some (.Name x pos')) pos.line X.env = pure false := by rfl) (hf : X.fn x = true ∨ X.env.scope.names.lookup x = some .local := by first | exact .inl rfl | exact .inr rfl | assumption) :
    SS K X (.Assign [.Name x pos'] e pos) (sAsg fe (gN i)) := fun hK hc => ps_mono (ps_set hN hi hx (he hK hc) hs hf) fun D σ H ⟨as, ρ, M, fl, M', sr, mr, ev, k⟩ => by
  unfold sAsg at ev
  obtain ⟨⟨d, M1⟩, e1, ev⟩ := Option.bind_eq_some_iff.mp ev
  cases ev
  exact ⟨as, ρ, M, d, _, sr, mr, e1, fun v as1 H1 g1 m1 r1 => k _ as1 H1 g1 m1 ((sr.gr g1).set r1 i)⟩
theorem ss_asg {tg : Expr} {vs : List Nat} {g : FG} (he : SE K X e fe) (hg : SG K X vs tg g) (hs : swapsWithSole [tg] e pos.line X.env = pure false := by rfl) (hw : swappedStores [tg] e X.env = pure none := by rfl)
    (h1 : (assignEach [tg] X.env).map (·.2) = [assign tg X.env] := by rfl) : SS K X (.Assign [tg] e pos) (sAsg fe g) := fun hK hc => ps_mono (ps_asg (he hK hc) (hg hK hc) hs hw h1) fun D σ H ⟨as, ρ, M, fl, M', sr, mr, ev, k⟩ => by
  unfold sAsg at ev
  obtain ⟨⟨d, M1⟩, e1, ev⟩ := Option.bind_eq_some_iff.mp ev
  obtain ⟨ρ1, e2, ev⟩ := Option.map_eq_some_iff.mp ev
  cases ev
  exact ⟨as, ρ, M, d, _, sr, mr, e1, fun v as1 H1 g1 m1 r1 => ⟨as1, ρ, d, ρ1, sr.gr g1, r1, e2, fun σ' s' _ => k σ' as1 H1 g1 m1 s'⟩⟩
theorem ss_par {i j : Nat} {x y : Str} {a b : Expr} {fa : FA} {px py pt : Pos} {kt k2 pt2} (hN : X.N.Nodup) (hi : X.N[i]? = some x) (hj : X.N[j]? = some y) (hij : i ≠ j)
    (hx : X.env.scope.names.lookup x = some .local) (hy : X.env.scope.names.lookup y = some .local) (ha : SA K X [a, b] fa)
    (hw : swappedStores [.Tuple [.Name x px, .Name y py] kt pt] (.Tuple [a, b] k2 pt2) X.env = pure (some [x, y]))
    (hs : swapsWithSole [.Tuple [.Name x px, .Name y py] kt pt] (.Tuple [a, b] k2 pt2) pos.line X.env = pure false := by rfl) :
    SS K X (.Assign [.Tuple [.Name x px, .Name y py] kt pt] (.Tuple [a, b] k2 pt2) pos) (sPar i j fa) := fun hK hc => ps_mono (ps_par hc hN hi hj hij hx hy (ha hK hc) hw hs) fun D σ H ⟨as, ρ, M, fl, M', sr, mr, ev, k⟩ => by
  unfold sPar at ev
  obtain ⟨⟨ds, M1⟩, e1, ev⟩ := Option.bind_eq_some_iff.mp ev
  dsimp only at ev
  split at ev
  · cases ev
    refine ⟨as, ρ, M, _, _, sr, mr, e1, fun vs as1 H1 g1 m1 r1 => ?_⟩
    cases r1 with
    | cons r r1 =>
      cases r1 with
      | cons r' r1 =>
        cases r1
        exact ⟨_, _, rfl, k _ as1 H1 g1 m1 (((sr.gr g1).set r i).set r' j)⟩
  · cases ev
theorem ss_if {c : Expr} {fc : FT} {a b : List Stmt} {fa fb : FS} (hc : ST K X c fc) (ha : SSs K X a fa) (hb : SSs K X b fb) : SS K X (.If c a b pos) (sIf fc fa fb) := fun hK hq => ps_mono (ps_if (hc hK hq) (ha hK hq) (hb hK hq)) fun D σ H ⟨as, ρ, M, fl, M', sr, mr, ev, k⟩ => by
  unfold sIf at ev
  obtain ⟨⟨x, M1⟩, e1, ev⟩ := Option.bind_eq_some_iff.mp ev
  refine ⟨as, ρ, M, x, M1, sr, mr, e1, fun as1 H1 g1 m1 => ?_⟩
  cases x with
  | true =>
    rw [if_pos rfl] at ev ⊢
    exact ⟨as1, ρ, M1, fl, M', sr.gr g1, m1, ev, k.gr g1⟩
  | false =>
    rw [if_neg (fun z => nomatch z)] at ev ⊢
    exact ⟨as1, ρ, M1, fl, M', sr.gr g1, m1, ev, k.gr g1⟩
theorem rS.two {fa fb : FS} {D : Ends} {σ : L2.St} {H : Hp} (h : rS K (sSeq fa fb) D σ H) : tSeq (rS K fa) (rS K fb) D σ H := by
  obtain ⟨as, ρ, M, fl, M', sr, mr, ev, k⟩ := h
  unfold sSeq at ev
  obtain ⟨⟨x, M1⟩, e1, ev⟩ := Option.bind_eq_some_iff.mp ev
  refine ⟨as, ρ, M, x, M1, sr, mr, e1, ?_⟩
  cases x with
  | nx ρ1 => exact fun σ' as1 H1 g1 m1 s1 => ⟨as1, ρ1, M1, fl, M', s1, m1, ev, k.gr g1⟩
  | rt d => cases ev; exact k
  | bk d => cases ev; exact k
  | ct d => cases ev; exact k
theorem sss_nil : SSs K X [] sNext := fun _ _ => pss_mono pss_nil fun D σ H ⟨as, ρ, M, fl, M', sr, mr, ev, k⟩ => by
  cases ev
  exact k σ as H Gr.refl mr sr
theorem sss_one (hs : SS K X st f) : SSs K X [st] f := fun hK hc => pss_one (hs hK hc)
theorem sss_cons (hs : SS K X st f) (hr : SSs K X sts h) : SSs K X (st :: sts) (sSeq f h) := fun hK hc => pss_mono (pss_cons (hs hK hc) (hr hK hc)) fun D σ H => rS.two
/-! while -/
def wl (c : FT) (b : FS) : Nat → Rho → Mem → Option (Fl × Mem)
  | 0, _, _ => none
  | n + 1, ρ, M => (c ρ M).bind fun p => if p.1 = true then (b ρ p.2).bind fun q => match q.1 with
      | .nx ρ1 => wl c b n ρ1 q.2
      | .ct ρ1 => wl c b n ρ1 q.2
      | .bk ρ1 => some (.nx ρ1, q.2)
      | .rt d => some (.rt d, q.2)
    else some (.nx ρ, p.2)
theorem wl_mono {c : FT} {b : FS} : ∀ {n : Nat} {ρ : Rho} {M : Mem} {r : Fl × Mem}, wl c b n ρ M = some r → wl c b (n + 1) ρ M = some r
  | 0, _, _, _, e => by cases e
  | n + 1, ρ, M, r, e => by
    unfold wl at e ⊢
    obtain ⟨p, e1, e⟩ := Option.bind_eq_some_iff.mp e
    rw [e1]
    dsimp only [Option.bind_some]
    split at e
    · rename_i h
      rw [if_pos h]
      obtain ⟨q, e2, e⟩ := Option.bind_eq_some_iff.mp e
      rw [e2]
      dsimp only [Option.bind_some]
      cases hq : q.1 with
      | nx ρ1 => rw [hq] at e; exact wl_mono e
      | ct ρ1 => rw [hq] at e; exact wl_mono e
      | bk ρ1 => rw [hq] at e; exact e
      | rt d => rw [hq] at e; exact e
    · rename_i h
      rw [if_neg h]
      exact e
theorem wl_le {c : FT} {b : FS} {m n : Nat} {ρ : Rho} {M : Mem} {r : Fl × Mem} (h : m ≤ n) (e : wl c b m ρ M = some r) : wl c b n ρ M = some r := by
  induction h with
  | refl => exact e
  | step _ ih => exact wl_mono ih
open Classical in
noncomputable def sWhile (c : FT) (b : FS) : FS := fun ρ M => if h : ∃ r n, wl c b n ρ M = some r then some h.choose else none
theorem sWhile_of {c : FT} {b : FS} {n : Nat} {ρ : Rho} {M : Mem} {r : Fl × Mem} (e : wl c b n ρ M = some r) : sWhile c b ρ M = some r := by
  have h : ∃ r n, wl c b n ρ M = some r := ⟨r, n, e⟩
  unfold sWhile
  rw [dif_pos h]
  obtain ⟨m, q⟩ := h.choose_spec
  have h1 := wl_le (Nat.le_max_left m n) q
  have h2 := wl_le (Nat.le_max_right m n) e
  rw [h1] at h2
  exact h2
theorem of_sWhile {c : FT} {b : FS} {ρ : Rho} {M : Mem} {r : Fl × Mem} (e : sWhile c b ρ M = some r) : ∃ n, wl c b n ρ M = some r := by
  unfold sWhile at e
  split at e
  · rename_i h
    cases e
    exact h.choose_spec
  · cases e
theorem ss_while {c : Expr} {body : List Stmt} {fc : FT} {fb : FS} (hp : PassesOwn (model X.prog X.w) X.A X.env X.xe) (hc : ST K X c fc) (hb : SSs K X body fb) : SS K X (.While c body [] pos) (sWhile fc fb) :=
  fun hK hq => ps_mono (ps_while hp (hc hK hq) (hb hK hq)) fun D σ H ⟨as, ρ, M, fl, M', sr, mr, ev, k⟩ => by
    obtain ⟨n, ev⟩ := of_sWhile ev
    refine ⟨fun m σ H => ∃ as ρ M, SR K as H σ ρ ∧ MR K as H M ∧ wl fc fb m ρ M = some (fl, M') ∧ FlOk K as H M' D fl, ⟨n, as, ρ, M, sr, mr, ev, k⟩, ?_⟩
    rintro m σ H ⟨as, ρ, M, sr, mr, ev, k⟩
    cases m with
    | zero => cases ev
    | succ m =>
      unfold wl at ev
      obtain ⟨⟨x, M1⟩, e1, ev⟩ := Option.bind_eq_some_iff.mp ev
      refine ⟨as, ρ, M, x, M1, sr, mr, e1, fun as1 H1 g1 m1 => ?_⟩
      cases x with
      | false =>
        rw [if_neg (fun z => nomatch z)] at ev ⊢
        cases ev
        exact k σ as1 H1 g1 m1 (sr.gr g1)
      | true =>
        rw [if_pos rfl] at ev ⊢
        obtain ⟨⟨y, M2⟩, e2, ev⟩ := Option.bind_eq_some_iff.mp ev
        refine ⟨fun σ H => ∃ as ρ M, SR K as H σ ρ ∧ MR K as H M ∧ wl fc fb m ρ M = some (fl, M') ∧ FlOk K as H M' D fl, fun σ' H' hN => ⟨m, Nat.lt_succ_self m, hN⟩, as1, ρ, M1, y, M2, sr.gr g1, m1, e2, ?_⟩
        cases y with
        | nx ρ1 => exact fun σ' as2 H2 g2 m2 s2 => ⟨as2, ρ1, M2, s2, m2, ev, (k.gr g1).gr g2⟩
        | ct ρ1 => exact fun σ' as2 H2 g2 m2 s2 => ⟨as2, ρ1, M2, s2, m2, ev, (k.gr g1).gr g2⟩
        | bk ρ1 => cases ev; exact k.gr g1
        | rt d => cases ev; exact k.gr g1
end

/-! ### what is walked: its items, and what must stand meanwhile -/
abbrev Src := List D × (Mem → Prop)
abbrev FI := Rho → Mem → Option (Src × Mem)
structure ItR (K : PySem.W.Frag) (as : List Addr) (H : Hp) (J : It) (s : Src) : Prop where
  stop : ∀ as' H' M, Gr as H as' H' → MR K as' H' M → s.2 M → J.stop s.1.length H'
  go : ∀ as' H' M (i : Nat) (d : D), Gr as H as' H' → MR K as' H' M → s.2 M → s.1[i]? = some d → J.go i H' ∧ ∀ x H2, J.yld i H' x H2 → Gr as' H' as' H2 ∧ MR K as' H2 M ∧ VR K as' H2 x d
def rI (K : PySem.W.Frag) (f : FI) : TI := fun σ H R => ∃ as ρ M s M', SR K as H σ ρ ∧ MR K as H M ∧ f ρ M = some (s, M') ∧ ∀ J as' H', Gr as H as' H' → MR K as' H' M' → ItR K as' H' J s → R J H'
def SI (K : PySem.W.Frag) (X : Cx) (tg e : Expr) (f : FI) : Prop := X.K = K → X.calm = true → PI X tg e (rI K f)
theorem ItR.gr {K : PySem.W.Frag} {as as' : List Addr} {H H' : Hp} {J : It} {s : Src} (g : Gr as H as' H') (h : ItR K as H J s) : ItR K as' H' J s :=
  ⟨fun a2 H2 M g2 => h.stop a2 H2 M (g.trans g2), fun a2 H2 M i d g2 => h.go a2 H2 M i d (g.trans g2)⟩
open Classical in
noncomputable def runG (gd : Mem → Prop) (body : D → Rho → Mem → Option (Fl × Mem)) : List D → Rho → Mem → Option (Fl × Mem)
  | [], ρ, M => if gd M then some (.nx ρ, M) else none
  | d :: ds, ρ, M => if gd M then (body d ρ M).bind fun q => match q.1 with
      | .nx ρ1 => runG gd body ds ρ1 q.2
      | .ct ρ1 => runG gd body ds ρ1 q.2
      | .bk ρ1 => some (.nx ρ1, q.2)
      | .rt d => some (.rt d, q.2)
    else none
def bodyG (g : FG) (b : FS) : D → Rho → Mem → Option (Fl × Mem) := fun d ρ M => (g d ρ).bind fun ρ1 => b ρ1 M
noncomputable def sFor (fi : FI) (g : FG) (b : FS) : FS := fun ρ M => (fi ρ M).bind fun p => runG p.1.2 (bodyG g b) p.1.1 ρ p.2
/-! the items that are made, one by one -/
open Classical in
noncomputable def mapG (gd : Mem → Prop) (f : D → Mem → Option (Option D × Mem)) : List D → Mem → Option (List D × Mem)
  | [], M => if gd M then some ([], M) else none
  | d :: ds, M => if gd M then (f d M).bind fun p => (mapG gd f ds p.2).bind fun q => some (p.1.toList ++ q.1, q.2) else none
def wipeD (ρ : Rho) : List Nat → Rho
  | [] => ρ
  | v :: vs => (wipeD ρ vs).set v none
def itemG (g : FG) (tt : FT) (te : FE) (ρ : Rho) : D → Mem → Option (Option D × Mem) := fun d M => (g d ρ).bind fun ρ1 => (tt ρ1 M).bind fun p => if p.1 = true then (te ρ1 p.2).map fun q => (some q.1, q.2) else some (none, p.2)
noncomputable def fLc (fi : FI) (g : FG) (tt : FT) (te : FE) (vs : List Nat) : FE := fun ρ M => (fi ρ M).bind fun p => (mapG p.1.2 (itemG g tt te (wipeD ρ vs)) p.1.1 p.2).bind fun q => if p.1.1.length ≤ 100000 then some (.rf q.2.length, q.2 ++ [.lst q.1]) else none
theorem ite_y {c A B : Prop} [Decidable c] (h : c) (a : A) : if c then A else B := by
  rw [if_pos h]
  exact a
theorem ite_n {c A B : Prop} [Decidable c] (h : ¬ c) (a : B) : if c then A else B := by
  rw [if_neg h]
  exact a
def tYesD : FT := fun _ M => some (true, M)
section
variable {K : PySem.W.Frag} {X : Cx} {pos : Pos} {tg e : Expr}
theorem ss_for {iter : Expr} {body : List Stmt} {fi : FI} {vs : List Nat} {g : FG} {fb : FS} (hp : PassesOwn (model X.prog X.w) X.A X.env X.xe)
    (hi : SI K X tg iter fi) (hg : SG K X vs tg g) (hb : SSs K X body fb) (hs : ∀ x, foldedSetIterable iter X.env x = pure x := by intro _; rfl) : SS K X (.For tg iter body [] pos) (sFor fi g fb) :=
  fun hK hc => ps_mono (ps_for hp hc (hi hK hc) (hg hK hc) (hb hK hc) hs) fun D σ H ⟨as, ρ, M, fl, M', sr, mr, ev, k⟩ => by
    unfold sFor at ev
    obtain ⟨⟨⟨ds, gd⟩, M1⟩, e1, ev⟩ := Option.bind_eq_some_iff.mp ev
    refine ⟨as, ρ, M, (ds, gd), M1, sr, mr, e1, fun J as1 H1 g1 m1 it => ?_⟩
    refine ⟨fun i m σ H => i ≤ ds.length ∧ m = ds.length - i ∧ ∃ as ρ M, Gr as1 H1 as H ∧ SR K as H σ ρ ∧ MR K as H M ∧ runG gd (bodyG g fb) (ds.drop i) ρ M = some (fl, M') ∧ FlOk K as H M' D fl,
      ⟨ds.length, Nat.zero_le _, rfl, as1, ρ, M1, Gr.refl, sr.gr g1, m1, by simpa using ev, k.gr g1⟩, ?_⟩
    rintro i m σ H ⟨hi, rfl, as, ρ, M, g2, sr, mr, ev, k⟩
    by_cases hl : i < ds.length
    · rw [List.drop_eq_getElem_cons hl] at ev
      unfold runG at ev
      split at ev
      · rename_i hgd
        have hd : ds[i]? = some ds[i] := List.getElem?_eq_getElem hl
        obtain ⟨hgo, hy⟩ := it.go as H M i _ g2 mr hgd hd
        obtain ⟨⟨y, M2⟩, e2, ev⟩ := Option.bind_eq_some_iff.mp ev
        unfold bodyG at e2
        obtain ⟨ρ1, e3, e2⟩ := Option.bind_eq_some_iff.mp e2
        refine .inr ⟨hgo, fun σ H => ∃ as ρ M, Gr as1 H1 as H ∧ SR K as H σ ρ ∧ MR K as H M ∧ runG gd (bodyG g fb) (ds.drop (i + 1)) ρ M = some (fl, M') ∧ FlOk K as H M' D fl, fun σ' H' hN => ⟨ds.length - (i + 1), by omega, hl, rfl, hN⟩, fun x H3 hx => ?_⟩
        obtain ⟨g3, m3, r3⟩ := hy x H3 hx
        refine ⟨as, ρ, _, ρ1, sr.gr g3, r3, e3, fun σ4 s4 _ => ⟨as, ρ1, M, y, M2, s4, m3, e2, ?_⟩⟩
        cases y with
        | nx ρ2 => exact fun σ' as5 H5 g5 m5 s5 => ⟨as5, ρ2, M2, (g2.trans g3).trans g5, s5, m5, ev, (k.gr g3).gr g5⟩
        | ct ρ2 => exact fun σ' as5 H5 g5 m5 s5 => ⟨as5, ρ2, M2, (g2.trans g3).trans g5, s5, m5, ev, (k.gr g3).gr g5⟩
        | bk ρ2 => cases ev; exact k.gr g3
        | rt d => cases ev; exact k.gr g3
      · cases ev
    · have hi' : i = ds.length := by omega
      subst hi'
      rw [List.drop_length] at ev
      unfold runG at ev
      split at ev
      · rename_i hgd
        cases ev
        exact .inl ⟨it.stop as H _ g2 mr hgd, k σ as H Gr.refl mr sr⟩
      · cases ev
theorem SR.wipe {as : List Addr} {H : Hp} {σ : L2.St} {ρ : Rho} (h : SR K as H σ ρ) : ∀ vs : List Nat, SR K as H (wipe σ vs) (wipeD ρ vs)
  | [] => h
  | v :: vs => (SR.wipe h vs).unset v
theorem rE.lc {fi : FI} {g : FG} {tt : FT} {te : FE} {vs : List Nat} {σ : L2.St} {H : Hp} {Q : VK} (h : rE K (fLc fi g tt te vs) σ H Q) : tLc (rI K fi) (rG K vs g) (rT K tt) (rE K te) vs σ H Q := by
  obtain ⟨as, ρ, M, d, M', sr, mr, ev, k⟩ := h
  unfold fLc at ev
  obtain ⟨⟨⟨ds, gd⟩, M1⟩, e1, ev⟩ := Option.bind_eq_some_iff.mp ev
  obtain ⟨⟨ys, M2⟩, e2, ev⟩ := Option.bind_eq_some_iff.mp ev
  dsimp only at e2 ev
  split at ev
  · rename_i hlim
    cases ev
    refine ⟨as, ρ, M, (ds, gd), M1, sr, mr, e1, fun J as1 H1 g1 m1 it => ?_⟩
    intro L hL
    have hgL : Gr as1 H1 as1 (upd H1 L (.lst [])) := Gr.new hL
    have hnL : L ∉ as1 := fun z => by
      obtain ⟨o, e, _⟩ := m1.there z
      rw [hL] at e; cases e
    refine ⟨fun i m H => i ≤ ds.length ∧ m = ds.length - i ∧ ∃ as M acc got rest, Gr as1 H1 as H ∧ L ∉ as ∧ H L = some (.lst acc) ∧ acc.length ≤ i ∧ VRs K as H acc got ∧ MR K as H M ∧ mapG gd (itemG g tt te (wipeD ρ vs)) (ds.drop i) M = some (rest, M2) ∧ ys = got ++ rest,
      ⟨ds.length, Nat.zero_le _, rfl, as1, M1, [], [], ys, hgL, hnL, upd_same, by simp, .nil, m1.new hL, by simpa using e2, rfl⟩, ?_⟩
    rintro i m H ⟨hi, rfl, as2, M3, acc, got, rest, g2, nL, hacc, hlen, racc, m2, e3, hys⟩
    by_cases hl : i < ds.length
    · rw [List.drop_eq_getElem_cons hl] at e3
      unfold mapG at e3
      split at e3
      · rename_i hgd
        have hd : ds[i]? = some ds[i] := List.getElem?_eq_getElem hl
        obtain ⟨hgo, hy⟩ := it.go as2 H M3 i _ g2 m2 hgd hd
        obtain ⟨⟨od, M4⟩, e4, e3⟩ := Option.bind_eq_some_iff.mp e3
        obtain ⟨⟨rs, M5⟩, e5, e3⟩ := Option.bind_eq_some_iff.mp e3
        dsimp only at e3 e5
        have hM : M5 = M2 := congrArg Prod.snd (Option.some.inj e3)
        have hR : od.toList ++ rs = rest := congrArg Prod.fst (Option.some.inj e3)
        subst hR
        obtain rfl : M2 = M5 := hM.symm
        unfold itemG at e4
        obtain ⟨ρ1, e6, e4⟩ := Option.bind_eq_some_iff.mp e4
        obtain ⟨⟨b, M6⟩, e7, e4⟩ := Option.bind_eq_some_iff.mp e4
        refine .inr ⟨hgo, fun H => ∃ as M acc got rest, Gr as1 H1 as H ∧ L ∉ as ∧ H L = some (.lst acc) ∧ acc.length ≤ i + 1 ∧ VRs K as H acc got ∧ MR K as H M ∧ mapG gd (itemG g tt te (wipeD ρ vs)) (ds.drop (i + 1)) M = some (rest, M2) ∧ ys = got ++ rest, fun H' hN => ⟨ds.length - (i + 1), by omega, hl, rfl, hN⟩, fun x H3 hx => ?_⟩
        obtain ⟨g3, m3, r3⟩ := hy x H3 hx
        refine ⟨as2, wipeD ρ vs, _, ρ1, ((sr.gr g1).wipe vs).gr (g2.trans g3), r3, e6, fun σ4 s4 w4 => ⟨?_, as2, ρ1, M3, b, M6, s4, m3, e7, fun as7 H7 g7 m7 => ?_⟩⟩
        · rw [w4]
          have : ∀ vs : List Nat, ∀ σ : L2.St, wipe (wipe σ vs) vs = wipe σ vs := fun vs => by
            intro σ
            have key : ∀ us ts : List Nat, (∀ u ∈ us, u ∈ ts) → wipe (wipe σ us) ts = wipe σ ts := fun us => by
              induction us with
              | nil => intro ts _; rfl
              | cons u us ih =>
                intro ts h
                show wipe ((wipe σ us).set u none) ts = _
                rw [wipe_set (h u List.mem_cons_self)]
                exact ih ts fun v hv => h v (List.mem_cons_of_mem _ hv)
            exact key vs vs fun u h => h
          exact this vs σ
        · have nL7 : L ∉ as7 := fun z => by
            by_cases z2 : L ∈ as2
            · exact nL z2
            · have := (g3.trans g7).fresh L z z2
              rw [hacc] at this; cases this
          have hacc7 : H7 L = some (.lst acc) := (g3.trans g7).keep L _ hacc nL
          cases b with
          | true =>
            rw [if_pos rfl] at e4
            refine ite_y rfl ?_
            obtain ⟨⟨y, M8⟩, e8, e4⟩ := Option.map_eq_some_iff.mp e4
            cases e4
            refine ⟨as7, ρ1, M6, y, M8, s4.gr g7, m7, e8, fun v as9 H9 g9 m9 r9 => ?_⟩
            have nL9 : L ∉ as9 := fun z => by
              by_cases z2 : L ∈ as7
              · exact nL7 z2
              · have := g9.fresh L z z2
                rw [hacc7] at this; cases this
            have hacc9 : H9 L = some (.lst acc) := g9.keep L _ hacc7 nL7
            refine ⟨acc, hacc9, Nat.lt_of_lt_of_le (Nat.lt_of_le_of_lt hlen hl) (lim_ok hlim), as9, M8, acc ++ [v], got ++ [y], _, ((((g2.trans g3).trans g7).trans g9).over hL), nL9, upd_same, by simp; omega, ?_, m9.side hacc9 nL9, e5, by simpa using hys⟩
            exact ((((racc.gr g3).gr g7).gr g9).append (.cons r9 .nil)).gv (Gv.side hacc9)
          | false =>
            rw [if_neg (fun z => nomatch z)] at e4
            refine ite_n (fun z => nomatch z) ?_
            cases e4
            exact ⟨as7, M6, acc, got, _, (g2.trans g3).trans g7, nL7, hacc7, by omega, (racc.gr g3).gr g7, m7, by simpa using e5, by simpa using hys⟩
      · cases e3
    · have hi' : i = ds.length := by omega
      subst hi'
      rw [List.drop_length] at e3
      unfold mapG at e3
      split at e3
      · rename_i hgd
        cases e3
        refine .inl ⟨it.stop as2 H _ g2 m2 hgd, ?_⟩
        rw [List.append_nil] at hys
        subst hys
        exact k _ (as2 ++ [L]) H ((g1.trans g2).take (g1.free hL) nL) (m2.take hacc nL racc) (.rf (by rw [← m2.len]; simp))
      · cases e3
  · cases ev
theorem sts_nil : X.K = K → X.calm = true → PTs X [] (rT K tYesD) := fun _ _ => pts_mono pts_nil fun σ H Q ⟨as, ρ, M, b, M', sr, mr, ev, k⟩ => by
  cases ev
  exact k as H Gr.refl mr
theorem sts_one {c : Expr} {t : FT} (h : ST K X c t) : X.K = K → X.calm = true → PTs X [c] (rT K t) := fun hK hc => pts_one (h hK hc)
abbrev Blk (X : Cx) (scope : Scope) (P : Cx → Prop) : Prop := ∀ (s : Shared) (H : Hp) (C : Addr) (cl : List (Str × Addr)) (fp : List Addr), P (X.blk s H scope (compEnvC scope cl C X.env) fp)
theorem se_lc {elt iter : Expr} {ifs : List Expr} {scope : Scope} {own : List (Str × Nat)} {fi : FI} {g : FG} {tt : FT} {te : FE} (hN : X.N.Nodup) (hi : SI K X tg iter fi) (ok : BlkOk X.N X.env.scope scope own)
    (hg : Blk X scope fun Y => SG K Y (own.map (·.2)) tg g) (ht : Blk X scope fun Y => Y.K = K → Y.calm = true → PTs Y ifs (rT K tt)) (he : Blk X scope fun Y => SE K Y elt te) (hs : ∀ x, foldedSetIterable iter X.env x = pure x := by intro _; rfl) :
    SE K X (.ListComp elt [⟨tg, iter, ifs, 0⟩] scope pos) (fLc fi g tt te (own.map (·.2))) := SE.imp (fun hK hc => pe_lc hc hN (hi hK hc) ok (fun s H C cl fp => hg s H C cl fp hK hc) (fun s H C cl fp => ht s H C cl fp hK hc) (fun s H C cl fp => he s H C cl fp hK hc) hs) fun _ _ _ => rE.lc
theorem ss_setLc {i : Nat} {y : Str} {py spos : Pos} {elt iter : Expr} {ifs : List Expr} {scope : Scope} {own : List (Str × Nat)} {fi : FI} {g : FG} {tt : FT} {te : FE} (hN : X.N.Nodup) (hy : X.N[i]? = some y) (hyl : X.env.scope.names.lookup y = some .local)
    (hsw : swapsWith (.ListComp elt [⟨tg, iter, ifs, 0⟩] scope pos) (some (.Name y py)) spos.line X.env = pure true) (hi : SI K X tg iter fi) (ok : BlkOk X.N X.env.scope scope own)
    (hg : Blk X scope fun Y => SG K Y (own.map (·.2)) tg g) (ht : Blk X scope fun Y => Y.K = K → Y.calm = true → PTs Y ifs (rT K tt)) (he : Blk X scope fun Y => SE K Y elt te) (hs : ∀ x, foldedSetIterable iter X.env x = pure x := by intro _; rfl) :
    SS K X (.Assign [.Name y py] (.ListComp elt [⟨tg, iter, ifs, 0⟩] scope pos) spos) (sAsg (fLc fi g tt te (own.map (·.2))) (gN i)) :=
  fun hK hc => ps_mono (ps_setLc hc hN hy hyl hsw (hi hK hc) ok (fun s H C cl fp => hg s H C cl fp hK hc) (fun s H C cl fp => ht s H C cl fp hK hc) (fun s H C cl fp => he s H C cl fp hK hc) hs) fun D σ H ⟨as, ρ, M, fl, M', sr, mr, ev, k⟩ => by
    unfold sAsg at ev
    obtain ⟨⟨d, M1⟩, e1, ev⟩ := Option.bind_eq_some_iff.mp ev
    cases ev
    exact rE.lc ⟨as, ρ, M, d, _, sr, mr, e1, fun v as1 H1 g1 m1 r1 => k _ as1 H1 g1 m1 ((sr.gr g1).set r1 i)⟩
/-! the walked things -/
def itemsOf : D → Mem → Option Src
  | .tup ds, _ => some (ds, fun _ => True)
  | .rol ds, _ => some (ds, fun _ => True)
  | .rf i, M => match M[i]? with
    | some (.lst ds) => some (ds, fun M' => M'[i]? = some (.lst ds))
    | _ => none
  | .str z, _ => some (z.cps.toList.map fun c => .str ⟨#[c]⟩, fun _ => True)
  | _, _ => none
def iE (fe : FE) : FI := fun ρ M => (fe ρ M).bind fun p => (itemsOf p.1 p.2).map fun s => (s, p.2)
theorem itr_tup {as : List Addr} {H : Hp} {a : Addr} {xs : List V} {ds : List D} (h : TupS K H a xs) (r : VRs K as H xs ds) : ItR K as H (Itt K a) (ds, fun _ => True) where
  stop := fun as' H' M g _ _ => ⟨xs, (h.gv g.gv).sq, by rw [r.len]; exact Nat.le_refl _⟩
  go := fun as' H' M i d g m _ e => by
    have h' := (h.gv g.gv).sq
    obtain ⟨v, e1, rv⟩ := (r.gr g).get e
    refine ⟨⟨xs, v, h', e1⟩, fun x H2 y => ?_⟩
    obtain ⟨rfl, y⟩ := y
    have := y xs h'
    rw [e1] at this
    cases this
    exact ⟨Gr.refl, m, rv⟩
theorem itr_rol {as : List Addr} {H : Hp} {a : Addr} {xs : List V} {ds : List D} (h : RolS K H a xs) (r : VRs K as H xs ds) : ItR K as H (Itl K a) (ds, fun _ => True) where
  stop := fun as' H' M g _ _ => ⟨xs, (h.gv g.gv).sq, by rw [r.len]; exact Nat.le_refl _⟩
  go := fun as' H' M i d g m _ e => by
    have h' := (h.gv g.gv).sq
    obtain ⟨v, e1, rv⟩ := (r.gr g).get e
    refine ⟨⟨xs, v, h', e1⟩, fun x H2 y => ?_⟩
    obtain ⟨rfl, y⟩ := y
    have := y xs h'
    rw [e1] at this
    cases this
    exact ⟨Gr.refl, m, rv⟩
theorem itr_lst {as : List Addr} {H : Hp} {a : Addr} {j : Nat} {ds : List D} (h : as[j]? = some a) : ItR K as H (Itl K a) (ds, fun M => M[j]? = some (.lst ds)) where
  stop := fun as' H' M g m hg => by
    obtain ⟨xs, q, r⟩ := m.lst (g.gv.get h) hg
    exact ⟨xs, SqL.of q, by rw [r.len]; exact Nat.le_refl _⟩
  go := fun as' H' M i d g m hg e => by
    obtain ⟨xs, q, r⟩ := m.lst (g.gv.get h) hg
    obtain ⟨v, e1, rv⟩ := r.get e
    refine ⟨⟨xs, v, SqL.of q, e1⟩, fun x H2 y => ?_⟩
    obtain ⟨rfl, y⟩ := y
    have := y xs (SqL.of q)
    rw [e1] at this
    cases this
    exact ⟨Gr.refl, m, rv⟩
theorem si_e {fe : FE} (he : SE K X e fe) : SI K X tg e (iE fe) := fun hK hc => by
  subst hK
  refine ⟨fun pins s σ H R I h => ?_⟩
  obtain ⟨as, ρ, M, sc, M', sr, mr, ev, k⟩ := h
  unfold iE at ev
  obtain ⟨⟨d, M1⟩, e1, ev⟩ := Option.bind_eq_some_iff.mp ev
  obtain ⟨sc', e2, ev⟩ := Option.map_eq_some_iff.mp ev
  cases ev
  cases d with
  | tup ds =>
    cases e2
    refine (pi_tup (tg := tg) (he rfl hc)).run pins s σ H R I ⟨as, ρ, M, _, _, sr, mr, e1, fun v as1 H1 g1 m1 r1 => ?_⟩
    cases r1 with
    | tup h hs => exact ⟨_, rfl, ⟨_, h.sq⟩, k _ as1 H1 g1 m1 (itr_tup h hs)⟩
  | rol ds =>
    cases e2
    refine (pi_list (tg := tg) (he rfl hc)).run pins s σ H R I ⟨as, ρ, M, _, _, sr, mr, e1, fun v as1 H1 g1 m1 r1 => ?_⟩
    cases r1 with
    | rol h hs => exact ⟨_, rfl, ⟨_, h.sq⟩, k _ as1 H1 g1 m1 (itr_rol h hs)⟩
  | rf j =>
    simp only [itemsOf] at e2
    split at e2
    · rename_i ds hd
      cases e2
      refine (pi_list (tg := tg) (he rfl hc)).run pins s σ H R I ⟨as, ρ, M, _, _, sr, mr, e1, fun v as1 H1 g1 m1 r1 => ?_⟩
      cases r1 with
      | rf h =>
        obtain ⟨xs, q, _⟩ := m1.lst h hd
        exact ⟨_, rfl, ⟨_, SqL.of q⟩, k _ as1 H1 g1 m1 (itr_lst h)⟩
    · cases e2
  | str z =>
    cases e2
    refine (pi_str (tg := tg) (he rfl hc)).run pins s σ H R I ⟨as, ρ, M, _, _, sr, mr, e1, fun v as1 H1 g1 m1 r1 => ?_⟩
    cases r1
    refine ⟨z, rfl, k _ as1 H1 g1 m1 ⟨fun as' H' M _ _ _ => by simp [Its], fun as' H' M i d g m _ e => ?_⟩⟩
    simp only [List.getElem?_map, Option.map_eq_some_iff] at e
    obtain ⟨c, e, rfl⟩ := e
    have hi : i < z.cps.size := by
      have := (List.getElem?_eq_some_iff.mp e).1
      simpa using this
    refine ⟨hi, fun x H2 y => ?_⟩
    obtain ⟨rfl, c', hc', rfl⟩ := y
    rw [Array.getElem?_toList] at e
    rw [e] at hc'
    cases hc'
    exact ⟨Gr.refl, m, .str _⟩
  | _ => cases e2
/-- range(n), range(a, b) -/
def upto (lo : Int) (n : Nat) : List D := (List.range n).map fun i : Nat => .int (lo + i)
def iR1 (fa : FE) : FI := fun ρ M => (fa ρ M).bind fun p => match p.1 with
  | .int j => if j ≤ 100000 ∧ -100000 ≤ j then some ((upto 0 j.toNat, fun _ => True), p.2) else none
  | _ => none
def iR2 (fa fb : FE) : FI := fun ρ M => (fa ρ M).bind fun p => (fb ρ p.2).bind fun q => match p.1, q.1 with
  | .int i, .int j => if j ≤ 100000 ∧ -100000 ≤ i ∧ -100000 ≤ j ∧ i ≤ 100000 then some ((upto i (j - i).toNat, fun _ => True), q.2) else none
  | _, _ => none
theorem itr_rng {as : List Addr} {H : Hp} {lo : Int} {n : Nat} : ItR K as H (Itr lo n) (upto lo n, fun _ => True) where
  stop := fun as' H' M g _ _ => by simp [Itr, upto]
  go := fun as' H' M i d g m _ e => by
    simp only [upto, List.getElem?_map, Option.map_eq_some_iff] at e
    obtain ⟨j, e, rfl⟩ := e
    have hj : i < n ∧ j = i := by
      have := List.getElem?_eq_some_iff.mp e
      obtain ⟨h1, h2⟩ := this
      simp at h1 h2
      exact ⟨h1, h2.symm⟩
    obtain ⟨hi, rfl⟩ := hj
    refine ⟨hi, fun x H2 y => ?_⟩
    obtain ⟨rfl, rfl⟩ := y
    exact ⟨Gr.refl, m, .int _⟩
theorem si_range1 {a : Expr} {fa : FE} {p : Pos} (hg : Gl X "range") (hm : X.mg "range" = none) (ha : SE K X a fa) (hs : starEach [a] X.env = [(false, eval a X.env)] := by rfl) (hs' : starEach [a] X.env = (false, eval a X.env) :: starEach [] X.env := by rfl) : SI K X tg (.Call (.Name "range" p) [a] [] pos) (iR1 fa) :=
  fun hK hc => pi_mono (pi_range1 hg hm (pa_cons (ha hK hc) pa_nil hs') hs) fun σ H R ⟨as, ρ, M, sc, M', sr, mr, ev, k⟩ => by
    unfold iR1 at ev
    obtain ⟨⟨d, M1⟩, e1, ev⟩ := Option.bind_eq_some_iff.mp ev
    refine ⟨as, ρ, M, d, M1, sr, mr, e1, fun v as1 H1 g1 m1 r1 => ?_⟩
    cases r1 with
    | int j =>
      dsimp only at ev
      split at ev
      · rename_i hl
        cases ev
        exact ⟨_, rfl, by omega, by omega, k _ as1 H1 g1 m1 itr_rng⟩
      · cases ev
    | _ => cases ev
theorem si_range2 {a b : Expr} {fa fb : FE} {p : Pos} (hg : Gl X "range") (hm : X.mg "range" = none) (ha : SE K X a fa) (hb : SE K X b fb) (hs : starEach [a, b] X.env = [(false, eval a X.env), (false, eval b X.env)] := by rfl) (hs2 : starEach [b] X.env = [(false, eval b X.env)] := by rfl)
    (hs3 : starEach [a, b] X.env = (false, eval a X.env) :: starEach [b] X.env := by rfl) (hs4 : starEach [b] X.env = (false, eval b X.env) :: starEach [] X.env := by rfl) : SI K X tg (.Call (.Name "range" p) [a, b] [] pos) (iR2 fa fb) :=
  fun hK hc => pi_mono (pi_range2 hg hm (pa_cons (ha hK hc) (pa_cons (hb hK hc) pa_nil hs4) hs3) hs hs2) fun σ H R ⟨as, ρ, M, sc, M', sr, mr, ev, k⟩ => by
    unfold iR2 at ev
    obtain ⟨⟨d, M1⟩, e1, ev⟩ := Option.bind_eq_some_iff.mp ev
    obtain ⟨⟨e, M2⟩, e2, ev⟩ := Option.bind_eq_some_iff.mp ev
    refine ⟨as, ρ, M, d, M1, sr, mr, e1, fun v as1 H1 g1 m1 r1 => ⟨as1, ρ, M1, e, M2, sr.gr g1, m1, e2, fun u as2 H2 g2 m2 r2 => ?_⟩⟩
    cases r1 with
    | int i =>
      cases r2 with
      | int j =>
        dsimp only at ev
        split at ev
        · rename_i hl
          cases ev
          exact ⟨_, _, rfl, ⟨by omega, by omega, by omega, by omega⟩, k _ as2 H2 (g1.trans g2) m2 itr_rng⟩
        · cases ev
      | _ => cases ev
    | _ => cases ev
/-- pairs of two walks -/
def pairs : List D → List D → List D
  | a :: as, b :: bs => .tup [a, b] :: pairs as bs
  | _, _ => []
theorem pairs_len : ∀ (as bs : List D), (pairs as bs).length = min as.length bs.length
  | [], _ => by simp [pairs]
  | _ :: _, [] => by simp [pairs]
  | _ :: as, _ :: bs => by simp only [pairs, List.length_cons, pairs_len as bs]; omega
theorem pairs_get : ∀ {as bs : List D} {i : Nat} {d : D}, (pairs as bs)[i]? = some d → ∃ a b, as[i]? = some a ∧ bs[i]? = some b ∧ d = .tup [a, b]
  | [], _, _, _, e => by simp [pairs] at e
  | _ :: _, [], _, _, e => by simp [pairs] at e
  | a :: _, b :: _, 0, _, e => by
    simp [pairs] at e
    exact ⟨a, b, rfl, rfl, e.symm⟩
  | _ :: as, _ :: bs, i + 1, _, e => by
    simp only [pairs, List.getElem?_cons_succ] at e ⊢
    exact pairs_get e
def numbered (ds : List D) : List D := pairs (upto 0 ds.length) ds
/-- both are lists, or both are tuples -/
def zipOf : D → D → Mem → Option Src
  | .tup ds, .tup es, _ => some (pairs ds es, fun _ => True)
  | .rf i, .rf j, M => match M[i]?, M[j]? with
    | some (.lst ds), some (.lst es) => some (pairs ds es, fun M' => M'[i]? = some (.lst ds) ∧ M'[j]? = some (.lst es))
    | _, _ => none
  | _, _, _ => none
def iZ (fa fb : FE) : FI := fun ρ M => (fa ρ M).bind fun p => (fb ρ p.2).bind fun q => (zipOf p.1 q.1 q.2).map fun s => (s, q.2)
theorem tup2_new {as : List Addr} {H : Hp} {T : Addr} {x y : V} {a b : D} (hT : H T = none) (h1 : VR K as H x a) (h2 : VR K as H y b) : VR K as (upd H T (.tup [x, y])) (.ref T) (.tup [a, b]) :=
  have g : Gr as H as (upd H T (.tup [x, y])) := Gr.new hT
  .tup (.inl upd_same) (.cons (h1.gr g) (.cons (h2.gr g) .nil))
theorem itr_zipT {as : List Addr} {H : Hp} {a b : Addr} {xs ys : List V} {ds es : List D} (h1 : TupS K H a xs) (r1 : VRs K as H xs ds) (h2 : TupS K H b ys) (r2 : VRs K as H ys es) : ItR K as H (RZ.ItzT K a b) (pairs ds es, fun _ => True) where
  stop := fun as' H' M g _ _ => ⟨xs, ys, (h1.gv g.gv).sq, (h2.gv g.gv).sq, by rw [pairs_len, r1.len, r2.len]; omega⟩
  go := fun as' H' M i d g m _ e => by
    obtain ⟨p, q, e1, e2, rfl⟩ := pairs_get e
    obtain ⟨v, f1, v1⟩ := (r1.gr g).get e1
    obtain ⟨u, f2, v2⟩ := (r2.gr g).get e2
    have q1 := (h1.gv g.gv).sq
    have q2 := (h2.gv g.gv).sq
    refine ⟨⟨xs, ys, v, u, q1, q2, f1, f2⟩, fun x H2 y => ?_⟩
    obtain ⟨T, x1, y1, rfl, hT, rfl, k1, k2⟩ := y
    have := k1 xs q1
    rw [f1] at this; cases this
    have := k2 ys q2
    rw [f2] at this; cases this
    exact ⟨Gr.new hT, m.new hT, tup2_new hT v1 v2⟩
theorem itr_zipL {as : List Addr} {H : Hp} {a b : Addr} {j k : Nat} {ds es : List D} (h1 : as[j]? = some a) (h2 : as[k]? = some b) : ItR K as H (Itz K a b) (pairs ds es, fun M' => M'[j]? = some (.lst ds) ∧ M'[k]? = some (.lst es)) where
  stop := fun as' H' M g m hg => by
    obtain ⟨xs, p1, r1⟩ := m.lst (g.gv.get h1) hg.1
    obtain ⟨ys, p2, r2⟩ := m.lst (g.gv.get h2) hg.2
    exact ⟨xs, ys, SqL.of p1, SqL.of p2, by rw [pairs_len, r1.len, r2.len]; omega⟩
  go := fun as' H' M i d g m hg e => by
    obtain ⟨xs, p1, r1⟩ := m.lst (g.gv.get h1) hg.1
    obtain ⟨ys, p2, r2⟩ := m.lst (g.gv.get h2) hg.2
    obtain ⟨p, q, e1, e2, rfl⟩ := pairs_get e
    obtain ⟨v, f1, v1⟩ := r1.get e1
    obtain ⟨u, f2, v2⟩ := r2.get e2
    refine ⟨⟨xs, ys, v, u, SqL.of p1, SqL.of p2, f1, f2⟩, fun x H2 y => ?_⟩
    obtain ⟨T, x1, y1, rfl, hT, rfl, k1, k2⟩ := y
    have := k1 xs (SqL.of p1)
    rw [f1] at this; cases this
    have := k2 ys (SqL.of p2)
    rw [f2] at this; cases this
    exact ⟨Gr.new hT, m.new hT, tup2_new hT v1 v2⟩
theorem si_zip {a b : Expr} {fa fb : FE} {p tpos : Pos} {elts : List Expr} {kk : Nat} (hg : Gl X "zip") (hm : X.mg "zip" = none) (ha : SE K X a fa) (hb : SE K X b fb)
    (hs3 : starEach [a, b] X.env = (false, eval a X.env) :: starEach [b] X.env := by rfl) (hs4 : starEach [b] X.env = (false, eval b X.env) :: starEach [] X.env := by rfl) (hpl : (backTo pos (starEach [b] X.env)).any (·.1) = false := by rfl) :
    SI K X (.Tuple elts kk tpos) (.Call (.Name "zip" p) [a, b] [] pos) (iZ fa fb) :=
  fun hK hc => by
    subst hK
    refine pi_mono (RZ.pi_zipA hg hm (pa_cons (ha rfl hc) (pa_cons (hb rfl hc) pa_nil hs4) hs3) hs3 hpl) fun σ H R ⟨as, ρ, M, sc, M', sr, mr, ev, k⟩ => ?_
    unfold iZ at ev
    obtain ⟨⟨d, M1⟩, e1, ev⟩ := Option.bind_eq_some_iff.mp ev
    obtain ⟨⟨e, M2⟩, e2, ev⟩ := Option.bind_eq_some_iff.mp ev
    obtain ⟨sc', e3, ev⟩ := Option.map_eq_some_iff.mp ev
    cases ev
    refine ⟨as, ρ, M, d, M1, sr, mr, e1, fun v as1 H1 g1 m1 r1 => ⟨as1, ρ, M1, e, _, sr.gr g1, m1, e2, fun u as2 H2 g2 m2 r2 => ?_⟩⟩
    cases r1 with
    | tup h1 hs1 =>
      cases r2 with
      | tup h2 hs2 =>
        cases e3
        exact ⟨_, _, _, _, rfl, .inr ⟨(h1.gv g2.gv).sq, h2.sq, k _ as2 H2 (g1.trans g2) m2 (itr_zipT (h1.gv g2.gv) (hs1.gr g2) h2 hs2)⟩⟩
      | _ => cases e3
    | rf h1 =>
      cases r2 with
      | rf h2 =>
        simp only [zipOf] at e3
        split at e3
        · rename_i ds es d1 d2
          cases e3
          obtain ⟨xs, p1, _⟩ := m2.lst (g2.gv.get h1) d1
          obtain ⟨ys, p2, _⟩ := m2.lst h2 d2
          exact ⟨_, _, _, _, rfl, .inl ⟨SqL.of p1, SqL.of p2, k _ as2 H2 (g1.trans g2) m2 (itr_zipL (g2.gv.get h1) h2)⟩⟩
        · cases e3
      | _ => cases e3
    | _ => cases e3
/-- enumerate of a list -/
def iEn (fa : FE) : FI := fun ρ M => (fa ρ M).bind fun p => match p.1 with
  | .rf j => match p.2[j]? with
    | some (.lst ds) => some ((numbered ds, fun M' => M'[j]? = some (.lst ds)), p.2)
    | _ => none
  | .rol ds => some ((numbered ds, fun _ => True), p.2)
  | _ => none
theorem numbered_get {ds : List D} {i : Nat} {d : D} (e : (numbered ds)[i]? = some d) : ∃ b, ds[i]? = some b ∧ d = .tup [.int (i : Nat), b] := by
  obtain ⟨a, b, e1, e2, rfl⟩ := pairs_get e
  simp only [upto, List.getElem?_map, Option.map_eq_some_iff] at e1
  obtain ⟨j, e1, rfl⟩ := e1
  obtain ⟨h1, h2⟩ := List.getElem?_eq_some_iff.mp e1
  simp at h2
  subst h2
  exact ⟨b, e2, by simp⟩
theorem numbered_len (ds : List D) : (numbered ds).length = ds.length := by simp [numbered, pairs_len, upto]
theorem si_enum {a : Expr} {fa : FE} {p tpos : Pos} {elts : List Expr} {kk : Nat} (hg : Gl X "enumerate") (hm : X.mg "enumerate" = none) (ha : SE K X a fa) (hs : starEach [a] X.env = [(false, eval a X.env)] := by rfl) (hs' : starEach [a] X.env = (false, eval a X.env) :: starEach [] X.env := by rfl) :
    SI K X (.Tuple elts kk tpos) (.Call (.Name "enumerate" p) [a] [] pos) (iEn fa) :=
  fun hK hc => by
    subst hK
    refine pi_mono (pi_enum hg hm (pa_cons (ha rfl hc) pa_nil hs') hs) fun σ H R ⟨as, ρ, M, sc, M', sr, mr, ev, k⟩ => ?_
    unfold iEn at ev
    obtain ⟨⟨d, M1⟩, e1, ev⟩ := Option.bind_eq_some_iff.mp ev
    refine ⟨as, ρ, M, d, M1, sr, mr, e1, fun v as1 H1 g1 m1 r1 => ?_⟩
    cases r1 with
    | @rf j a h1 =>
      dsimp only at ev
      split at ev
      · rename_i ds d1
        cases ev
        obtain ⟨xs, p1, _⟩ := m1.lst h1 d1
        refine ⟨a, xs, rfl, SqL.of p1, k _ as1 H1 g1 m1 ⟨fun as' H' M g m hg => ?_, fun as' H' M i d g m hg e => ?_⟩⟩
        · obtain ⟨xs, p1, r1⟩ := m.lst (g.gv.get h1) hg
          exact ⟨xs, SqL.of p1, by rw [numbered_len, r1.len]; exact Nat.le_refl _⟩
        · obtain ⟨xs, p1, r1⟩ := m.lst (g.gv.get h1) hg
          obtain ⟨b, e1, rfl⟩ := numbered_get e
          obtain ⟨v, f1, v1⟩ := r1.get e1
          refine ⟨⟨xs, v, SqL.of p1, f1⟩, fun x H2 y => ?_⟩
          obtain ⟨T, x1, rfl, hT, rfl, k1⟩ := y
          have := k1 xs (SqL.of p1)
          rw [f1] at this; cases this
          exact ⟨Gr.new hT, m.new hT, tup2_new hT (.int _) v1⟩
      · cases ev
    | @rol a xs ds h1 hs1 =>
      cases ev
      refine ⟨a, xs, rfl, h1.sq, k _ as1 H1 g1 m1 ⟨fun as' H' M g m hg => ?_, fun as' H' M i d g m hg e => ?_⟩⟩
      · exact ⟨xs, (h1.gv g.gv).sq, by rw [numbered_len, hs1.len]; exact Nat.le_refl _⟩
      · obtain ⟨b, e1, rfl⟩ := numbered_get e
        obtain ⟨v, f1, v1⟩ := (hs1.gr g).get e1
        have q1 := (h1.gv g.gv).sq
        refine ⟨⟨xs, v, q1, f1⟩, fun x H2 y => ?_⟩
        obtain ⟨T, x1, rfl, hT, rfl, k1⟩ := y
        have := k1 xs q1
        rw [f1] at this; cases this
        exact ⟨Gr.new hT, m.new hT, tup2_new hT (.int _) v1⟩
    | _ => cases ev
end

/-! ### defs and calls -/
def spP (K : PySem.W.Frag) (n : Nat) (f : List D → Option D) : Sp := fun vs H Q _ => ∃ ds d, vs.length = n ∧ VRs K [] H vs ds ∧ f ds = some d ∧ ∀ v H', Same H H' → VR K [] H' v d → Q v H'
def spM (K : PySem.W.Frag) (n : Nat) (f : GL) : Sp := fun vs H Q _ => ∃ as M ds d M', vs.length = n ∧ MR K as H M ∧ VRs K as H vs ds ∧ f ds M = some (d, M') ∧ ∀ v as' H', Gr as H as' H' → MR K as' H' M' → VR K as' H' v d → Q v H'
/-- what a body of no effect is worth -/
def mkP (n N : Nat) (body : FS) : List D → Option D := fun ds => if D.los 0 ds = true ∧ ds.length = n then (body (startD N ds) []).bind fun p => match p.1 with
    | .rt d => if d.imm = true then some d else none
    | .nx _ => some .non
    | _ => none
  else none
/-- a body that works on the memory -/
def mkM (n N : Nat) (body : FS) : GL := fun ds M => if ds.length = n then (body (startD N ds) M).bind fun p => match p.1 with
    | .rt d => some (d, p.2)
    | .nx _ => some (.non, p.2)
    | _ => none
  else none
/-- what it leaves behind is forgotten where nothing speaks of it -/
def gc (n : Nat) (p : D × Mem) : D × Mem := if p.1.lo n = true ∧ (p.2.take n).all (Cell.lo n) = true then (p.1, p.2.take n) else p
def mkG (n N : Nat) (body : FS) : GL := fun ds M => (mkM n N body ds M).map (gc M.length)
theorem mkM_len {n N : Nat} {body : FS} {ds : List D} {M : Mem} {d : D × Mem} (h : mkM n N body ds M = some d) : ds.length = n := by
  unfold mkM at h
  split at h
  · assumption
  · cases h
theorem mkG_len {n N : Nat} {body : FS} {ds : List D} {M : Mem} {d : D × Mem} (h : mkG n N body ds M = some d) : ds.length = n := by
  unfold mkG at h
  obtain ⟨_, h, _⟩ := Option.map_eq_some_iff.mp h
  exact mkM_len h
theorem mkP_lo {n N : Nat} {body : FS} {ds : List D} {d : D} (h : mkP n N body ds = some d) : D.los 0 ds = true ∧ ds.length = n := by
  unfold mkP at h
  split at h
  · assumption
  · cases h
section
variable {P : Program} {w : World} {K : PySem.W.Frag} {mg : Str → Option Value} {base : Heap}
theorem okP {x qual : Str} {st : Stmt} {f : Addr} {fd : FuncData} {N ps : List Str} {k : Nat} {fb : FS} (F : Fun K x qual st f fd) (S : FnScope N ps (defScope st))
    (hb : ∀ (cdv : Value) (A : Around) (outer : List Env) (s : Shared) (H : Hp) (E : XK), Room k (A.deeper (envOfC qual (defScope st) s.heap.objs.size f cdv)) → SSs K (cxOf CX0 P w K mg base N qual (defScope st) f cdv A outer s H E).nox (defBody st) fb) :
    FnOk P w K mg base CX0 (k + 1) f fd ps (spP K ps.length (mkP ps.length N.length fb)) := by
  refine F.ok S (fun vs H Q E h => ?_) fun cdv A outer s H vs Q E hr h => ⟨rS K fb, hb cdv A outer s H E hr rfl rfl, ?_⟩
  · obtain ⟨_, _, h, _⟩ := h
    exact h
  obtain ⟨ds, d, hl, rs, e, k⟩ := h
  have hlo := mkP_lo e
  unfold mkP at e
  rw [if_pos hlo] at e
  obtain ⟨⟨fl, M1⟩, e1, e⟩ := Option.bind_eq_some_iff.mp e
  refine ⟨[], startD N.length ds, [], fl, M1, SR.start rs, MR.nil, e1, ?_⟩
  cases fl with
  | rt d' =>
    dsimp only at e
    split at e
    · rename_i hi
      cases e
      exact fun v as' H' g m r => k v H' g.same (by simpa using r.low (n := 0) hi)
    · cases e
  | nx ρ =>
    cases e
    exact fun σ' as' H' g m r => k .non H' g.same .non
  | bk ρ => cases e
  | ct ρ => cases e
theorem okM {x qual : Str} {st : Stmt} {f : Addr} {fd : FuncData} {N ps : List Str} {k : Nat} {fb : FS} (F : Fun K x qual st f fd) (S : FnScope N ps (defScope st))
    (hb : ∀ (cdv : Value) (A : Around) (outer : List Env) (s : Shared) (H : Hp) (E : XK), Room k (A.deeper (envOfC qual (defScope st) s.heap.objs.size f cdv)) → SSs K (cxOf CX0 P w K mg base N qual (defScope st) f cdv A outer s H E).nox (defBody st) fb) :
    FnOk P w K mg base CX0 (k + 1) f fd ps (spM K ps.length (mkM ps.length N.length fb)) := by
  refine F.ok S (fun vs H Q E h => ?_) fun cdv A outer s H vs Q E hr h => ⟨rS K fb, hb cdv A outer s H E hr rfl rfl, ?_⟩
  · obtain ⟨_, _, _, _, _, h, _⟩ := h
    exact h
  obtain ⟨as, M, ds, d, M', hl, mr, rs, e, k⟩ := h
  have hlen := mkM_len e
  unfold mkM at e
  rw [if_pos hlen] at e
  obtain ⟨⟨fl, M1⟩, e1, e⟩ := Option.bind_eq_some_iff.mp e
  refine ⟨as, startD N.length ds, M, fl, M1, SR.start rs, mr, e1, ?_⟩
  cases fl with
  | rt d' =>
    cases e
    exact fun v as' H' g m r => k v as' H' g m r
  | nx ρ =>
    cases e
    exact fun σ' as' H' g m r => k .non as' H' g m .non
  | bk ρ => cases e
  | ct ρ => cases e
theorem spM_gc {n : Nat} {f : GL} {vs : List V} {H : Hp} {Q : VK} {E : XK} (h : spM K n (fun ds M => (f ds M).map (gc M.length)) vs H Q E) : spM K n f vs H Q E := by
  obtain ⟨as, M, ds, d, M', hl, mr, rs, e, k⟩ := h
  obtain ⟨⟨d1, M1⟩, e1, e⟩ := Option.map_eq_some_iff.mp e
  refine ⟨as, M, ds, d1, M1, hl, mr, rs, e1, fun v as' H' g m r => ?_⟩
  unfold gc at e
  split at e
  · rename_i hc
    cases e
    obtain ⟨t, ht⟩ := g.app
    have hn : as'.take M.length = as := by rw [← mr.len, ht]; simp
    have m' := m.low hc.2
    have r' := r.low hc.1
    have g' := g.low
    rw [mr.len] at g'
    rw [hn] at m' r' g'
    exact k v as H' g' m' r'
  · cases e
    exact k v as' H' g m r
theorem okG {x qual : Str} {st : Stmt} {f : Addr} {fd : FuncData} {N ps : List Str} {k : Nat} {fb : FS} (F : Fun K x qual st f fd) (S : FnScope N ps (defScope st))
    (hb : ∀ (cdv : Value) (A : Around) (outer : List Env) (s : Shared) (H : Hp) (E : XK), Room k (A.deeper (envOfC qual (defScope st) s.heap.objs.size f cdv)) → SSs K (cxOf CX0 P w K mg base N qual (defScope st) f cdv A outer s H E).nox (defBody st) fb) :
    FnOk P w K mg base CX0 (k + 1) f fd ps (spM K ps.length (mkG ps.length N.length fb)) := (okM F S hb).imp fun _ _ _ _ h => spM_gc h
end
def fCP (f : List D → Option D) (fa : FA) : FE := fun ρ M => (fa ρ M).bind fun p => (f p.1).map fun d => (d, p.2)
section
variable {K : PySem.W.Frag} {X : Cx} {e o : Expr} {es : List Expr} {fa : FA} {fo fe fi : FE} {pos p apos cpos : Pos} {x : Str} {k n : Nat} {f : Addr} {fd : FuncData} {ps : List Str}
theorem rE.callP {m : List D → Option D} (hm : ∀ ds d, m ds = some d → D.los 0 ds = true ∧ ds.length = n) {σ : L2.St} {H : Hp} {Q : VK} (h : rE K (fCP m fa) σ H Q) : tCall (spP K n m) [] E0 (rA K fa) σ H Q := by
  obtain ⟨as, ρ, M, d, M', sr, mr, ev, k⟩ := h
  unfold fCP at ev
  obtain ⟨⟨ds, M1⟩, e1, ev⟩ := Option.bind_eq_some_iff.mp ev
  obtain ⟨d', e2, ev⟩ := Option.map_eq_some_iff.mp ev
  cases ev
  refine ⟨as, ρ, M, ds, _, sr, mr, e1, fun vs as1 H1 g1 m1 r1 => ⟨ds, d, ?_, ?_, e2, fun v H2 s2 r2 => ?_⟩⟩
  · rw [List.append_nil, r1.len]
    exact (hm _ _ e2).2
  · rw [List.append_nil]
    simpa using r1.low (n := 0) (hm _ _ e2).1
  · exact k v as1 H2 (g1.trans (Gr.of_same m1 s2)) (m1.same s2) r2.up
theorem rE.callM {m : GL} (hm : ∀ ds M d, m ds M = some d → ds.length = n) {σ : L2.St} {H : Hp} {Q : VK} (h : rE K (fL m fa) σ H Q) : tCall (spM K n m) [] E0 (rA K fa) σ H Q := by
  obtain ⟨as, ρ, M, d, M', sr, mr, ev, k⟩ := h
  unfold fL at ev
  obtain ⟨⟨ds, M1⟩, e1, ev⟩ := Option.bind_eq_some_iff.mp ev
  refine ⟨as, ρ, M, ds, _, sr, mr, e1, fun vs as1 H1 g1 m1 r1 => ⟨as1, M1, ds, d, M', ?_, m1, ?_, ev, fun v as2 H2 g2 m2 r2 => k v as2 H2 (g1.trans g2) m2 r2⟩⟩
  · rw [List.append_nil, r1.len]
    exact hm _ _ _ ev
  · rw [List.append_nil]
    exact r1
theorem se_callP {m : List D → Option D} (hm : ∀ ds d, m ds = some d → D.los 0 ds = true ∧ ds.length = n) (F : X.K = K → FnOk X.prog X.w X.K X.mg X.base CX0 k f fd ps (spP K n m)) (hr : Room k X.A) (hg : Gl X x) (hmg : X.mg x = some (.ref f)) (hk : X.K = K → PySem.W.keepIn X.K (.ref f) = true) (hb : X.K = K → Binds X.K fd ps [])
    (ha : SA K X (e :: es) fa) (hdb : (x == ("__debug__" : Str)) = false := by decide) (he : starEach (e :: es) X.env = (false, eval e X.env) :: starEach es X.env := by rfl) (hpl : (backTo pos (starEach es X.env)).any (·.1) = false := by rfl) :
    SE K X (.Call (.Name x p) (e :: es) [] pos) (fCP m fa) := SE.imp (fun hK hc => pe_call (F hK) hr hg hmg (hk hK) (hb hK) .nil pass0 (ha hK hc) hdb he hpl) fun _ _ _ => rE.callP hm
theorem se_callM {m : GL} (hm : ∀ ds M d, m ds M = some d → ds.length = n) (F : X.K = K → FnOk X.prog X.w X.K X.mg X.base CX0 k f fd ps (spM K n m)) (hr : Room k X.A) (hg : Gl X x) (hmg : X.mg x = some (.ref f)) (hk : X.K = K → PySem.W.keepIn X.K (.ref f) = true) (hb : X.K = K → Binds X.K fd ps [])
    (ha : SA K X (e :: es) fa) (hdb : (x == ("__debug__" : Str)) = false := by decide) (he : starEach (e :: es) X.env = (false, eval e X.env) :: starEach es X.env := by rfl) (hpl : (backTo pos (starEach es X.env)).any (·.1) = false := by rfl) :
    SE K X (.Call (.Name x p) (e :: es) [] pos) (fL m fa) := SE.imp (fun hK hc => pe_call (F hK) hr hg hmg (hk hK) (hb hK) .nil pass0 (ha hK hc) hdb he hpl) fun _ _ _ => rE.callM hm
/-! built-ins -/
theorem rE.list {g : GL} {σ : L2.St} {H : Hp} {Q : VK} (h : rE K (fL g fa) σ H Q) : tCB (rL K g) (rA K fa) σ H Q := by
  obtain ⟨as, ρ, M, d, M', sr, mr, ev, k⟩ := h
  unfold fL at ev
  obtain ⟨⟨ds, M1⟩, e1, ev⟩ := Option.bind_eq_some_iff.mp ev
  exact ⟨as, ρ, M, ds, _, sr, mr, e1, fun vs as1 H1 g1 m1 r1 => ⟨as1, M1, ds, d, M', m1, r1, ev, fun v as2 H2 g2 m2 r2 => k v as2 H2 (g1.trans g2) m2 r2⟩⟩
theorem se_callB {id : String} {g : GL} (hc : X.K = K → X.calm = true → CallR X (.builtin id) (rL K g)) (hg : Gl X x) (hm : X.mg x = none) (hv : bootBuiltins x = some (.builtin id)) (ha : SA K X (e :: es) fa) (hn : x ≠ "__name__" := by decide) (hdb : (x == ("__debug__" : Str)) = false := by decide)
    (he : starEach (e :: es) X.env = (false, eval e X.env) :: starEach es X.env := by rfl) (hpl : (backTo pos (starEach es X.env)).any (·.1) = false := by rfl) : SE K X (.Call (.Name x p) (e :: es) [] pos) (fL g fa) :=
  SE.imp (fun hK hq => pe_callB (hc hK hq) hg hm hv (ha hK hq) hn hdb he hpl) fun _ _ _ => rE.list
theorem se_callTy {T : String} {g : GL} (hc : X.K = K → X.calm = true → CallR X (.type T) (rL K g)) (hg : Gl X x) (hm : X.mg x = none) (hv : bootBuiltins x = some (.type T)) (ha : SA K X (e :: es) fa) (hn : x ≠ "__name__" := by decide) (hdb : (x == ("__debug__" : Str)) = false := by decide)
    (he : starEach (e :: es) X.env = (false, eval e X.env) :: starEach es X.env := by rfl) (hpl : (backTo pos (starEach es X.env)).any (·.1) = false := by rfl) : SE K X (.Call (.Name x p) (e :: es) [] pos) (fL g fa) :=
  SE.imp (fun hK hq => pe_callTy (hc hK hq) hg hm hv (ha hK hq) hn hdb he hpl) fun _ _ _ => rE.list
def bAbs : GL
  | [.int i], M => some (.int (if i < 0 then -i else i), M)
  | _, _ => none
def bMax : GL
  | [.int i, .int j], M => some (.int (if j > i then j else i), M)
  | _, _ => none
def bMin : GL
  | [.int i, .int j], M => some (.int (if j < i then j else i), M)
  | _, _ => none
def bInt : GL
  | [.int i], M => some (.int i, M)
  | [.bl k], M => some (.int (if k then 1 else 0), M)
  | _, _ => none
/-- the items of a list or tuple -/
def seqOf : D → Mem → Option (List D)
  | .tup ds, _ => some ds
  | .rol ds, _ => some ds
  | .rf i, M => match M[i]? with
    | some (.lst ds) => some ds
    | _ => none
  | _, _ => none
def bLen : GL
  | [.str z], M => if z.length ≤ 100000 then some (.int z.length, M) else none
  | [d], M => (seqOf d M).map fun ds => (.int ds.length, M)
  | _, _ => none
def bTuple : GL
  | [d], M => (seqOf d M).map fun ds => (.tup ds, M)
  | _, _ => none
def bList : GL
  | [d], M => (seqOf d M).map fun ds => (.rf M.length, M ++ [.lst ds])
  | _, _ => none
def D.ints : List D → Option (List Int)
  | [] => some []
  | .int i :: ds => (D.ints ds).map (i :: ·)
  | _ => none
def D.bls : List D → Option (List Bool)
  | [] => some []
  | .bl i :: ds => (D.bls ds).map (i :: ·)
  | _ => none
/-- the items of a list -/
def lstOf : D → Mem → Option (List D)
  | .rol ds, _ => some ds
  | .rf i, M => match M[i]? with
    | some (.lst ds) => some ds
    | _ => none
  | _, _ => none
def bSum : GL
  | [d], M => (lstOf d M).bind fun ds => (D.ints ds).map fun ns => (.int ns.sum, M)
  | _, _ => none
def bAll : GL
  | [d], M => (lstOf d M).bind fun ds => (D.bls ds).map fun bs => (.bl (bs.all id), M)
  | _, _ => none
def bAny : GL
  | [d], M => (lstOf d M).bind fun ds => (D.bls ds).map fun bs => (.bl (bs.any id), M)
  | _, _ => none
theorem D.ints_rel {as : List Addr} {H : Hp} : ∀ {vs : List V} {ds : List D} {ns : List Int}, VRs K as H vs ds → D.ints ds = some ns → vs = ns.map V.int
  | _, _, _, .nil, e => by cases e; rfl
  | _, _, _, .cons (.int i) hs, e => by
    simp only [D.ints, Option.map_eq_some_iff] at e
    obtain ⟨r, e, rfl⟩ := e
    rw [D.ints_rel hs e]; rfl
  | _, _, _, .cons .non hs, e => by cases e
  | _, _, _, .cons (.bl _) hs, e => by cases e
  | _, _, _, .cons (.str _) hs, e => by cases e
  | _, _, _, .cons (.ty _) hs, e => by cases e
  | _, _, _, .cons (.fn _) hs, e => by cases e
  | _, _, _, .cons (.tup _ _) hs, e => by cases e
  | _, _, _, .cons (.rol _ _) hs, e => by cases e
  | _, _, _, .cons (.rf _) hs, e => by cases e
theorem D.bls_rel {as : List Addr} {H : Hp} : ∀ {vs : List V} {ds : List D} {ns : List Bool}, VRs K as H vs ds → D.bls ds = some ns → vs = ns.map V.bl
  | _, _, _, .nil, e => by cases e; rfl
  | _, _, _, .cons (.bl i) hs, e => by
    simp only [D.bls, Option.map_eq_some_iff] at e
    obtain ⟨r, e, rfl⟩ := e
    rw [D.bls_rel hs e]; rfl
  | _, _, _, .cons .non hs, e => by cases e
  | _, _, _, .cons (.int _) hs, e => by cases e
  | _, _, _, .cons (.str _) hs, e => by cases e
  | _, _, _, .cons (.ty _) hs, e => by cases e
  | _, _, _, .cons (.fn _) hs, e => by cases e
  | _, _, _, .cons (.tup _ _) hs, e => by cases e
  | _, _, _, .cons (.rol _ _) hs, e => by cases e
  | _, _, _, .cons (.rf _) hs, e => by cases e
theorem seqOf_rel {as : List Addr} {H : Hp} {M : Mem} {v : V} {d : D} {ds : List D} (m : MR K as H M) (r : VR K as H v d) (e : seqOf d M = some ds) : ∃ a xs, v = .ref a ∧ (SqL K H a xs ∨ TupS K H a xs) ∧ VRs K as H xs ds := by
  cases r with
  | tup h hs => cases e; exact ⟨_, _, rfl, .inr h, hs⟩
  | rol h hs => cases e; exact ⟨_, _, rfl, .inl h.sq, hs⟩
  | rf h =>
    simp only [seqOf] at e
    split at e
    · rename_i ds' hd
      cases e
      obtain ⟨xs, q, r⟩ := m.lst h hd
      exact ⟨_, xs, rfl, .inl (SqL.of q), r⟩
    · cases e
  | _ => cases e
theorem lstOf_rel {as : List Addr} {H : Hp} {M : Mem} {v : V} {d : D} {ds : List D} (m : MR K as H M) (r : VR K as H v d) (e : lstOf d M = some ds) : ∃ a xs, v = .ref a ∧ SqL K H a xs ∧ VRs K as H xs ds := by
  cases r with
  | rol h hs => cases e; exact ⟨_, _, rfl, h.sq, hs⟩
  | rf h =>
    simp only [lstOf] at e
    split at e
    · rename_i ds' hd
      cases e
      obtain ⟨xs, q, r⟩ := m.lst h hd
      exact ⟨_, xs, rfl, SqL.of q, r⟩
    · cases e
  | _ => cases e
theorem cr_abs' : X.K = K → X.calm = true → CallR X (.builtin "abs") (rL K bAbs) := fun _ _ pins s σ H xs us Q I r hh => by
  obtain ⟨as, M, ds, d, M', m, q, ev, k⟩ := hh
  unfold bAbs at ev
  split at ev
  · cases ev
    cases q with
    | cons q qs =>
      cases qs
      cases q
      exact call_abs pins s σ H _ us Q I r ⟨_, rfl, k _ as H Gr.refl m (.int _)⟩
  · cases ev
theorem cr_max' : X.K = K → X.calm = true → CallR X (.builtin "max") (rL K bMax) := fun _ hc pins s σ H xs us Q I r hh => by
  obtain ⟨as, M, ds, d, M', m, q, ev, k⟩ := hh
  unfold bMax at ev
  split at ev
  · cases ev
    cases q with
    | cons q qs =>
      cases qs with
      | cons q2 qs =>
        cases qs
        cases q
        cases q2
        exact call_max2 hc pins s σ H _ us Q I r ⟨_, _, rfl, k _ as H Gr.refl m (.int _)⟩
  · cases ev
theorem cr_min' : X.K = K → X.calm = true → CallR X (.builtin "min") (rL K bMin) := fun _ hc pins s σ H xs us Q I r hh => by
  obtain ⟨as, M, ds, d, M', m, q, ev, k⟩ := hh
  unfold bMin at ev
  split at ev
  · cases ev
    cases q with
    | cons q qs =>
      cases qs with
      | cons q2 qs =>
        cases qs
        cases q
        cases q2
        exact call_min2 hc pins s σ H _ us Q I r ⟨_, _, rfl, k _ as H Gr.refl m (.int _)⟩
  · cases ev
theorem cr_int' : X.K = K → X.calm = true → CallR X (.type "int") (rL K bInt) := fun _ _ pins s σ H xs us Q I r hh => by
  obtain ⟨as, M, ds, d, M', m, q, ev, k⟩ := hh
  unfold bInt at ev
  split at ev
  · cases ev
    cases q with
    | cons q qs =>
      cases qs
      cases q
      exact call_int1 pins s σ H _ us Q I r (.inl ⟨_, rfl, k _ as H Gr.refl m (.int _)⟩)
  · cases ev
    cases q with
    | cons q qs =>
      cases qs
      cases q
      exact call_int1 pins s σ H _ us Q I r (.inr ⟨_, rfl, k _ as H Gr.refl m (.int _)⟩)
  · cases ev
theorem cr_len' : X.K = K → X.calm = true → CallR X (.builtin "len") (rL K bLen) := fun hK _ pins s σ H xs us Q I r hh => by
  subst hK
  obtain ⟨as, M, ds, d, M', m, q, ev, k⟩ := hh
  unfold bLen at ev
  split at ev
  · split at ev
    · rename_i hl
      cases ev
      cases q with
      | cons q qs =>
        cases qs
        cases q
        exact call_len pins s σ H _ us Q I r ⟨_, _, rfl, ⟨lim_ok hl, rfl⟩, k _ as H Gr.refl m (.int _)⟩
    · cases ev
  · cases q with
    | cons q qs =>
      cases qs
      obtain ⟨ds, e1, ev⟩ := Option.map_eq_some_iff.mp ev
      cases ev
      obtain ⟨a, xs, rfl, h, rs⟩ := seqOf_rel m q e1
      refine call_len_seq pins s σ H _ us Q I r ⟨a, xs, rfl, h.imp id TupS.sq, ?_⟩
      rw [rs.len]
      exact k _ as H Gr.refl m (.int _)
  · cases ev
theorem cr_tuple' : X.K = K → X.calm = true → CallR X (.type "tuple") (rL K bTuple) := fun hK _ pins s σ H xs us Q I r hh => by
  subst hK
  obtain ⟨as, M, ds, d, M', m, q, ev, k⟩ := hh
  unfold bTuple at ev
  split at ev
  · cases q with
    | cons q qs =>
      cases qs
      obtain ⟨ds, e1, ev⟩ := Option.map_eq_some_iff.mp ev
      cases ev
      obtain ⟨a, xs, rfl, h, rs⟩ := seqOf_rel m q e1
      refine call_tuple_of pins s σ H _ us Q I r ⟨a, xs, rfl, h.imp (fun h => ⟨h, fun l hl => ?_⟩) fun h => ⟨h.sq, k _ as H Gr.refl m (.tup h rs)⟩⟩
      have g : Gr as H as (upd H l (.tup xs)) := Gr.new hl
      exact k _ as _ g (m.new hl) (.tup (.inl upd_same) (rs.gr g))
  · cases ev
theorem cr_list' : X.K = K → X.calm = true → CallR X (.type "list") (rL K bList) := fun hK _ pins s σ H xs us Q I r hh => by
  subst hK
  obtain ⟨as, M, ds, d, M', m, q, ev, k⟩ := hh
  unfold bList at ev
  split at ev
  · cases q with
    | cons q qs =>
      cases qs
      obtain ⟨ds, e1, ev⟩ := Option.map_eq_some_iff.mp ev
      cases ev
      obtain ⟨a, xs, rfl, h, rs⟩ := seqOf_rel m q e1
      refine call_list_of pins s σ H _ us Q I r ⟨a, xs, rfl, h.imp id TupS.sq, fun l hl => ?_⟩
      have g : Gr as H (as ++ [l]) (upd H l (.lst xs)) := Gr.alloc hl
      exact k _ _ _ g (m.alloc hl ⟨_, upd_same, rs.gr g⟩) (.rf (by rw [← m.len]; simp))
  · cases ev
theorem cr_sum' : X.K = K → X.calm = true → CallR X (.builtin "sum") (rL K bSum) := fun hK hc pins s σ H xs us Q I r hh => by
  subst hK
  obtain ⟨as, M, ds, d, M', m, q, ev, k⟩ := hh
  unfold bSum at ev
  split at ev
  · cases q with
    | cons q qs =>
      cases qs
      obtain ⟨ds, e1, ev⟩ := Option.bind_eq_some_iff.mp ev
      obtain ⟨ns, e2, ev⟩ := Option.map_eq_some_iff.mp ev
      cases ev
      obtain ⟨a, xs, rfl, h, rs⟩ := lstOf_rel m q e1
      have := D.ints_rel rs e2
      subst this
      exact cr_sum hc pins s σ H _ us Q I r ⟨a, ns, rfl, h, k _ as H Gr.refl m (.int _)⟩
  · cases ev
theorem cr_all' : X.K = K → X.calm = true → CallR X (.builtin "all") (rL K bAll) := fun hK hc pins s σ H xs us Q I r hh => by
  subst hK
  obtain ⟨as, M, ds, d, M', m, q, ev, k⟩ := hh
  unfold bAll at ev
  split at ev
  · cases q with
    | cons q qs =>
      cases qs
      obtain ⟨ds, e1, ev⟩ := Option.bind_eq_some_iff.mp ev
      obtain ⟨ns, e2, ev⟩ := Option.map_eq_some_iff.mp ev
      cases ev
      obtain ⟨a, xs, rfl, h, rs⟩ := lstOf_rel m q e1
      have := D.bls_rel rs e2
      subst this
      exact cr_all hc pins s σ H _ us Q I r ⟨a, ns, rfl, h, k _ as H Gr.refl m (.bl _)⟩
  · cases ev
theorem cr_any' : X.K = K → X.calm = true → CallR X (.builtin "any") (rL K bAny) := fun hK hc pins s σ H xs us Q I r hh => by
  subst hK
  obtain ⟨as, M, ds, d, M', m, q, ev, k⟩ := hh
  unfold bAny at ev
  split at ev
  · cases q with
    | cons q qs =>
      cases qs
      obtain ⟨ds, e1, ev⟩ := Option.bind_eq_some_iff.mp ev
      obtain ⟨ns, e2, ev⟩ := Option.map_eq_some_iff.mp ev
      cases ev
      obtain ⟨a, xs, rfl, h, rs⟩ := lstOf_rel m q e1
      have := D.bls_rel rs e2
      subst this
      exact cr_any hc pins s σ H _ us Q I r ⟨a, ns, rfl, h, k _ as H Gr.refl m (.bl _)⟩
  · cases ev
/-! isinstance -/
def tyOf : D → Mem → Option String
  | .non, _ => some "NoneType"
  | .bl _, _ => some "bool"
  | .int _, _ => some "int"
  | .str _, _ => some "str"
  | .tup _, _ => some "tuple"
  | .rol _, _ => some "list"
  | .rf i, M => match M[i]? with
    | some (.lst _) => some "list"
    | some (.dK _) => some "dict"
    | _ => none
  | _, _ => none
theorem tyOf_rel {as : List Addr} {H : Hp} {M : Mem} {v : V} {d : D} {T : String} (m : MR K as H M) (r : VR K as H v d) (e : tyOf d M = some T) : TyX K H v (.type T) := by
  cases r with
  | non => cases e; exact .base .non
  | bl b => cases e; exact .base (.bl b)
  | int b => cases e; exact .base (.int b)
  | str b => cases e; exact .base (.str b)
  | ty b => cases e
  | fn b => cases e
  | tup h hs =>
    cases e
    rcases h with h | h
    · exact .base (.tup h)
    · rcases h (fun _ => none) with h | ⟨o, its, n, h1, h2, _⟩
      · rcases h with h | ⟨o, h⟩ <;> cases h
      · exact .kTuple h1 h2
  | rol h hs =>
    cases e
    rcases h with ⟨o, h⟩ | h
    · exact .base (.frz h)
    · rcases h (fun _ => none) with h | ⟨o, its, n, h1, h2, _⟩
      · rcases h with h | ⟨o, h⟩ <;> cases h
      · exact .kList h1 h2
  | @rf i a h =>
    simp only [tyOf] at e
    split at e
    · rename_i hd
      cases e
      obtain ⟨xs, q, _⟩ := m.cell i a _ h hd
      exact .base (.lst q)
    · rename_i hd
      cases e
      obtain ⟨xs, q, _⟩ := m.cell i a _ h hd
      exact .base (.dK q)
    · cases e
def bIsi : GL
  | [d, .ty T], M => (tyOf d M).bind fun t => (kitB t T).map fun b => (.bl b, M)
  | _, _ => none
theorem cr_isi' : X.K = K → X.calm = true → CallR X (.builtin "isinstance") (rL K bIsi) := fun hK hc pins s σ H xs us Q I r hh => by
  subst hK
  obtain ⟨as, M, ds, d, M', m, q, ev, k⟩ := hh
  unfold bIsi at ev
  split at ev
  · cases q with
    | cons q qs =>
      cases qs with
      | cons q2 qs =>
        cases qs
        cases q2
        obtain ⟨t, e1, ev⟩ := Option.bind_eq_some_iff.mp ev
        obtain ⟨b, e2, ev⟩ := Option.map_eq_some_iff.mp ev
        cases ev
        exact call_isi pins s σ H _ us Q I r ⟨_, _, _, _, b, rfl, .ty _, tyOf_rel m q e1, kit_ty e2, k _ as H Gr.refl m (.bl _)⟩
  · cases ev
/-! stores and methods of lists -/
def setAt (o i d : D) (M : Mem) : Option Mem := match o, i with
  | .rf l, .int k => match M[l]? with
    | some (.lst ds) => (ixN ds.length k).map fun j => M.set l (.lst (ds.set j d))
    | _ => none
  | _, _ => none
def sSub (fe fo fi : FE) : FS := fun ρ M => (fe ρ M).bind fun p => (fo ρ p.2).bind fun q => (fi ρ q.2).bind fun r => (setAt q.1 r.1 p.1 r.2).map fun M' => (.nx ρ, M')
theorem ss_sub {i : Expr} (he : SE K X e fe) (ho : SE K X o fo) (hi : SE K X i fi) (hs : swapsWithSole [.Subscript o i p] e pos.line X.env = pure false := by rfl) (hw : swappedStores [.Subscript o i p] e X.env = pure none := by rfl)
    (h1 : (assignEach [.Subscript o i p] X.env).map (·.2) = [assign (.Subscript o i p) X.env] := by rfl)
    (ha : ∀ v, assign (.Subscript o i p) X.env v = (do
      let ov ← holding [v] (eval o X.env)
      let iv ← holding [v, ov] (eval i X.env)
      standAt p
      holding [v, ov, iv] (setItem ov iv v)
      release [v, ov, iv] []) := by intro _; rfl) : SS K X (.Assign [.Subscript o i p] e pos) (sSub fe fo fi) := fun hK hc => ps_mono (ps_asg (he hK hc) (pg_sub (ho hK hc) (hi hK hc) set_list ha) hs hw h1) fun D σ H ⟨as, ρ, M, fl, M', sr, mr, ev, k⟩ => by
  unfold sSub at ev
  obtain ⟨⟨d, M1⟩, e1, ev⟩ := Option.bind_eq_some_iff.mp ev
  obtain ⟨⟨od, M2⟩, e2, ev⟩ := Option.bind_eq_some_iff.mp ev
  obtain ⟨⟨id, M3⟩, e3, ev⟩ := Option.bind_eq_some_iff.mp ev
  obtain ⟨M4, e4, ev⟩ := Option.map_eq_some_iff.mp ev
  cases ev
  refine ⟨as, ρ, M, d, M1, sr, mr, e1, fun v as1 H1 g1 m1 r1 => ⟨as1, ρ, M1, od, M2, sr.gr g1, m1, e2, fun u as2 H2 g2 m2 r2 => ⟨as2, ρ, M2, id, M3, (sr.gr g1).gr g2, m2, e3, fun w as3 H3 g3 m3 r3 => ?_⟩⟩⟩
  cases r2 with
  | @rf l a h =>
    cases r3 with
    | int kk =>
      simp only [setAt] at e4
      split at e4
      · rename_i ds hd
        obtain ⟨j, e5, e4⟩ := Option.map_eq_some_iff.mp e4
        subst e4
        have h := g3.gv.get h
        obtain ⟨xs, q, rs⟩ := m3.lst h hd
        have gw : Gr as3 H3 as3 (upd H3 a (.lst (xs.set j v))) := Gr.write m3 (List.mem_of_getElem? h)
        refine ⟨a, xs, kk, j, rfl, rfl, q, by rw [rs.len]; exact e5, ?_⟩
        exact k σ as3 _ (((g1.trans g2).trans g3).trans gw) (m3.write h ⟨_, upd_same, (rs.set (r1.gr (g2.trans g3)) j).gr gw⟩) ((((sr.gr g1).gr g2).gr g3).gr gw)
      · cases e4
    | _ => cases e4
  | _ => cases e4
/-- the receiver of a list's method -/
def isLst : D → Mem → Bool
  | .rf i, M => match M[i]? with
    | some (.lst _) => true
    | _ => false
  | .rol _, _ => true
  | _, _ => false
def fML (g : D → GL) (fo : FE) (fa : FA) : FE := fun ρ M => (fo ρ M).bind fun o => if isLst o.1 o.2 = true then (fa ρ o.2).bind fun p => g o.1 p.1 p.2 else none
theorem isLst_rel {as : List Addr} {H : Hp} {M : Mem} {v : V} {d : D} (m : MR K as H M) (r : VR K as H v d) (e : isLst d M = true) : tyV K "list" v H := by
  cases r with
  | rol h hs => exact .inl ⟨rfl, _, h.sq⟩
  | @rf i a h =>
    simp only [isLst] at e
    split at e
    · rename_i hd
      obtain ⟨xs, q, _⟩ := m.lst h hd
      exact .inl ⟨rfl, xs, SqL.of q⟩
    · cases e
  | _ => cases e
theorem rE.ml {g : D → GL} {σ : L2.St} {H : Hp} {Q : VK} (h : rE K (fML g fo fa) σ H Q) : tBM K "list" (rM K g) (rE K fo) (rA K fa) σ H Q := by
  obtain ⟨as, ρ, M, d, M', sr, mr, ev, k⟩ := h
  unfold fML at ev
  obtain ⟨⟨od, M1⟩, e1, ev⟩ := Option.bind_eq_some_iff.mp ev
  split at ev
  · rename_i hi
    obtain ⟨⟨ds, M2⟩, e2, ev⟩ := Option.bind_eq_some_iff.mp ev
    exact ⟨as, ρ, M, od, M1, sr, mr, e1, fun v as1 H1 g1 m1 r1 => ⟨isLst_rel m1 r1 hi, as1, ρ, M1, ds, M2, sr.gr g1, m1, e2, fun vs as2 H2 g2 m2 r2 => ⟨as2, M2, od, ds, d, M', m2, r1.gr g2, r2, ev, fun u as3 H3 g3 m3 r3 => k u as3 H3 ((g1.trans g2).trans g3) m3 r3⟩⟩⟩
  · cases ev
def mApp : D → GL
  | .rf l, [d], M => match M[l]? with
    | some (.lst ds) => if ds.length < 100000 then some (.non, M.set l (.lst (ds ++ [d]))) else none
    | _ => none
  | _, _, _ => none
theorem mr_append : X.K = K → X.calm = true → MtR X "list.append" (rM K mApp) := fun hK _ pins s σ H x xs v us Q I r1 r2 hh => by
  subst hK
  obtain ⟨as, M, dx, ds, d, M', m, q1, q2, ev, k⟩ := hh
  unfold mApp at ev
  split at ev
  · split at ev
    · rename_i ds hd
      split at ev
      · rename_i hl
        cases ev
        cases q1 with
        | @rf i a h =>
          cases q2 with
          | @cons y _ _ _ q q2 =>
            cases q2
            obtain ⟨ys, p1, rs⟩ := m.lst h hd
            have gw : Gr as H as (upd H a (.lst (ys ++ [y]))) := Gr.write m (List.mem_of_getElem? h)
            exact mt_append pins s σ H _ _ v us Q I r1 r2 ⟨a, ys, _, rfl, rfl, p1, Nat.lt_of_lt_of_le (by rw [rs.len]; exact hl) (lim_ok (Nat.le_refl _)), k _ as _ gw (m.write h ⟨_, upd_same, (rs.append (.cons q .nil)).gr gw⟩) .non⟩
      · cases ev
    · cases ev
  · cases ev
theorem se_app (ho : SE K X o fo) (ha : SA K X (e :: es) fa) (hbase : attributeBase o "append" X.env (eval o X.env) = eval o X.env := by rfl)
    (hfew : ((backTo cpos (starEach (e :: es) X.env)).all (fun x => !x.1) && (backToKw cpos (keywordEach [] X.env)).all (fun x => x.1.isSome)
      && decide ((e :: es).length + ([] : List Keyword).length + (if ([] : List Keyword).isEmpty then 0 else 1) < 30)) = true := by rfl)
    (hline : (apos.endLine == cpos.line) = true := by rfl) (hs : starEach (e :: es) X.env = (false, eval e X.env) :: starEach es X.env := by rfl) (hplain : (backTo cpos (starEach es X.env)).any (·.1) = false := by rfl) :
    SE K X (.Call (.Attribute o "append" apos) (e :: es) [] cpos) (fML mApp fo fa) := fun hK hc => by
  subst hK
  exact pe_mono (pe_bm PySem.F.plainAttrs_list PySem.F.slot_list_append PySem.F.type_list_append (mr_append rfl hc) (ho rfl hc) (ha rfl hc) hbase hfew hline hs hplain) fun _ _ _ => rE.ml
/-! slices -/
/-- as cutV, of the mirror's lists -/
def cutD (xs : List D) (lo hi : Option Int) : List D := (xs.drop (HT.sIx xs.length 0 lo)).take (HT.sIx xs.length xs.length hi - HT.sIx xs.length 0 lo)
def gSl : D → Option Int → Option Int → Mem → Option (D × Mem)
  | .tup ds, lo, hi, M => some (.tup (cutD ds lo hi), M)
  | .rol ds, lo, hi, M => some (.rf M.length, M ++ [.lst (cutD ds lo hi)])
  | .str z, lo, hi, M => if z.length ≤ 100000 then some (.str (cutS z lo hi), M) else none
  | .rf i, lo, hi, M => match M[i]? with
    | some (.lst ds) => some (.rf M.length, M ++ [.lst (cutD ds lo hi)])
    | _ => none
  | _, _, _, _ => none
theorem VRs.cut {as : List Addr} {H : Hp} {xs : List V} {ds : List D} {lo hi : Option Int} (h : VRs K as H xs ds) : VRs K as H (cutV xs lo hi) (cutD ds lo hi) := by
  unfold cutV cutD
  rw [h.len]
  exact (h.drop _).take _
def oF (o : Option FE) : Rho → Mem → Option (Option Int × Mem) := fun ρ M => match o with
  | none => some (none, M)
  | some f => (f ρ M).bind fun q => match q.1 with
    | .int i => some (some i, q.2)
    | _ => none
def rPO (K : PySem.W.Frag) (f : Rho → Mem → Option (Option Int × Mem)) : TO := fun σ H Q => ∃ as ρ M b M', SR K as H σ ρ ∧ MR K as H M ∧ f ρ M = some (b, M') ∧ ∀ as' H', Gr as H as' H' → MR K as' H' M' → Q b H'
def SPO (K : PySem.W.Frag) (X : Cx) (e : Option Expr) (f : Option FE) : Prop := X.K = K → X.calm = true → PO X e (rPO K (oF f))
theorem po_mono {e : Option Expr} {t t' : TO} (h : PO X e t) (m : ∀ σ H Q, t' σ H Q → t σ H Q) : PO X e t' := ⟨fun pins s σ H Q I q => h.run pins s σ H Q I (m σ H Q q)⟩
theorem spo_none : SPO K X none none := fun _ _ => po_mono po_none fun σ H Q ⟨as, ρ, M, b, M', sr, mr, ev, k⟩ => by
  cases ev
  exact k as H Gr.refl mr
theorem spo_some (he : SE K X e fe) : SPO K X (some e) (some fe) := fun hK hc => po_mono (po_some (he hK hc)) fun σ H Q ⟨as, ρ, M, b, M', sr, mr, ev, k⟩ => by
  unfold oF at ev
  dsimp only at ev
  obtain ⟨⟨d, M1⟩, e1, ev⟩ := Option.bind_eq_some_iff.mp ev
  refine ⟨as, ρ, M, d, M1, sr, mr, e1, fun v as1 H1 g1 m1 r1 => ?_⟩
  cases r1 with
  | int i => cases ev; exact ⟨i, rfl, k as1 H1 g1 m1⟩
  | _ => cases ev
theorem slr (hK : X.K = K) : SlR X (fun x lo hi H Q => ∃ as M dx d M', MR K as H M ∧ VR K as H x dx ∧ gSl dx lo hi M = some (d, M') ∧ ∀ v as' H', Gr as H as' H' → MR K as' H' M' → VR K as' H' v d → Q v H') := by
  subst hK
  have base := SlR.or (sl_tupA (X := X)) (SlR.or (sl_list (X := X)) (sl_str (X := X)))
  intro pins s σ H x v vl vu lo hi sl Q I rx h1 h2 h3 hh
  refine base pins s σ H x v vl vu lo hi sl Q I rx h1 h2 h3 ?_
  obtain ⟨as, M, dx, d, M', m, q, ev, k⟩ := hh
  cases q with
  | @tup a xs ds h hs =>
    cases ev
    refine .inl ⟨a, xs, rfl, h.sq, fun z => ?_, fun z l hl => ?_⟩
    · have e : cutD ds lo hi = ds := by
        unfold cutD
        rw [← hs.len, z.1, z.2, hs.len]
        simp
      rw [e] at k
      exact k _ as H Gr.refl m (.tup h hs)
    · have g : Gr as H as (upd H l (.tup (cutV xs lo hi))) := Gr.new hl
      exact k _ as _ g (m.new hl) (.tup (.inl upd_same) (hs.cut.gr g))
  | @rol a xs ds h hs =>
    cases ev
    refine .inr (.inl ⟨a, xs, rfl, h.sq, fun l hl => ?_⟩)
    have g : Gr as H (as ++ [l]) (upd H l (.lst (cutV xs lo hi))) := Gr.alloc hl
    exact k _ _ _ g (m.alloc hl ⟨_, upd_same, hs.cut.gr g⟩) (.rf (by rw [← m.len]; simp))
  | str z =>
    simp only [gSl] at ev
    split at ev
    · rename_i hl
      cases ev
      exact .inr (.inr ⟨z, rfl, lim_ok hl, k _ as H Gr.refl m (.str _)⟩)
    · cases ev
  | @rf i a h =>
    simp only [gSl] at ev
    split at ev
    · rename_i ds hd
      cases ev
      obtain ⟨xs, p1, hs⟩ := m.lst h hd
      refine .inr (.inl ⟨a, xs, rfl, SqL.of p1, fun l hl => ?_⟩)
      have g : Gr as H (as ++ [l]) (upd H l (.lst (cutV xs lo hi))) := Gr.alloc hl
      exact k _ _ _ g (m.alloc hl ⟨_, upd_same, hs.cut.gr g⟩) (.rf (by rw [← m.len]; simp))
    · cases ev
  | _ => cases ev
def fSli (fe : FE) (lo hi : Option FE) : FE := fun ρ M => (fe ρ M).bind fun p => (oF lo ρ p.2).bind fun q => (oF hi ρ q.2).bind fun r => gSl p.1 q.1 r.1 r.2
theorem se_slice {lo hi : Option Expr} {fl fh : Option FE} {p2 : Pos} (he : SE K X e fe) (hl : SPO K X lo fl) (hh : SPO K X hi fh) : SE K X (.Subscript e (.Slice lo hi none p2) pos) (fSli fe fl fh) :=
  SE.imp (fun hK hc => pe_slice (slr hK) (he hK hc) (hl hK hc) (hh hK hc)) fun σ H Q ⟨as, ρ, M, d, M', sr, mr, ev, k⟩ => by
    obtain ⟨⟨x, M1⟩, e1, ev⟩ := Option.bind_eq_some_iff.mp ev
    obtain ⟨⟨a, M2⟩, e2, ev⟩ := Option.bind_eq_some_iff.mp ev
    obtain ⟨⟨b, M3⟩, e3, ev⟩ := Option.bind_eq_some_iff.mp ev
    exact ⟨as, ρ, M, x, M1, sr, mr, e1, fun v as1 H1 g1 m1 r1 => ⟨as1, ρ, M1, a, M2, sr.gr g1, m1, e2, fun as2 H2 g2 m2 => ⟨as2, ρ, M2, b, M3, (sr.gr g1).gr g2, m2, e3, fun as3 H3 g3 m3 => ⟨as3, M3, x, d, M', m3, (r1.gr g2).gr g3, ev, fun w as4 H4 g4 m4 r4 => k w as4 H4 (((g1.trans g2).trans g3).trans g4) m4 r4⟩⟩⟩⟩
end

/-! ### ends -/
section
variable {P : Program} {w : World} {K : PySem.W.Frag} {mg : Str → Option Value} {base : Heap} {k n : Nat} {f : Addr} {fd : FuncData} {ps : List Str}
theorem ok0P : FnOk P w K mg base CX0 k f fd ps (spP K n fun _ => none) where
  len := fun _ _ _ _ ⟨_, _, _, _, e, _⟩ => by cases e
  run := fun _ _ _ _ _ _ _ _ _ _ _ _ _ ⟨_, _, _, _, e, _⟩ => by cases e
theorem ok0M : FnOk P w K mg base CX0 k f fd ps (spM K n fun _ _ => none) where
  len := fun _ _ _ _ ⟨_, _, _, _, _, _, _, _, e, _⟩ => by cases e
  run := fun _ _ _ _ _ _ _ _ _ _ _ _ _ ⟨_, _, _, _, _, _, _, _, e, _⟩ => by cases e
theorem vr_written {as : List Addr} {H : Hp} {q : Addr} {od : Option Addr} {its : Array Value} {n : Nat} {sl : Array (Option Value)} {xs : List V} {ds : List D}
    (k : K.lookup q = some ⟨.type "tuple", od, .seq its n, sl⟩) (hz : its.size ≤ sizeLine) (hd : VRs K as H xs ds) (rel : Vals xs its.toList) : VR K as H (.ref q) (.tup ds) :=
  .tup (.inr fun _ => .inr ⟨_, its, n, k, rfl, rfl, hz, rel⟩) hd
theorem ints_vr {as : List Addr} {H : Hp} : ∀ ns : List Int, VRs K as H (ns.map V.int) (ns.map D.int)
  | [] => .nil
  | n :: ns => .cons (.int n) (ints_vr ns)
theorem law_sp {m : GL} (h : ∀ ns : List Int, ns.length ≤ 63 → ∃ M, m [.rol (ns.map D.int)] [] = some (.bl true, M)) {vs : List V} {H : Hp} {Q : VK} {E : XK}
    (q : ∃ (a : Addr) (ns : List Int), vs = [.ref a] ∧ Only H ∧ SqL K H a (ns.map V.int) ∧ ns.length ≤ 63 ∧ ∀ H', Q (.bl true) H') : spM K 1 m vs H Q E := by
  obtain ⟨a, ns, rfl, hO, hS, hl, k⟩ := q
  obtain ⟨M, e⟩ := h ns hl
  have r : RolS K H a (ns.map V.int) := by
    rcases hS with hS | hS
    · rcases hS with hS | ⟨o, hS⟩
      · rcases hO a with z | ⟨o, xs, z⟩ <;> rw [hS] at z <;> cases z
      · exact .inl ⟨o, hS⟩
    · exact .inr fun _ => .inr hS
  refine ⟨[], [], _, _, M, rfl, MR.nil, .cons (.rol r (ints_vr ns)) .nil, e, fun v as' H' g m rv => ?_⟩
  cases rv
  exact k H'
end
section
variable {K : PySem.W.Frag} {X : Cx} {e : Expr} {es : List Expr} {fe : FE} {fr : FA} {pos p tpos p1 p2 : Pos}
theorem st_chain {op op' : CmpOp} {g g' : G2} {a b c : Expr} {fa fb fc : FE} (ho : X.K = K → OpR X (compareOp op) (rO K g)) (ho' : X.K = K → OpR X (compareOp op') (rO K g')) (ha : SE K X a fa) (hb : SE K X b fb) (hc : SE K X c fc)
    (hm : lastMarks [op, op'] [b, c] = false := by with_unfolding_all rfl) : ST K X (.Compare a [op, op'] [b, c] pos) (tV (fCh g g' fa fb fc)) :=
  fun hK hq => pt_mono (pt_chain (ho hK) (ho' hK) (ha hK hq) (hb hK hq) (hc hK hq) hm) fun σ H Q ⟨as, ρ, M, d, M', sr, mr, ev, k⟩ => by
    unfold tV at ev
    obtain ⟨⟨x, M1⟩, e1, ev⟩ := Option.bind_eq_some_iff.mp ev
    unfold fCh at e1
    obtain ⟨⟨x0, M2⟩, e2, e1⟩ := Option.bind_eq_some_iff.mp e1
    obtain ⟨⟨y0, M3⟩, e3, e1⟩ := Option.bind_eq_some_iff.mp e1
    obtain ⟨⟨z0, M4⟩, e4, e1⟩ := Option.bind_eq_some_iff.mp e1
    refine ⟨as, ρ, M, x0, M2, sr, mr, e2, fun v as1 H1 g1 m1 r1 => ⟨as1, ρ, M2, y0, M3, sr.gr g1, m1, e3, fun u as2 H2 g2 m2 r2 => ⟨as2, M3, x0, y0, z0, M4, m2, r1.gr g2, r2, e4, fun w as3 H3 g3 m3 r3 => ?_⟩⟩⟩
    cases z0 with
    | bl kk =>
      cases r3
      refine ⟨kk, rfl, ?_⟩
      dsimp only at e1
      cases kk with
      | true =>
        rw [if_pos rfl] at e1
        refine ite_y rfl ?_
        obtain ⟨⟨s, M5⟩, e5, e1⟩ := Option.bind_eq_some_iff.mp e1
        refine ⟨as3, ρ, M4, s, M5, ((sr.gr g1).gr g2).gr g3, m3, e5, fun q as4 H4 g4 m4 r4 => ⟨as4, M5, y0, s, x, M1, m4, (r2.gr g3).gr g4, r4, e1, fun p as5 H5 g5 m5 r5 => ?_⟩⟩
        cases x with
        | bl b =>
          cases ev
          cases r5
          exact ⟨_, rfl, k as5 H5 ((((g1.trans g2).trans g3).trans g4).trans g5) m5⟩
        | _ => cases ev
      | false =>
        rw [if_neg (fun z => nomatch z)] at e1
        refine ite_n (fun z => nomatch z) ?_
        cases e1
        cases ev
        exact ⟨false, rfl, k as3 H3 ((g1.trans g2).trans g3) m3⟩
    | _ => cases e1
/-- isinstance(x, (tuple, list)) -/
def isTL : D → Mem → Option Bool
  | d, M => (tyOf d M).map fun t => t == "tuple" || t == "list"
def gTL : G1 := fun d M => (tyOf d M).bind fun t => (kitB t "tuple").bind fun a => (kitB t "list").map fun b => (.bl (a || b), M)
theorem se_isTL (hg : Gl X "isinstance") (hm : X.mg "isinstance" = none) (hg1 : Gl X "tuple") (hm1 : X.mg "tuple" = none) (hg2 : Gl X "list") (hm2 : X.mg "list" = none) {kk : Nat} (he : SE K X e fe)
    (h1 : starEach [e, .Tuple [.Name "tuple" p1, .Name "list" p2] kk tpos] X.env = (false, eval e X.env) :: starEach [.Tuple [.Name "tuple" p1, .Name "list" p2] kk tpos] X.env := by rfl)
    (h2 : (backTo pos (starEach [.Tuple [.Name "tuple" p1, .Name "list" p2] kk tpos] X.env)).any (·.1) = false := by rfl)
    (h3 : starEach [.Tuple [.Name "tuple" p1, .Name "list" p2] kk tpos] X.env = (false, eval (.Tuple [.Name "tuple" p1, .Name "list" p2] kk tpos) X.env) :: starEach [] X.env := by rfl)
    (h4 : starEach [.Name "tuple" p1, .Name "list" p2] X.env = (false, eval (.Name "tuple" p1) X.env) :: starEach [.Name "list" p2] X.env := by rfl)
    (h5 : starEach [.Name "list" p2] X.env = (false, eval (.Name "list" p2) X.env) :: starEach [] X.env := by rfl) :
    SE K X (.Call (.Name "isinstance" p) [e, .Tuple [.Name "tuple" p1, .Name "list" p2] kk tpos] [] pos) (fU gTL fe) := fun hK hc => by
  subst hK
  have ht : PE X (.Name "tuple" p1) (tC (.ty "tuple")) := pe_bltn (v := .ty "tuple") hg1 hm1 (by decide +kernel) rfl
  have hl : PE X (.Name "list" p2) (tC (.ty "list")) := pe_bltn (v := .ty "list") hg2 hm2 (by decide +kernel) rfl
  refine pe_mono (pe_callB call_isiT hg hm (by decide +kernel) (pa_cons (he rfl hc) (pa_cons (pe_tup (pa_cons ht (pa_cons hl pa_nil h5) h4)) pa_nil h3) h1) (by decide) (by decide) h1 h2) fun σ H Q ⟨as, ρ, M, d, M', sr, mr, ev, k⟩ => ?_
  unfold fU at ev
  obtain ⟨⟨x, M1⟩, e1, ev⟩ := Option.bind_eq_some_iff.mp ev
  simp only [gTL, Option.bind_eq_some_iff, Option.map_eq_some_iff] at ev
  obtain ⟨t, e2, a, e3, b, e4, ev⟩ := ev
  cases ev
  refine ⟨as, ρ, M, x, _, sr, mr, e1, fun v as1 H1 g1 m1 r1 => ⟨lim_ok (show 2 ≤ 100000 by decide), fun T hT => ?_⟩⟩
  have g2 : Gr as1 H1 as1 (upd H1 T (.tup [.ty "tuple", .ty "list"])) := Gr.new hT
  refine ⟨v, T, _, _, _, a || b, rfl, upd_same, .cons (.ty _) (.cons (.ty _) .nil), tyOf_rel (m1.new hT) (r1.gr g2) e2, ?_, k _ as1 _ (g1.trans g2) (m1.new hT) (.bl _)⟩
  refine kitAny_cons (kit_ty e3) (fun z => ?_) fun z => by rw [z]; rfl
  subst z
  refine kitAny_cons (kit_ty e4) (fun z => ?_) fun z => by rw [z]; rfl
  subst z
  rfl
end

/-! ### the mirror run by rewriting: what follows is always a named thing, so that nothing is looked at ahead of its turn -/
def ob {α β : Type} (x : Option α) (f : α → Option β) : Option β := x.bind f
theorem ob_s {α β : Type} (a : α) (f : α → Option β) : ob (some a) f = f a := rfl
theorem ob_n {α β : Type} (f : α → Option β) : ob none f = none := rfl
def vOf : Option (Option D) → Mem → Option (D × Mem)
  | some (some d), M => some (d, M)
  | _, _ => none
def kO2 (g : G2) (d : D) (p : D × Mem) : Option (D × Mem) := g d p.1 p.2
def kO (g : G2) (fb : FE) (ρ : Rho) (p : D × Mem) : Option (D × Mem) := ob (fb ρ p.2) (kO2 g p.1)
def kU (g : G1) (p : D × Mem) : Option (D × Mem) := g p.1 p.2
def kCons2 (d : D) (p : List D × Mem) : Option (List D × Mem) := some (d :: p.1, p.2)
def kCons (fr : FA) (ρ : Rho) (p : D × Mem) : Option (List D × Mem) := ob (fr ρ p.2) (kCons2 p.1)
def kL (g : GL) (p : List D × Mem) : Option (D × Mem) := g p.1 p.2
def kIf (fa fb : FE) (ρ : Rho) (p : Bool × Mem) : Option (D × Mem) := if p.1 = true then fa ρ p.2 else fb ρ p.2
def kB (p : D × Mem) : Option (Bool × Mem) := match p.1 with
  | .bl b => some (b, p.2)
  | _ => none
def kTr2 (M : Mem) (b : Bool) : Option (Bool × Mem) := some (b, M)
def kTr (p : D × Mem) : Option (Bool × Mem) := ob (gTru p.1 p.2) (kTr2 p.2)
def kAn (tb : FT) (ρ : Rho) (p : Bool × Mem) : Option (Bool × Mem) := if p.1 = true then tb ρ p.2 else some (false, p.2)
def kOr (tb : FT) (ρ : Rho) (p : Bool × Mem) : Option (Bool × Mem) := if p.1 = true then some (true, p.2) else tb ρ p.2
def kNo (p : Bool × Mem) : Option (Bool × Mem) := some (!p.1, p.2)
def kNotB (p : D × Mem) : Option (D × Mem) := match p.1 with
  | .bl b => some (.bl (!b), p.2)
  | _ => none
def kAnB (fb : FE) (ρ : Rho) (p : D × Mem) : Option (D × Mem) := match p.1 with
  | .bl c => if c = true then fb ρ p.2 else some (.bl false, p.2)
  | _ => none
def kOrB (fb : FE) (ρ : Rho) (p : D × Mem) : Option (D × Mem) := match p.1 with
  | .bl c => if c = true then some (.bl true, p.2) else fb ρ p.2
  | _ => none
def kTup (p : List D × Mem) : Option (D × Mem) := if p.1.length ≤ 100000 then some (.tup p.1, p.2) else none
def kLst (p : List D × Mem) : Option (D × Mem) := if p.1.length ≤ 100000 then some (.rf p.2.length, p.2 ++ [.lst p.1]) else none
def kD (M : Mem) (d : D) : Option (D × Mem) := some (d, M)
def kCP (m : List D → Option D) (p : List D × Mem) : Option (D × Mem) := ob (m p.1) (kD p.2)
def kML2 (g : D → GL) (d : D) (p : List D × Mem) : Option (D × Mem) := g d p.1 p.2
def kML (g : D → GL) (fr : FA) (ρ : Rho) (p : D × Mem) : Option (D × Mem) := if isLst p.1 p.2 = true then ob (fr ρ p.2) (kML2 g p.1) else none
def kS3 (d : D) (o : Option Int) (p : Option Int × Mem) : Option (D × Mem) := gSl d o p.1 p.2
def kS2 (hi : Option FE) (ρ : Rho) (d : D) (p : Option Int × Mem) : Option (D × Mem) := ob (oF hi ρ p.2) (kS3 d p.1)
def kS1 (lo hi : Option FE) (ρ : Rho) (p : D × Mem) : Option (D × Mem) := ob (oF lo ρ p.2) (kS2 hi ρ p.1)
def kI (p : D × Mem) : Option (Option Int × Mem) := match p.1 with
  | .int i => some (some i, p.2)
  | _ => none
def kCh3 (g' : G2) (fc : FE) (ρ : Rho) (e : D) (p : D × Mem) : Option (D × Mem) := match p.1 with
  | .bl k => if k = true then ob (fc ρ p.2) (kO2 g' e) else some (.bl false, p.2)
  | _ => none
def kCh2 (g g' : G2) (fc : FE) (ρ : Rho) (d : D) (p : D × Mem) : Option (D × Mem) := ob (g d p.1 p.2) (kCh3 g' fc ρ p.1)
def kCh1 (g g' : G2) (fb fc : FE) (ρ : Rho) (p : D × Mem) : Option (D × Mem) := ob (fb ρ p.2) (kCh2 g g' fc ρ p.1)
/-- what follows a statement -/
def then_ (b : FS) (p : Fl × Mem) : Option (Fl × Mem) := match p.1 with
  | .nx ρ1 => b ρ1 p.2
  | fl => some (fl, p.2)
def kNx (M : Mem) (ρ : Rho) : Option (Fl × Mem) := some (.nx ρ, M)
def kAsg (g : FG) (ρ : Rho) (p : D × Mem) : Option (Fl × Mem) := ob (g p.1 ρ) (kNx p.2)
def par2 (i j : Nat) (ρ : Rho) (p : List D × Mem) : Option (Fl × Mem) := match p.1 with
  | [d, e] => some (.nx ((ρ.set i (some d)).set j (some e)), p.2)
  | _ => none
def kRet (p : D × Mem) : Option (Fl × Mem) := some (.rt p.1, p.2)
def kDrop (ρ : Rho) (p : D × Mem) : Option (Fl × Mem) := some (.nx ρ, p.2)
def kSif (sa sb : FS) (ρ : Rho) (p : Bool × Mem) : Option (Fl × Mem) := if p.1 = true then sa ρ p.2 else sb ρ p.2
def kNxM (ρ : Rho) (M : Mem) : Option (Fl × Mem) := some (.nx ρ, M)
def kSub3 (ρ : Rho) (d o : D) (p : D × Mem) : Option (Fl × Mem) := ob (setAt o p.1 d p.2) (kNxM ρ)
def kSub2 (fx : FE) (ρ : Rho) (d : D) (p : D × Mem) : Option (Fl × Mem) := ob (fx ρ p.2) (kSub3 ρ d p.1)
def kSub1 (fo fx : FE) (ρ : Rho) (p : D × Mem) : Option (Fl × Mem) := ob (fo ρ p.2) (kSub2 fx ρ p.1)
noncomputable def kFor (g : FG) (b : FS) (ρ : Rho) (p : Src × Mem) : Option (Fl × Mem) := runG p.1.2 (bodyG g b) p.1.1 ρ p.2
/-- a turn's end -/
def turn (k : Rho → Mem → Option (Fl × Mem)) (q : Fl × Mem) : Option (Fl × Mem) := match q.1 with
  | .nx ρ1 => k ρ1 q.2
  | .ct ρ1 => k ρ1 q.2
  | .bk ρ1 => some (.nx ρ1, q.2)
  | .rt d => some (.rt d, q.2)
def kBody (b : FS) (M : Mem) (ρ : Rho) : Option (Fl × Mem) := b ρ M
def kSrc (M : Mem) (s : Src) : Option (Src × Mem) := some (s, M)
def kIE (p : D × Mem) : Option (Src × Mem) := ob (itemsOf p.1 p.2) (kSrc p.2)
def kR1 (p : D × Mem) : Option (Src × Mem) := match p.1 with
  | .int j => if j ≤ 100000 ∧ -100000 ≤ j then some ((upto 0 j.toNat, fun _ => True), p.2) else none
  | _ => none
def kR2b (d : D) (p : D × Mem) : Option (Src × Mem) := match d, p.1 with
  | .int i, .int j => if j ≤ 100000 ∧ -100000 ≤ i ∧ -100000 ≤ j ∧ i ≤ 100000 then some ((upto i (j - i).toNat, fun _ => True), p.2) else none
  | _, _ => none
def kR2 (fb : FE) (ρ : Rho) (p : D × Mem) : Option (Src × Mem) := ob (fb ρ p.2) (kR2b p.1)
def kZ2 (d : D) (p : D × Mem) : Option (Src × Mem) := ob (zipOf d p.1 p.2) (kSrc p.2)
def kZ1 (fb : FE) (ρ : Rho) (p : D × Mem) : Option (Src × Mem) := ob (fb ρ p.2) (kZ2 p.1)
def enOf : D → Mem → Option Src
  | .rf j, M => match M[j]? with
    | some (.lst ds) => some (numbered ds, fun M' => M'[j]? = some (.lst ds))
    | _ => none
  | .rol ds, _ => some (numbered ds, fun _ => True)
  | _, _ => none
def kEn (p : D × Mem) : Option (Src × Mem) := ob (enOf p.1 p.2) (kSrc p.2)
def kMap2 (od : Option D) (p : List D × Mem) : Option (List D × Mem) := some (od.toList ++ p.1, p.2)
noncomputable def kMap (gd : Mem → Prop) (it : D → Mem → Option (Option D × Mem)) (ds : List D) (p : Option D × Mem) : Option (List D × Mem) := ob (mapG gd it ds p.2) (kMap2 p.1)
def kSome (p : D × Mem) : Option (Option D × Mem) := some (some p.1, p.2)
def kIt2 (te : FE) (ρ : Rho) (p : Bool × Mem) : Option (Option D × Mem) := if p.1 = true then ob (te ρ p.2) kSome else some (none, p.2)
def kIt1 (tt : FT) (te : FE) (M : Mem) (ρ : Rho) : Option (Option D × Mem) := ob (tt ρ M) (kIt2 te ρ)
def kLc2 (n : Nat) (p : List D × Mem) : Option (D × Mem) := if n ≤ 100000 then some (.rf p.2.length, p.2 ++ [.lst p.1]) else none
noncomputable def kLc (g : FG) (tt : FT) (te : FE) (vs : List Nat) (ρ : Rho) (p : Src × Mem) : Option (D × Mem) := ob (mapG p.1.2 (itemG g tt te (wipeD ρ vs)) p.1.1 p.2) (kLc2 p.1.1.length)
def finP (p : Fl × Mem) : Option D := match p.1 with
  | .rt d => if d.imm = true then some d else none
  | .nx _ => some .non
  | _ => none
def finM (p : Fl × Mem) : Option (D × Mem) := match p.1 with
  | .rt d => some (d, p.2)
  | .nx _ => some (.non, p.2)
  | _ => none
def kGc (n : Nat) (p : D × Mem) : Option (D × Mem) := some (gc n p)
section
variable (ρ : Rho) (M : Mem) (i j n : Nat) (d e : D) (b : Bool) (ds : List D) (g g' : G2) (g1 : G1) (gl : GL) (fa fb fc : FE) (fr : FA) (ta tb : FT) (sa sb : FS) (gt : FG) (gs : FGs) (fi : FI)
theorem ev_V : fV i ρ M = vOf ρ[i]? M := by
  unfold fV vOf
  cases ρ[i]? with
  | none => rfl
  | some o => cases o <;> rfl
theorem vOf_e : vOf (some (some d)) M = some (d, M) := rfl
theorem ev_C : fC d ρ M = some (d, M) := rfl
theorem ev_O : fO g fa fb ρ M = ob (fa ρ M) (kO g fb ρ) := rfl
theorem kO_e : kO g fb ρ (d, M) = ob (fb ρ M) (kO2 g d) := rfl
theorem kO2_e : kO2 g d (e, M) = g d e M := rfl
theorem ev_U : fU g1 fa ρ M = ob (fa ρ M) (kU g1) := rfl
theorem kU_e : kU g1 (d, M) = g1 d M := rfl
theorem ev_Nil : fNil ρ M = some ([], M) := rfl
theorem ev_Cons : fCons fa fr ρ M = ob (fa ρ M) (kCons fr ρ) := rfl
theorem kCons_e : kCons fr ρ (d, M) = ob (fr ρ M) (kCons2 d) := rfl
theorem kCons2_e : kCons2 d (ds, M) = some (d :: ds, M) := rfl
theorem ev_L : fL gl fr ρ M = ob (fr ρ M) (kL gl) := rfl
theorem kL_e : kL gl (ds, M) = gl ds M := rfl
theorem ev_If : fIf ta fa fb ρ M = ob (ta ρ M) (kIf fa fb ρ) := rfl
theorem kIf_t : kIf fa fb ρ (true, M) = fa ρ M := rfl
theorem kIf_f : kIf fa fb ρ (false, M) = fb ρ M := rfl
theorem ev_tV : tV fa ρ M = ob (fa ρ M) kB := rfl
theorem kB_e : kB (.bl b, M) = some (b, M) := rfl
theorem ev_tTr : tTr fa ρ M = ob (fa ρ M) kTr := by
  unfold tTr ob kTr
  cases fa ρ M with
  | none => rfl
  | some p => simp only [Option.bind_some, ob, Option.map_eq_bind]; rfl
theorem kTr_e : kTr (d, M) = ob (gTru d M) (kTr2 M) := rfl
theorem kTr2_e : kTr2 M b = some (b, M) := rfl
theorem ev_tAn : tAn ta tb ρ M = ob (ta ρ M) (kAn tb ρ) := rfl
theorem kAn_t : kAn tb ρ (true, M) = tb ρ M := rfl
theorem kAn_f : kAn tb ρ (false, M) = some (false, M) := rfl
theorem ev_tOr : tOr2 ta tb ρ M = ob (ta ρ M) (kOr tb ρ) := rfl
theorem kOr_t : kOr tb ρ (true, M) = some (true, M) := rfl
theorem kOr_f : kOr tb ρ (false, M) = tb ρ M := rfl
theorem ev_tNo : tNo ta ρ M = ob (ta ρ M) kNo := rfl
theorem kNo_e : kNo (b, M) = some (!b, M) := rfl
theorem ev_NotB : fNotB fa ρ M = ob (fa ρ M) kNotB := rfl
theorem kNotB_e : kNotB (.bl b, M) = some (.bl (!b), M) := rfl
theorem ev_AnB : fAnB fa fb ρ M = ob (fa ρ M) (kAnB fb ρ) := rfl
theorem kAnB_t : kAnB fb ρ (.bl true, M) = fb ρ M := rfl
theorem kAnB_f : kAnB fb ρ (.bl false, M) = some (.bl false, M) := rfl
theorem ev_OrB : fOrB fa fb ρ M = ob (fa ρ M) (kOrB fb ρ) := rfl
theorem kOrB_t : kOrB fb ρ (.bl true, M) = some (.bl true, M) := rfl
theorem kOrB_f : kOrB fb ρ (.bl false, M) = fb ρ M := rfl
theorem ev_Tup : fTup fr ρ M = ob (fr ρ M) kTup := rfl
theorem kTup_e : kTup (ds, M) = if ds.length ≤ 100000 then some (.tup ds, M) else none := rfl
theorem ev_Lst : fLst fr ρ M = ob (fr ρ M) kLst := rfl
theorem kLst_e : kLst (ds, M) = if ds.length ≤ 100000 then some (.rf M.length, M ++ [.lst ds]) else none := rfl
theorem ev_CP (m : List D → Option D) : fCP m fr ρ M = ob (fr ρ M) (kCP m) := by
  unfold fCP ob kCP
  cases fr ρ M with
  | none => rfl
  | some p => simp only [Option.bind_some, ob, Option.map_eq_bind]; rfl
theorem kCP_e (m : List D → Option D) : kCP m (ds, M) = ob (m ds) (kD M) := rfl
theorem kD_e : kD M d = some (d, M) := rfl
theorem ev_ML (mg : D → GL) : fML mg fa fr ρ M = ob (fa ρ M) (kML mg fr ρ) := rfl
theorem kML_e (mg : D → GL) : kML mg fr ρ (d, M) = if isLst d M = true then ob (fr ρ M) (kML2 mg d) else none := rfl
theorem kML2_e (mg : D → GL) : kML2 mg d (ds, M) = mg d ds M := rfl
theorem ev_Sli (lo hi : Option FE) : fSli fa lo hi ρ M = ob (fa ρ M) (kS1 lo hi ρ) := rfl
theorem kS1_e (lo hi : Option FE) : kS1 lo hi ρ (d, M) = ob (oF lo ρ M) (kS2 hi ρ d) := rfl
theorem kS2_e (hi : Option FE) (o : Option Int) : kS2 hi ρ d (o, M) = ob (oF hi ρ M) (kS3 d o) := rfl
theorem kS3_e (o o' : Option Int) : kS3 d o (o', M) = gSl d o o' M := rfl
theorem ev_oN : oF none ρ M = some (none, M) := rfl
theorem ev_oS : oF (some fa) ρ M = ob (fa ρ M) kI := rfl
theorem kI_e (i : Int) : kI (.int i, M) = some (some i, M) := rfl
theorem ev_Ch : fCh g g' fa fb fc ρ M = ob (fa ρ M) (kCh1 g g' fb fc ρ) := rfl
theorem kCh1_e : kCh1 g g' fb fc ρ (d, M) = ob (fb ρ M) (kCh2 g g' fc ρ d) := rfl
theorem kCh2_e : kCh2 g g' fc ρ d (e, M) = ob (g d e M) (kCh3 g' fc ρ e) := rfl
theorem kCh3_t : kCh3 g' fc ρ e (.bl true, M) = ob (fc ρ M) (kO2 g' e) := rfl
theorem kCh3_f : kCh3 g' fc ρ e (.bl false, M) = some (.bl false, M) := rfl
theorem ev_gN : gN i d ρ = some (ρ.set i (some d)) := rfl
theorem ev_gsNil : gsNil [] ρ = some ρ := rfl
theorem ev_gsCons (r : List D) : gsCons gt gs (d :: r) ρ = ob (gt d ρ) (gs r) := rfl
theorem ev_gT : gT n gs (.tup ds) ρ = if ds.length = n then gs ds ρ else none := rfl
theorem then_nx : then_ sb (.nx ρ, M) = sb ρ M := rfl
theorem then_rt : then_ sb (.rt d, M) = some (.rt d, M) := rfl
theorem then_bk : then_ sb (.bk ρ, M) = some (.bk ρ, M) := rfl
theorem then_ct : then_ sb (.ct ρ, M) = some (.ct ρ, M) := rfl
theorem ev_Seq : sSeq sa sb ρ M = ob (sa ρ M) (then_ sb) := rfl
theorem ev_Asg : sAsg fa gt ρ M = ob (fa ρ M) (kAsg gt ρ) := by
  unfold sAsg ob kAsg
  cases fa ρ M with
  | none => rfl
  | some p => simp only [Option.bind_some, ob, Option.map_eq_bind]; rfl
theorem kAsg_e : kAsg gt ρ (d, M) = ob (gt d ρ) (kNx M) := rfl
theorem kNx_e : kNx M ρ = some (.nx ρ, M) := rfl
theorem par2_e : par2 i j ρ ([d, e], M) = some (.nx ((ρ.set i (some d)).set j (some e)), M) := rfl
theorem ev_Par : sPar i j fr ρ M = ob (fr ρ M) (par2 i j ρ) := rfl
theorem ev_Ret : sRet fa ρ M = ob (fa ρ M) kRet := by
  unfold sRet ob
  cases fa ρ M <;> rfl
theorem kRet_e : kRet (d, M) = some (.rt d, M) := rfl
theorem ev_Drop : sDrop fa ρ M = ob (fa ρ M) (kDrop ρ) := by
  unfold sDrop ob
  cases fa ρ M <;> rfl
theorem kDrop_e : kDrop ρ (d, M) = some (.nx ρ, M) := rfl
theorem ev_sIf : sIf ta sa sb ρ M = ob (ta ρ M) (kSif sa sb ρ) := rfl
theorem kSif_t : kSif sa sb ρ (true, M) = sa ρ M := rfl
theorem kSif_f : kSif sa sb ρ (false, M) = sb ρ M := rfl
theorem ev_Next : sNext ρ M = some (.nx ρ, M) := rfl
theorem ev_Brk : sBrk ρ M = some (.bk ρ, M) := rfl
theorem ev_Cont : sCont ρ M = some (.ct ρ, M) := rfl
theorem ev_RetN : sRetN ρ M = some (.rt .non, M) := rfl
theorem ev_Sub (fo fx : FE) : sSub fa fo fx ρ M = ob (fa ρ M) (kSub1 fo fx ρ) := by
  unfold sSub ob
  cases fa ρ M with
  | none => rfl
  | some p =>
    show ((fo ρ p.2).bind _) = ob (fo ρ p.2) _
    unfold ob
    cases fo ρ p.2 with
    | none => rfl
    | some q =>
      show ((fx ρ q.2).bind _) = ob (fx ρ q.2) _
      unfold ob
      cases fx ρ q.2 with
      | none => rfl
      | some r =>
        show (setAt _ _ _ _).map _ = ob (setAt _ _ _ _) _
        unfold ob
        rw [Option.map_eq_bind]
        rfl
theorem kSub1_e (fo fx : FE) : kSub1 fo fx ρ (d, M) = ob (fo ρ M) (kSub2 fx ρ d) := rfl
theorem kSub2_e (fx : FE) : kSub2 fx ρ d (e, M) = ob (fx ρ M) (kSub3 ρ d e) := rfl
theorem kSub3_e (o : D) : kSub3 ρ d o (e, M) = ob (setAt o e d M) (kNxM ρ) := rfl
theorem kNxM_e : kNxM ρ M = some (.nx ρ, M) := rfl
theorem ev_For : sFor fi gt sb ρ M = ob (fi ρ M) (kFor gt sb ρ) := rfl
variable (k : Rho → Mem → Option (Fl × Mem)) (gd : Mem → Prop) (body : D → Rho → Mem → Option (Fl × Mem))
theorem kFor_e : kFor gt sb ρ ((ds, gd), M) = runG gd (bodyG gt sb) ds ρ M := rfl
theorem turn_nx : turn k (.nx ρ, M) = k ρ M := rfl
theorem turn_ct : turn k (.ct ρ, M) = k ρ M := rfl
theorem turn_bk : turn k (.bk ρ, M) = some (.nx ρ, M) := rfl
theorem turn_rt : turn k (.rt d, M) = some (.rt d, M) := rfl
theorem runG_nil (h : gd M) : runG gd body [] ρ M = some (.nx ρ, M) := by
  unfold runG
  rw [if_pos h]
theorem runG_cons (h : gd M) : runG gd body (d :: ds) ρ M = ob (body d ρ M) (turn (runG gd body ds)) := by
  conv => lhs; unfold runG
  rw [if_pos h]
  rfl
theorem runT_nil : runG (fun _ => True) body [] ρ M = some (.nx ρ, M) := runG_nil _ _ _ _ trivial
theorem runT_cons : runG (fun _ => True) body (d :: ds) ρ M = ob (body d ρ M) (turn (runG (fun _ => True) body ds)) := runG_cons _ _ _ _ _ _ trivial
theorem ev_body : bodyG gt sb d ρ M = ob (gt d ρ) (kBody sb M) := rfl
theorem kBody_e : kBody sb M ρ = sb ρ M := rfl
theorem ev_iE : iE fa ρ M = ob (fa ρ M) kIE := by
  unfold iE ob kIE
  cases fa ρ M with
  | none => rfl
  | some p => simp only [Option.bind_some, ob, Option.map_eq_bind]; rfl
theorem kIE_e : kIE (d, M) = ob (itemsOf d M) (kSrc M) := rfl
theorem kSrc_e (s : Src) : kSrc M s = some (s, M) := rfl
theorem ev_iR1 : iR1 fa ρ M = ob (fa ρ M) kR1 := rfl
theorem kR1_e (j : Int) : kR1 (.int j, M) = if j ≤ 100000 ∧ -100000 ≤ j then some ((upto 0 j.toNat, fun _ => True), M) else none := rfl
theorem ev_iR2 : iR2 fa fb ρ M = ob (fa ρ M) (kR2 fb ρ) := rfl
theorem kR2_e : kR2 fb ρ (d, M) = ob (fb ρ M) (kR2b d) := rfl
theorem kR2b_e (i j : Int) : kR2b (.int i) (.int j, M) = if j ≤ 100000 ∧ -100000 ≤ i ∧ -100000 ≤ j ∧ i ≤ 100000 then some ((upto i (j - i).toNat, fun _ => True), M) else none := rfl
theorem ev_iZ : iZ fa fb ρ M = ob (fa ρ M) (kZ1 fb ρ) := by
  unfold iZ ob kZ1
  cases fa ρ M with
  | none => rfl
  | some p =>
    simp only [Option.bind_some, ob]
    cases fb ρ p.2 with
    | none => rfl
    | some q => simp only [Option.bind_some, ob, Option.map_eq_bind]; rfl
theorem kZ1_e : kZ1 fb ρ (d, M) = ob (fb ρ M) (kZ2 d) := rfl
theorem kZ2_e : kZ2 d (e, M) = ob (zipOf d e M) (kSrc M) := rfl
theorem ev_iEn : iEn fa ρ M = ob (fa ρ M) kEn := by
  unfold iEn ob kEn
  cases fa ρ M with
  | none => rfl
  | some p =>
    obtain ⟨d, M⟩ := p
    cases d with
    | rf j =>
      simp only [Option.bind_some, enOf, ob, kSrc]
      cases M[j]? with
      | none => rfl
      | some c => cases c <;> rfl
    | _ => rfl
theorem kEn_e : kEn (d, M) = ob (enOf d M) (kSrc M) := rfl
variable (tt : FT) (te : FE) (vs : List Nat) (it : D → Mem → Option (Option D × Mem))
theorem mapG_nil (h : gd M) : mapG gd it [] M = some ([], M) := by
  unfold mapG
  rw [if_pos h]
theorem mapG_cons (h : gd M) : mapG gd it (d :: ds) M = ob (it d M) (kMap gd it ds) := by
  conv => lhs; unfold mapG
  rw [if_pos h]
  rfl
theorem kMap_e (od : Option D) : kMap gd it ds (od, M) = ob (mapG gd it ds M) (kMap2 od) := rfl
theorem kMap2_e (od : Option D) : kMap2 od (ds, M) = some (od.toList ++ ds, M) := rfl
theorem mapT_nil : mapG (fun _ => True) it [] M = some ([], M) := mapG_nil _ _ _ trivial
theorem mapT_cons : mapG (fun _ => True) it (d :: ds) M = ob (it d M) (kMap (fun _ => True) it ds) := mapG_cons _ _ _ _ _ trivial
theorem ev_item : itemG gt tt te ρ d M = ob (gt d ρ) (kIt1 tt te M) := by
  unfold itemG ob kIt1
  cases gt d ρ with
  | none => rfl
  | some r =>
    simp only [Option.bind_some, ob]
    cases tt r M with
    | none => rfl
    | some p => simp only [Option.bind_some, ob, Option.map_eq_bind]; rfl
theorem kIt1_e : kIt1 tt te M ρ = ob (tt ρ M) (kIt2 te ρ) := rfl
theorem kIt2_t : kIt2 te ρ (true, M) = ob (te ρ M) kSome := rfl
theorem kIt2_f : kIt2 te ρ (false, M) = some (none, M) := rfl
theorem kSome_e : kSome (d, M) = some (some d, M) := rfl
theorem ev_Lc : fLc fi gt tt te vs ρ M = ob (fi ρ M) (kLc gt tt te vs ρ) := rfl
theorem kLc_e : kLc gt tt te vs ρ ((ds, gd), M) = ob (mapG gd (itemG gt tt te (wipeD ρ vs)) ds M) (kLc2 ds.length) := rfl
theorem kLc2_e : kLc2 n (ds, M) = if n ≤ 100000 then some (.rf M.length, M ++ [.lst ds]) else none := rfl
theorem ev_Yes : tYesD ρ M = some (true, M) := rfl
theorem finP_rt (h : D.lo 0 d = true) : finP (.rt d, M) = some d := by
  unfold finP D.imm
  dsimp only
  rw [if_pos h]
theorem finP_nx : finP (.nx ρ, M) = some .non := rfl
theorem mkP_e {n N : Nat} {b : FS} {ds : List D} {ρ : Rho} (h : D.los 0 ds = true) (hl : ds.length = n) (hs : startD N ds = ρ) : mkP n N b ds = ob (b ρ []) finP := by
  subst hs
  unfold mkP
  rw [if_pos ⟨h, hl⟩]
  rfl
theorem finM_rt : finM (.rt d, M) = some (d, M) := rfl
theorem finM_nx : finM (.nx ρ, M) = some (.non, M) := rfl
theorem mkM_e {n N : Nat} {b : FS} {ds : List D} {M : Mem} {ρ : Rho} (hl : ds.length = n) (hs : startD N ds = ρ) : mkM n N b ds M = ob (b ρ M) finM := by
  subst hs
  unfold mkM
  rw [if_pos hl]
  rfl
theorem mkG_e {n N : Nat} {b : FS} {ds : List D} {M : Mem} {ρ : Rho} (hl : ds.length = n) (hs : startD N ds = ρ) : mkG n N b ds M = ob (ob (b ρ M) finM) (kGc M.length) := by
  unfold mkG
  rw [mkM_e hl hs]
  unfold ob
  rw [Option.map_eq_bind]
  rfl
theorem kGc_e (p : D × Mem) : kGc n p = some (gc n p) := rfl
end
theorem mulE {i j : Int} (h : MulOk i j) (M : Mem) : gMul (.int i) (.int j) M = some (.int (i * j), M) := by
  simp only [gMul]
  rw [if_pos h]
theorem fdE {i j : Int} (h : j ≠ 0) (h' : Bt 9000 j) (M : Mem) : gFd (.int i) (.int j) M = some (.int (i.fdiv j), M) := by
  simp only [gFd]
  rw [if_pos ⟨h, h'⟩]
theorem modE {i j : Int} (h : j ≠ 0) (M : Mem) : gMod (.int i) (.int j) M = some (.int (i.fmod j), M) := by
  simp only [gMod]
  rw [if_pos h]
theorem addE (i j : Int) (M : Mem) : gAdd (.int i) (.int j) M = some (.int (i + j), M) := rfl
theorem subE (i j : Int) (M : Mem) : gSub (.int i) (.int j) M = some (.int (i - j), M) := rfl
theorem negE (i : Int) (M : Mem) : gNeg (.int i) M = some (.int (-i), M) := rfl
theorem cmpE (p : Int → Int → Bool) (i j : Int) (M : Mem) : gCmp p (.int i) (.int j) M = some (.bl (p i j), M) := rfl
theorem ixT (ds : List D) (i : Int) (M : Mem) : gIx (.tup ds) (.int i) M = ob (atI ds i) (kD M) := by
  simp only [gIx]
  unfold ob
  cases atI ds i <;> rfl
theorem ixR {M : Mem} {l : Nat} {ds : List D} (h : M[l]? = some (.lst ds)) (i : Int) : gIx (.rf l) (.int i) M = ob (atI ds i) fun d => some (d, M) := by
  simp only [gIx, h]
  unfold ob
  cases atI ds i <;> rfl
theorem truI (i : Int) (M : Mem) : gTru (.int i) M = some (i != 0) := rfl
theorem truB (b : Bool) (M : Mem) : gTru (.bl b) M = some b := rfl
theorem mul_bt {m n : Nat} {i j : Int} (hi : Bt m i) (hj : Bt n j) (h : m + n ≤ 134217728) : MulOk i j := ⟨m, n, hi, hj, h⟩
theorem at0 (a : D) (l : List D) : atI (a :: l) 0 = some a := by simp [atI, ixN]
theorem at1 (a b : D) (l : List D) : atI (a :: b :: l) 1 = some b := by simp [atI, ixN, show (1 : Int) < (l.length : Int) + 1 + 1 by omega]
theorem at2 (a b c : D) (l : List D) : atI (a :: b :: c :: l) 2 = some c := by simp [atI, ixN, show (2 : Int) < (l.length : Int) + 1 + 1 + 1 by omega]
theorem at3 (a b c d : D) (l : List D) : atI (a :: b :: c :: d :: l) 3 = some d := by simp [atI, ixN, show (3 : Int) < (l.length : Int) + 1 + 1 + 1 + 1 by omega]
theorem setE {M : Mem} {l : Nat} {ds : List D} {k : Int} {j : Nat} (h : M[l]? = some (.lst ds)) (hj : ixN ds.length k = some j) (d : D) : setAt (.rf l) (.int k) d M = some (M.set l (.lst (ds.set j d))) := by
  simp only [setAt, h, hj]
  rfl
theorem lenR {M : Mem} {l : Nat} {ds : List D} (h : M[l]? = some (.lst ds)) : bLen [.rf l] M = some (.int ds.length, M) := by
  simp only [bLen, seqOf, h]
  rfl
theorem lenT (ds : List D) (M : Mem) : bLen [.tup ds] M = some (.int ds.length, M) := rfl
theorem tupR {M : Mem} {l : Nat} {ds : List D} (h : M[l]? = some (.lst ds)) : bTuple [.rf l] M = some (.tup ds, M) := by
  simp only [bTuple, seqOf, h]
  rfl
theorem powE {i j : Int} (h : 0 ≤ j ∧ j ≤ 1000000 ∧ i.natAbs < 2 ^ 64) (M : Mem) : gPow (.int i) (.int j) M = some (.int (i ^ j.toNat), M) := by
  simp only [gPow]
  rw [if_pos h]
theorem atI_of {α : Type} {l : List α} {i : Int} {j : Nat} {a : α} (h : i = (j : Int)) (e : l[j]? = some a) : atI l i = some a := by
  subst h
  have hj : j < l.length := (List.getElem?_eq_some_iff.mp e).1
  have : (j : Int) < (l.length : Int) := by omega
  simp only [atI, ixN]
  rw [if_pos (by omega), if_pos this]
  simpa using e
theorem gc_e {n : Nat} {v : D} {M G : Mem} (hn : M.length = n) (hv : v.lo n = true) (hM : M.all (Cell.lo n) = true) : gc n (v, M ++ G) = (v, M) := by
  unfold gc
  have : (M ++ G).take n = M := by rw [← hn]; simp
  dsimp only
  rw [this, if_pos ⟨hv, hM⟩]
/-! what has no place in the memory at all -/
mutual
theorem D.lo_le {m n : Nat} (h : m ≤ n) : ∀ {d : D}, D.lo m d = true → D.lo n d = true
  | .non, _ => rfl
  | .bl _, _ => rfl
  | .int _, _ => rfl
  | .str _, _ => rfl
  | .ty _, _ => rfl
  | .fn _, _ => rfl
  | .tup ds, e => D.los_le h (ds := ds) e
  | .rol ds, e => D.los_le h (ds := ds) e
  | .rf i, e => by
    simp only [D.lo, decide_eq_true_eq] at e ⊢
    omega
theorem D.los_le {m n : Nat} (h : m ≤ n) : ∀ {ds : List D}, D.los m ds = true → D.los n ds = true
  | [], _ => rfl
  | _ :: _, e => by
    simp only [D.los, Bool.and_eq_true] at e ⊢
    exact ⟨D.lo_le h e.1, D.los_le h e.2⟩
end
theorem Cell.lo_le {m n : Nat} (h : m ≤ n) : ∀ {c : Cell}, Cell.lo m c = true → Cell.lo n c = true
  | .lst _, e => D.los_le h e
  | .dK _, e => D.los_le h e
  | .ins _ _, e => D.los_le h e
theorem los_ints (n : Nat) : ∀ ns : List Int, D.los n (ns.map D.int) = true
  | [] => rfl
  | _ :: ns => los_ints n ns
theorem absE (i : Int) (M : Mem) : bAbs [.int i] M = some (.int (if i < 0 then -i else i), M) := rfl
/-! ### lists in the memory -/
def lstAt (M : Mem) (l : Nat) : Option (List D) := match M[l]? with
  | some (.lst ds) => some ds
  | _ => none
theorem lstAt_of {M : Mem} {l : Nat} {ds : List D} (h : M[l]? = some (.lst ds)) : lstAt M l = some ds := by
  unfold lstAt
  rw [h]
theorem of_lstAt {M : Mem} {l : Nat} {ds : List D} (h : lstAt M l = some ds) : M[l]? = some (.lst ds) := by
  unfold lstAt at h
  split at h
  · cases h
    assumption
  · cases h
theorem lstAt_zero (ds : List D) (C : Mem) : lstAt (.lst ds :: C) 0 = some ds := rfl
theorem lstAt_succ (c : Cell) (C : Mem) (n : Nat) : lstAt (c :: C) (n + 1) = lstAt C n := rfl
section
variable (l : Nat) (i : Int) (M : Mem) (d : D)
theorem ixRf : gIx (.rf l) (.int i) M = ob (lstAt M l) fun ds => ob (atI ds i) fun d => some (d, M) := by
  simp only [gIx, lstAt, ob]
  cases M[l]? with
  | none => rfl
  | some c =>
    cases c with
    | lst ds => cases h : atI ds i <;> simp [h]
    | _ => rfl
theorem tupRf : bTuple [.rf l] M = ob (lstAt M l) fun ds => some (.tup ds, M) := by
  simp only [bTuple, seqOf, lstAt, ob]
  cases M[l]? with
  | none => rfl
  | some c => cases c <;> rfl
theorem lenRf : bLen [.rf l] M = ob (lstAt M l) fun ds => some (.int ds.length, M) := by
  simp only [bLen, seqOf, lstAt, ob]
  cases M[l]? with
  | none => rfl
  | some c => cases c <;> rfl
theorem listRf : bList [.rf l] M = ob (lstAt M l) fun ds => some (.rf M.length, M ++ [.lst ds]) := by
  simp only [bList, seqOf, lstAt, ob]
  cases M[l]? with
  | none => rfl
  | some c => cases c <;> rfl
theorem isLstRf : isLst (.rf l) M = (lstAt M l).isSome := by
  simp only [isLst, lstAt]
  cases M[l]? with
  | none => rfl
  | some c => cases c <;> rfl
theorem appRf : mApp (.rf l) [d] M = ob (lstAt M l) fun ds => if ds.length < 100000 then some (.non, M.set l (.lst (ds ++ [d]))) else none := by
  simp only [mApp, lstAt, ob]
  cases M[l]? with
  | none => rfl
  | some c => cases c <;> rfl
theorem setRf : setAt (.rf l) (.int i) d M = ob (lstAt M l) fun ds => ob (ixN ds.length i) fun j => some (M.set l (.lst (ds.set j d))) := by
  simp only [setAt, lstAt, ob]
  cases M[l]? with
  | none => rfl
  | some c =>
    cases c with
    | lst ds => cases h : ixN ds.length i <;> simp [h]
    | _ => rfl
theorem itemsRf : itemsOf (.rf l) M = ob (lstAt M l) fun ds => some (ds, fun M' => M'[l]? = some (.lst ds)) := by
  simp only [itemsOf, lstAt, ob]
  cases M[l]? with
  | none => rfl
  | some c => cases c <;> rfl
theorem itemsT (ds : List D) : itemsOf (.tup ds) M = some (ds, fun _ => True) := rfl
theorem itemsL (ds : List D) : itemsOf (.rol ds) M = some (ds, fun _ => True) := rfl
theorem zipT (ds es : List D) : zipOf (.tup ds) (.tup es) M = some (pairs ds es, fun _ => True) := rfl
theorem zipRf (j : Nat) : zipOf (.rf l) (.rf j) M = ob (lstAt M l) fun ds => ob (lstAt M j) fun es => some (pairs ds es, fun M' => M'[l]? = some (.lst ds) ∧ M'[j]? = some (.lst es)) := by
  simp only [zipOf, lstAt, ob]
  cases M[l]? with
  | none => rfl
  | some c =>
    cases c <;> cases M[j]? with
      | none => rfl
      | some c => cases c <;> rfl
theorem allRf : bAll [.rf l] M = ob (lstAt M l) fun ds => ob (D.bls ds) fun bs => some (.bl (bs.all id), M) := by
  simp only [bAll, lstOf, lstAt, ob]
  cases M[l]? with
  | none => rfl
  | some c =>
    cases c with
    | lst ds => cases h : D.bls ds <;> simp [h]
    | _ => rfl
theorem anyRf : bAny [.rf l] M = ob (lstAt M l) fun ds => ob (D.bls ds) fun bs => some (.bl (bs.any id), M) := by
  simp only [bAny, lstOf, lstAt, ob]
  cases M[l]? with
  | none => rfl
  | some c =>
    cases c with
    | lst ds => cases h : D.bls ds <;> simp [h]
    | _ => rfl
theorem sumRf : bSum [.rf l] M = ob (lstAt M l) fun ds => ob (D.ints ds) fun ns => some (.int ns.sum, M) := by
  simp only [bSum, lstOf, lstAt, ob]
  cases M[l]? with
  | none => rfl
  | some c =>
    cases c with
    | lst ds => cases h : D.ints ds <;> simp [h]
    | _ => rfl
theorem tupT (ds : List D) : bTuple [.tup ds] M = some (.tup ds, M) := rfl
theorem slRf (lo hi : Option Int) : gSl (.rf l) lo hi M = ob (lstAt M l) fun ds => some (.rf M.length, M ++ [.lst (cutD ds lo hi)]) := by
  simp only [gSl, lstAt, ob]
  cases M[l]? with
  | none => rfl
  | some c => cases c <;> rfl
theorem isiE (T : String) : bIsi [d, .ty T] M = ob (tyOf d M) fun t => ob (kitB t T) fun b => some (.bl b, M) := by
  simp only [bIsi, ob]
  cases tyOf d M with
  | none => rfl
  | some t => cases h : kitB t T <;> simp [h]
theorem tlE : gTL d M = ob (tyOf d M) fun t => ob (kitB t "tuple") fun a => ob (kitB t "list") fun b => some (.bl (a || b), M) := by
  simp only [gTL, ob]
  cases tyOf d M with
  | none => rfl
  | some t =>
    simp only [Option.bind_some]
    cases kitB t "tuple" with
    | none => rfl
    | some a => cases h : kitB t "list" <;> simp [h]
end
theorem ixn_1 {n : Nat} (h : 0 < n) : ixN n 0 = some 0 := by
  unfold ixN
  rw [if_pos (by decide), if_pos (by omega)]
  rfl

noncomputable def b_frac : FS :=
  (sSeq (sPar 2 3 (fCons (fV 1) (fCons (fO gMod (fV 0) (fV 1)) fNil)))
    (sSeq (sWhile (tTr (fV 3)) (sPar 2 3 (fCons (fV 3) (fCons (fO gMod (fV 2) (fV 3)) fNil))))
    (sRet (fTup (fCons (fO gFd (fV 0) (fV 2)) (fCons (fO gFd (fV 1) (fV 2)) fNil))))))
noncomputable def m_frac : List D → Option D := mkP 2 4 b_frac
theorem lo_frac (ds : List D) (d : D) : m_frac ds = some d → D.los 0 ds = true ∧ ds.length = 2 := mkP_lo
theorem e_frac (d0 d1 : D) (h : D.los 0 [d0, d1] = true) : m_frac [d0, d1] = ob (b_frac [some d0, some d1, none, none] []) finP := mkP_e h rfl rfl
noncomputable def b_plus : FS :=
  (sRet (fCP m_frac (fCons (fO gAdd (fO gMul (fO gIx (fV 0) (fC (.int 0))) (fO gIx (fV 1) (fC (.int 1)))) (fO gMul (fO gIx (fV 1) (fC (.int 0))) (fO gIx (fV 0) (fC (.int 1))))) (fCons (fO gMul (fO gIx (fV 0) (fC (.int 1))) (fO gIx (fV 1) (fC (.int 1)))) fNil))))
noncomputable def m_plus : List D → Option D := mkP 2 2 b_plus
theorem lo_plus (ds : List D) (d : D) : m_plus ds = some d → D.los 0 ds = true ∧ ds.length = 2 := mkP_lo
theorem e_plus (d0 d1 : D) (h : D.los 0 [d0, d1] = true) : m_plus [d0, d1] = ob (b_plus [some d0, some d1] []) finP := mkP_e h rfl rfl
noncomputable def b_minus : FS :=
  (sRet (fCP m_frac (fCons (fO gSub (fO gMul (fO gIx (fV 0) (fC (.int 0))) (fO gIx (fV 1) (fC (.int 1)))) (fO gMul (fO gIx (fV 1) (fC (.int 0))) (fO gIx (fV 0) (fC (.int 1))))) (fCons (fO gMul (fO gIx (fV 0) (fC (.int 1))) (fO gIx (fV 1) (fC (.int 1)))) fNil))))
noncomputable def m_minus : List D → Option D := mkP 2 2 b_minus
theorem lo_minus (ds : List D) (d : D) : m_minus ds = some d → D.los 0 ds = true ∧ ds.length = 2 := mkP_lo
theorem e_minus (d0 d1 : D) (h : D.los 0 [d0, d1] = true) : m_minus [d0, d1] = ob (b_minus [some d0, some d1] []) finP := mkP_e h rfl rfl
noncomputable def b_times : FS :=
  (sRet (fCP m_frac (fCons (fO gMul (fO gIx (fV 0) (fC (.int 0))) (fO gIx (fV 1) (fC (.int 0)))) (fCons (fO gMul (fO gIx (fV 0) (fC (.int 1))) (fO gIx (fV 1) (fC (.int 1)))) fNil))))
noncomputable def m_times : List D → Option D := mkP 2 2 b_times
theorem lo_times (ds : List D) (d : D) : m_times ds = some d → D.los 0 ds = true ∧ ds.length = 2 := mkP_lo
theorem e_times (d0 d1 : D) (h : D.los 0 [d0, d1] = true) : m_times [d0, d1] = ob (b_times [some d0, some d1] []) finP := mkP_e h rfl rfl
noncomputable def b_together : FS :=
  (sRet (fTup (fCons (fCP m_plus (fCons (fO gIx (fV 0) (fC (.int 0))) (fCons (fO gIx (fV 1) (fC (.int 0))) fNil))) (fCons (fCP m_plus (fCons (fO gIx (fV 0) (fC (.int 1))) (fCons (fO gIx (fV 1) (fC (.int 1))) fNil))) (fCons (fCP m_plus (fCons (fO gIx (fV 0) (fC (.int 2))) (fCons (fO gIx (fV 1) (fC (.int 2))) fNil))) fNil)))))
noncomputable def m_together : List D → Option D := mkP 2 2 b_together
theorem lo_together (ds : List D) (d : D) : m_together ds = some d → D.los 0 ds = true ∧ ds.length = 2 := mkP_lo
theorem e_together (d0 d1 : D) (h : D.los 0 [d0, d1] = true) : m_together [d0, d1] = ob (b_together [some d0, some d1] []) finP := mkP_e h rfl rfl
noncomputable def b_way_between : FS :=
  (sRet (fTup (fCons (fCP m_minus (fCons (fO gIx (fV 1) (fC (.int 0))) (fCons (fO gIx (fV 0) (fC (.int 0))) fNil))) (fCons (fCP m_minus (fCons (fO gIx (fV 1) (fC (.int 1))) (fCons (fO gIx (fV 0) (fC (.int 1))) fNil))) (fCons (fCP m_minus (fCons (fO gIx (fV 1) (fC (.int 2))) (fCons (fO gIx (fV 0) (fC (.int 2))) fNil))) fNil)))))
noncomputable def m_way_between : List D → Option D := mkP 2 2 b_way_between
theorem lo_way_between (ds : List D) (d : D) : m_way_between ds = some d → D.los 0 ds = true ∧ ds.length = 2 := mkP_lo
theorem e_way_between (d0 d1 : D) (h : D.los 0 [d0, d1] = true) : m_way_between [d0, d1] = ob (b_way_between [some d0, some d1] []) finP := mkP_e h rfl rfl
noncomputable def b_stretched : FS :=
  (sRet (fTup (fCons (fCP m_times (fCons (fO gIx (fV 0) (fC (.int 0))) (fCons (fV 1) fNil))) (fCons (fCP m_times (fCons (fO gIx (fV 0) (fC (.int 1))) (fCons (fV 1) fNil))) (fCons (fCP m_times (fCons (fO gIx (fV 0) (fC (.int 2))) (fCons (fV 1) fNil))) fNil)))))
noncomputable def m_stretched : List D → Option D := mkP 2 2 b_stretched
theorem lo_stretched (ds : List D) (d : D) : m_stretched ds = some d → D.los 0 ds = true ∧ ds.length = 2 := mkP_lo
theorem e_stretched (d0 d1 : D) (h : D.los 0 [d0, d1] = true) : m_stretched [d0, d1] = ob (b_stretched [some d0, some d1] []) finP := mkP_e h rfl rfl
noncomputable def b_cell_ray : FS :=
  (sSeq (sAsg (fSli (fV 0) (some (fC (.int 1))) none) (gT 6 (gsCons (gN 3) (gsCons (gN 4) (gsCons (gN 5) (gsCons (gN 6) (gsCons (gN 7) (gsCons (gN 8) gsNil))))))))
    (sSeq (sAsg (fCP m_stretched (fCons (fV 5) (fCons (fCP m_frac (fCons (fO gAdd (fO gMul (fC (.int 2)) (fV 1)) (fC (.int 1))) (fCons (fO gMul (fC (.int 2)) (fV 7)) fNil))) fNil))) (gN 9))
    (sSeq (sAsg (fCP m_stretched (fCons (fV 6) (fCons (fCP m_frac (fCons (fO gAdd (fO gMul (fC (.int 2)) (fV 2)) (fC (.int 1))) (fCons (fO gMul (fC (.int 2)) (fV 8)) fNil))) fNil))) (gN 10))
    (sRet (fTup (fCons (fV 3) (fCons (fCP m_way_between (fCons (fV 3) (fCons (fCP m_together (fCons (fV 4) (fCons (fCP m_together (fCons (fV 9) (fCons (fV 10) fNil))) fNil))) fNil))) fNil)))))))
noncomputable def m_cell_ray : List D → Option D := mkP 3 11 b_cell_ray
theorem lo_cell_ray (ds : List D) (d : D) : m_cell_ray ds = some d → D.los 0 ds = true ∧ ds.length = 3 := mkP_lo
theorem e_cell_ray (d0 d1 d2 : D) (h : D.los 0 [d0, d1, d2] = true) : m_cell_ray [d0, d1, d2] = ob (b_cell_ray [some d0, some d1, some d2, none, none, none, none, none, none, none, none] []) finP := mkP_e h rfl rfl
noncomputable def b__law_state : FS :=
  (sSeq (sAsg (fL bList (fCons (fSli (fV 0) none (some (fC (.int 60)))) fNil)) (gN 1))
    (sSeq (sIf (tV (fO gEq (fV 1) (fLst fNil))) (sAsg (fLst (fCons (fC (.int 0)) fNil)) (gN 1)) sNext)
    (sRet (fLst (fCons (fV 1) (fCons (fC (.int 0)) (fCons (fC (.int 0)) (fCons (fC (.int 1700000000000000003)) fNil))))))))
noncomputable def m__law_state : GL := mkM 1 2 b__law_state
theorem ln__law_state (ds : List D) (M : Mem) (d : D × Mem) : m__law_state ds M = some d → ds.length = 1 := mkM_len
theorem e__law_state (d0 : D) (M : Mem) : m__law_state [d0] M = ob (b__law_state [some d0, none] M) finM := mkM_e rfl rfl
noncomputable def b__law_next : FS :=
  (sSeq (sIf (tV (fO gGt (fO gIx (fV 0) (fC (.int 2))) (fC (.int 0)))) (sSeq (sAsg (fO gMod (fO gIx (fV 0) (fC (.int 2))) (fV 1)) (gN 2))
    (sSeq (sSub (fO gFd (fO gIx (fV 0) (fC (.int 2))) (fV 1)) (fV 0) (fC (.int 2)))
    (sRet (fV 2)))) sNext)
    (sSeq (sAsg (fO gIx (fV 0) (fC (.int 0))) (gN 3))
    (sSeq (sAsg (fO gIx (fV 3) (fO gMod (fO gIx (fV 0) (fC (.int 1))) (fL bLen (fCons (fV 3) fNil)))) (gN 4))
    (sSeq (sSub (fO gAdd (fO gIx (fV 0) (fC (.int 1))) (fC (.int 1))) (fV 0) (fC (.int 1)))
    (sSeq (sIf (tAn (tV (fO gGe (fV 4) (fO gPow (fC (.int 10)) (fC (.int 18))))) (tV (fO gLe (fO gIx (fV 0) (fC (.int 1))) (fL bLen (fCons (fV 3) fNil))))) (sSeq (sSub (fO gFd (fV 4) (fV 1)) (fV 0) (fC (.int 2)))
    (sRet (fO gMod (fV 4) (fV 1)))) sNext)
    (sSeq (sAsg (fO gAdd (fO gAdd (fO gMul (fO gIx (fV 0) (fC (.int 3))) (fC (.int 69621))) (fO gMod (fV 4) (fC (.int 2305843009213693921)))) (fO gIx (fV 0) (fC (.int 1)))) (gN 5))
    (sSeq (sSub (fO gMod (fV 5) (fC (.int 2305843009213693951))) (fV 0) (fC (.int 3)))
    (sRet (fO gMod (fO gFd (fO gMod (fO gMul (fO gIx (fV 0) (fC (.int 3))) (fO gIx (fV 0) (fC (.int 3)))) (fC (.int 2305843009213693951))) (fC (.int 4096))) (fV 1))))))))))
noncomputable def m__law_next : GL := mkM 2 6 b__law_next
theorem ln__law_next (ds : List D) (M : Mem) (d : D × Mem) : m__law_next ds M = some d → ds.length = 2 := mkM_len
theorem e__law_next (d0 d1 : D) (M : Mem) : m__law_next [d0, d1] M = ob (b__law_next [some d0, some d1, none, none, none, none] M) finM := mkM_e rfl rfl
noncomputable def b__law_same (self : List D → Option D) : FS :=
  (sSeq (sIf (tTr (fU gTL (fV 1))) (sSeq (sIf (tOr2 (tV (fO gNe (fL bIsi (fCons (fV 0) (fCons (fC (.ty "tuple")) fNil))) (fL bIsi (fCons (fV 1) (fCons (fC (.ty "tuple")) fNil))))) (tV (fO gNe (fL bIsi (fCons (fV 0) (fCons (fC (.ty "list")) fNil))) (fL bIsi (fCons (fV 1) (fCons (fC (.ty "list")) fNil)))))) (sRet (fC (.bl false))) sNext)
    (sSeq (sIf (tV (fO gNe (fL bLen (fCons (fV 0) fNil)) (fL bLen (fCons (fV 1) fNil)))) (sRet (fC (.bl false))) sNext)
    (sRet (fL bAll (fCons (fLc (iZ (fV 0) (fV 1)) (gT 2 (gsCons (gN 2) (gsCons (gN 3) gsNil))) tYesD (fCP self (fCons (fV 2) (fCons (fV 3) fNil))) [2, 3]) fNil))))) sNext)
    (sSeq (sIf (tV (fO gIsN (fV 1) (fC .non))) (sRet (fO gIsN (fV 0) (fC .non))) sNext)
    (sSeq (sIf (tTr (fL bIsi (fCons (fV 1) (fCons (fC (.ty "str")) fNil)))) (sRet (fAnB (fL bIsi (fCons (fV 0) (fCons (fC (.ty "str")) fNil))) (fO gEq (fV 0) (fV 1)))) sNext)
    (sRet (fAnB (fL bIsi (fCons (fV 0) (fCons (fC (.ty "int")) fNil))) (fAnB (fO gEq (fL bIsi (fCons (fV 0) (fCons (fC (.ty "bool")) fNil))) (fL bIsi (fCons (fV 1) (fCons (fC (.ty "bool")) fNil)))) (fO gEq (fV 0) (fV 1))))))))
noncomputable def m__law_same : Nat → List D → Option D
  | 0 => fun _ => none
  | n + 1 => mkP 2 4 (b__law_same (m__law_same n))
theorem lo__law_same : ∀ (n : Nat) (ds : List D) (d : D), m__law_same n ds = some d → D.los 0 ds = true ∧ ds.length = 2
  | 0, _, _, e => by cases e
  | _ + 1, _, _, e => mkP_lo e
theorem e__law_same (n : Nat) (d0 d1 : D) (h : D.los 0 [d0, d1] = true) : m__law_same (n + 1) [d0, d1] = ob (b__law_same (m__law_same n) [some d0, some d1, none, none] []) finP := mkP_e h rfl rfl
noncomputable def b__law_f : FS :=
  (sSeq (sPar 2 3 (fCons (fL bAbs (fCons (fV 0) fNil)) (fCons (fV 1) fNil)))
    (sSeq (sWhile (tV (fO gGt (fV 3) (fC (.int 0)))) (sPar 2 3 (fCons (fV 3) (fCons (fO gMod (fV 2) (fV 3)) fNil))))
    (sRet (fTup (fCons (fO gFd (fV 0) (fV 2)) (fCons (fO gFd (fV 1) (fV 2)) fNil))))))
noncomputable def m__law_f : List D → Option D := mkP 2 4 b__law_f
theorem lo__law_f (ds : List D) (d : D) : m__law_f ds = some d → D.los 0 ds = true ∧ ds.length = 2 := mkP_lo
theorem e__law_f (d0 d1 : D) (h : D.los 0 [d0, d1] = true) : m__law_f [d0, d1] = ob (b__law_f [some d0, some d1, none, none] []) finP := mkP_e h rfl rfl
noncomputable def b__law_share : FS :=
  (sSeq (sAsg (fL m__law_next (fCons (fV 0) (fCons (fC (.int 4)) fNil))) (gN 1))
    (sSeq (sIf (tV (fO gLt (fV 1) (fC (.int 2)))) (sRet (fTup (fCons (fO gSub (fL m__law_next (fCons (fV 0) (fCons (fC (.int 13)) fNil))) (fC (.int 6))) (fCons (fC (.int 1)) fNil)))) sNext)
    (sSeq (sIf (tV (fO gEq (fV 1) (fC (.int 2)))) (sRet (fCP m__law_f (fCons (fO gSub (fL m__law_next (fCons (fV 0) (fCons (fC (.int 41)) fNil))) (fC (.int 20))) (fCons (fO gAdd (fC (.int 1)) (fL m__law_next (fCons (fV 0) (fCons (fC (.int 12)) fNil)))) fNil)))) sNext)
    (sRet (fCP m__law_f (fCons (fO gSub (fL m__law_next (fCons (fV 0) (fCons (fC (.int 199999)) fNil))) (fC (.int 99999))) (fCons (fO gAdd (fC (.int 1)) (fL m__law_next (fCons (fV 0) (fCons (fC (.int 99999)) fNil)))) fNil)))))))
noncomputable def m__law_share : GL := mkM 1 2 b__law_share
theorem ln__law_share (ds : List D) (M : Mem) (d : D × Mem) : m__law_share ds M = some d → ds.length = 1 := mkM_len
theorem e__law_share (d0 : D) (M : Mem) : m__law_share [d0] M = ob (b__law_share [some d0, none] M) finM := mkM_e rfl rfl
noncomputable def b__law_look : FS :=
  (sSeq (sAsg (fLc (iR1 (fC (.int 3))) (gN 7) tYesD (fL m__law_share (fCons (fV 0) fNil)) [7]) (gN 1))
    (sSeq (sAsg (fLst (fCons (fO gIx (fV 1) (fC (.int 0))) (fCons (fO gIx (fV 1) (fC (.int 1))) (fCons (fCP m__law_f (fCons (fO gAdd (fO gIx (fO gIx (fV 1) (fC (.int 2))) (fC (.int 0))) (fO gIx (fO gIx (fV 1) (fC (.int 2))) (fC (.int 1)))) (fCons (fO gIx (fO gIx (fV 1) (fC (.int 2))) (fC (.int 1))) fNil))) fNil)))) (gN 2))
    (sSeq (sPar 3 4 (fCons (fO gAdd (fC (.int 1)) (fL m__law_next (fCons (fV 0) (fCons (fC (.int 12)) fNil)))) (fCons (fO gAdd (fC (.int 1)) (fL m__law_next (fCons (fV 0) (fCons (fC (.int 12)) fNil)))) fNil)))
    (sSeq (sAsg (fTup (fCons (fCP m__law_f (fCons (fO gAdd (fC (.int 1)) (fL m__law_next (fCons (fV 0) (fCons (fC (.int 30)) fNil)))) (fCons (fO gAdd (fC (.int 1)) (fL m__law_next (fCons (fV 0) (fCons (fC (.int 7)) fNil)))) fNil))) (fCons (fL m__law_share (fCons (fV 0) fNil)) (fCons (fTup (fCons (fC (.int 0)) (fCons (fC (.int 1)) fNil))) fNil)))) (gN 5))
    (sSeq (sAsg (fTup (fCons (fTup (fCons (fC (.int 0)) (fCons (fC (.int 1)) fNil))) (fCons (fCP m__law_f (fCons (fO gAdd (fC (.int 1)) (fL m__law_next (fCons (fV 0) (fCons (fC (.int 30)) fNil)))) (fCons (fO gAdd (fC (.int 1)) (fL m__law_next (fCons (fV 0) (fCons (fC (.int 7)) fNil)))) fNil))) (fCons (fTup (fCons (fC (.int 0)) (fCons (fC (.int 1)) fNil))) fNil)))) (gN 6))
    (sRet (fTup (fCons (fC (.str "eye")) (fCons (fL bTuple (fCons (fV 1) fNil)) (fCons (fL bTuple (fCons (fV 2) fNil)) (fCons (fV 5) (fCons (fV 6) (fCons (fV 3) (fCons (fV 4) fNil))))))))))))))
noncomputable def m__law_look : GL := mkG 1 8 b__law_look
theorem ln__law_look (ds : List D) (M : Mem) (d : D × Mem) : m__law_look ds M = some d → ds.length = 1 := mkG_len
theorem e__law_look (d0 : D) (M : Mem) : m__law_look [d0] M = ob (ob (b__law_look [some d0, none, none, none, none, none, none, none] M) finM) (kGc M.length) := mkG_e rfl rfl
noncomputable def b__law_due : FS :=
  (sSeq (sAsg (fV 0) (gT 7 (gsCons (gN 3) (gsCons (gN 4) (gsCons (gN 5) (gsCons (gN 6) (gsCons (gN 7) (gsCons (gN 8) (gsCons (gN 9) gsNil)))))))))
    (sSeq (sAsg (fLst fNil) (gN 10))
    (sSeq (sFor (iR1 (fC (.int 3))) (gN 11) (sSeq (sPar 12 13 (fCons (fO gIx (fV 6) (fV 11)) (fCons (fO gIx (fV 7) (fV 11)) fNil)))
    (sSeq (sAsg (fO gAdd (fO gMul (fO gMul (fO gMul (fO gMul (fO gAdd (fO gMul (fC (.int 2)) (fV 1)) (fC (.int 1))) (fO gIx (fV 12) (fC (.int 0)))) (fC (.int 2))) (fV 9)) (fO gIx (fV 13) (fC (.int 1)))) (fO gMul (fO gMul (fO gMul (fO gMul (fO gAdd (fO gMul (fC (.int 2)) (fV 2)) (fC (.int 1))) (fO gIx (fV 13) (fC (.int 0)))) (fC (.int 2))) (fV 8)) (fO gIx (fV 12) (fC (.int 1))))) (gN 14))
    (sSeq (sAsg (fO gMul (fO gMul (fO gMul (fO gMul (fC (.int 4)) (fV 8)) (fV 9)) (fO gIx (fV 12) (fC (.int 1)))) (fO gIx (fV 13) (fC (.int 1)))) (gN 15))
    (sSeq (sAsg (fTup (fCons (fO gSub (fO gMul (fO gIx (fO gIx (fV 5) (fV 11)) (fC (.int 0))) (fO gIx (fO gIx (fV 4) (fV 11)) (fC (.int 1)))) (fO gMul (fO gIx (fO gIx (fV 4) (fV 11)) (fC (.int 0))) (fO gIx (fO gIx (fV 5) (fV 11)) (fC (.int 1))))) (fCons (fO gMul (fO gIx (fO gIx (fV 5) (fV 11)) (fC (.int 1))) (fO gIx (fO gIx (fV 4) (fV 11)) (fC (.int 1)))) fNil))) (gN 16))
    (sDrop (fML mApp (fV 10) (fCons (fCP m__law_f (fCons (fO gAdd (fO gMul (fV 14) (fO gIx (fV 16) (fC (.int 1)))) (fO gMul (fO gIx (fV 16) (fC (.int 0))) (fV 15))) (fCons (fO gMul (fV 15) (fO gIx (fV 16) (fC (.int 1)))) fNil))) fNil))))))))
    (sRet (fTup (fCons (fV 4) (fCons (fL bTuple (fCons (fV 10) fNil)) fNil)))))))
noncomputable def m__law_due : List D → Option D := mkP 3 17 b__law_due
theorem lo__law_due (ds : List D) (d : D) : m__law_due ds = some d → D.los 0 ds = true ∧ ds.length = 3 := mkP_lo
theorem e__law_due (d0 d1 d2 : D) (h : D.los 0 [d0, d1, d2] = true) : m__law_due [d0, d1, d2] = ob (b__law_due [some d0, some d1, some d2, none, none, none, none, none, none, none, none, none, none, none, none, none, none] []) finP := mkP_e h rfl rfl
noncomputable def b_law : FS :=
  (sSeq (sAsg (fL m__law_state (fCons (fV 0) fNil)) (gN 1))
    (sSeq (sFor (iR1 (fC (.int 4))) (gN 2) (sSeq (sAsg (fL m__law_look (fCons (fV 1) fNil)) (gN 3))
    (sSeq (sAsg (fLst (fCons (fTup (fCons (fC (.int 0)) (fCons (fC (.int 0)) fNil))) (fCons (fTup (fCons (fO gSub (fO gIx (fV 3) (fC (.int 5))) (fC (.int 1))) (fCons (fO gSub (fO gIx (fV 3) (fC (.int 6))) (fC (.int 1))) fNil))) (fCons (fTup (fCons (fO gSub (fO gIx (fV 3) (fC (.int 5))) (fC (.int 1))) (fCons (fC (.int 0)) fNil))) fNil)))) (gN 4))
    (sSeq (sFor (iR1 (fC (.int 6))) (gN 5) (sDrop (fML mApp (fV 4) (fCons (fTup (fCons (fL m__law_next (fCons (fV 1) (fCons (fO gIx (fV 3) (fC (.int 5))) fNil))) (fCons (fL m__law_next (fCons (fV 1) (fCons (fO gIx (fV 3) (fC (.int 6))) fNil))) fNil))) fNil))))
    (sFor (iE (fV 4)) (gT 2 (gsCons (gN 6) (gsCons (gN 7) gsNil))) (sIf (tNo (tTr (fCP (m__law_same 12) (fCons (fCP m_cell_ray (fCons (fV 3) (fCons (fV 6) (fCons (fV 7) fNil)))) (fCons (fCP m__law_due (fCons (fV 3) (fCons (fV 6) (fCons (fV 7) fNil)))) fNil))))) (sRet (fC (.bl false))) sNext))))))
    (sRet (fC (.bl true)))))
noncomputable def m_law : GL := mkM 1 8 b_law
theorem ln_law (ds : List D) (M : Mem) (d : D × Mem) : m_law ds M = some d → ds.length = 1 := mkM_len
theorem e_law (d0 : D) (M : Mem) : m_law [d0] M = ob (b_law [some d0, none, none, none, none, none, none, none] M) finM := mkM_e rfl rfl

/-! ### fractions -/
def eF (q : Rat) : D := .tup [.int q.num, .int (q.den : Int)]
theorem lo_eF (n : Nat) (q : Rat) : D.lo n (eF q) = true := rfl
theorem los_nil (n : Nat) : D.los n [] = true := rfl
theorem los_cons (n : Nat) (d : D) (ds : List D) : D.los n (d :: ds) = (D.lo n d && D.los n ds) := rfl
theorem lo_int (n : Nat) (i : Int) : D.lo n (.int i) = true := rfl
theorem lo_tup (n : Nat) (ds : List D) : D.lo n (.tup ds) = D.los n ds := rfl
theorem ix_eF0 (q : Rat) (M : Mem) : gIx (eF q) (.int 0) M = some (.int q.num, M) := rfl
theorem ix_eF1 (q : Rat) (M : Mem) : gIx (eF q) (.int 1) M = some (.int (q.den : Int), M) := rfl
/-- the loop of frac -/
theorem frac_loop (x0 x1 : Option D) (M : Mem) (a b : Int) : ∀ (n : Nat) (x y : Int), y.natAbs < n → GInv a b x y → wl (tTr (fV 3)) (sPar 2 3 (fCons (fV 3) (fCons (fO gMod (fV 2) (fV 3)) fNil))) n [x0, x1, some (.int x), some (.int y)] M = some (.nx [x0, x1, some (.int (sg a b)), some (.int 0)], M)
  | 0, _, _, h, _ => absurd h (by omega)
  | n + 1, x, y, h, g => by
    unfold wl
    by_cases hy : y = 0
    · subst hy
      rw [← g.fin]
      rfl
    · obtain ⟨g', hm⟩ := g.next hy
      have ih := frac_loop x0 x1 M a b n y (x.fmod y) (by omega) g'
      have e1 : tTr (fV 3) [x0, x1, some (.int x), some (.int y)] M = some (true, M) := by
        simp only [↓ev_V, ↓ev_C, ↓ev_O, ↓ev_U, ↓ev_Nil, ↓ev_Cons, ↓ev_L, ↓ev_If, ↓ev_tV, ↓ev_tTr, ↓ev_tAn, ↓ev_tOr, ↓ev_tNo, ↓ev_NotB, ↓ev_AnB, ↓ev_OrB, ↓ev_Tup, ↓ev_Lst, ↓ev_CP, ↓ev_ML, ↓ev_Sli, ↓ev_oN, ↓ev_oS, ↓ev_Ch, ↓ev_gN, ↓ev_gsNil, ↓ev_gsCons, ↓ev_gT, ↓ev_Seq, ↓ev_Asg, ↓ev_Par, ↓ev_Ret, ↓ev_Drop, ↓ev_sIf, ↓ev_Next, ↓ev_Brk, ↓ev_Cont, ↓ev_RetN, ↓ev_Sub, ↓ev_For, ↓ev_body, ↓ev_iE, ↓ev_iR1, ↓ev_iR2, ↓ev_iZ, ↓ev_iEn, ↓ev_item, ↓ev_Lc, ↓ev_Yes, vOf_e, kO_e, kO2_e, kU_e, kCons_e, kCons2_e, kL_e, kIf_t, kIf_f, kB_e, kTr_e, kTr2_e, kAn_t, kAn_f, kOr_t, kOr_f, kNo_e, kNotB_e, kAnB_t, kAnB_f, kOrB_t, kOrB_f, kTup_e, kLst_e, kCP_e, kD_e, kML_e, kML2_e, kS1_e, kS2_e, kS3_e, kI_e, kCh1_e, kCh2_e, kCh3_t, kCh3_f, kAsg_e, kNx_e, kRet_e, kDrop_e, kSif_t, kSif_f, kSub1_e, kSub2_e, kSub3_e, kNxM_e, kFor_e, kBody_e, kIE_e, kSrc_e, kR1_e, kR2_e, kR2b_e, kZ1_e, kZ2_e, kEn_e, kMap_e, kMap2_e, kIt1_e, kIt2_t, kIt2_f, kSome_e, kLc_e, kLc2_e, kGc_e, ob_s, ob_n, then_nx, then_rt, then_bk, then_ct, par2_e, turn_nx, turn_ct, turn_bk, turn_rt, runT_nil, runT_cons, mapT_nil, mapT_cons, finP_nx, finM_rt, finM_nx, addE, subE, negE, cmpE, ixT, truI, truB, at0, at1, at2, at3, List.getElem?_cons_zero, List.getElem?_cons_succ, List.set_cons_zero, List.set_cons_succ, List.length_cons, List.length_nil, Nat.reduceAdd, Nat.reduceLeDiff, if_true, if_false, reduceIte, reduceCtorEq, id_eq, Bool.not_true, Bool.not_false, Bool.false_eq_true, and_self, Int.reduceLE, Int.reduceLT, Int.reduceNeg, decide_true, decide_false, Option.toList_some, Option.toList_none, List.cons_append, List.nil_append, ixRf, tupRf, lenRf, listRf, isLstRf, appRf, setRf, itemsRf, itemsT, itemsL, zipT, zipRf, allRf, anyRf, sumRf, tupT, slRf, isiE, tlE, lenT, lstAt_zero, lstAt_succ, Option.isSome_some, Nat.reduceLT, Bool.or_true, Bool.or_false, Bool.true_or, Bool.false_or, gIsN, gNotN, D.isNon, wipeD]
        simp [hy]
      have e2 : sPar 2 3 (fCons (fV 3) (fCons (fO gMod (fV 2) (fV 3)) fNil)) [x0, x1, some (.int x), some (.int y)] M = some (.nx [x0, x1, some (.int y), some (.int (x.fmod y))], M) := by
        simp only [↓ev_V, ↓ev_C, ↓ev_O, ↓ev_U, ↓ev_Nil, ↓ev_Cons, ↓ev_L, ↓ev_If, ↓ev_tV, ↓ev_tTr, ↓ev_tAn, ↓ev_tOr, ↓ev_tNo, ↓ev_NotB, ↓ev_AnB, ↓ev_OrB, ↓ev_Tup, ↓ev_Lst, ↓ev_CP, ↓ev_ML, ↓ev_Sli, ↓ev_oN, ↓ev_oS, ↓ev_Ch, ↓ev_gN, ↓ev_gsNil, ↓ev_gsCons, ↓ev_gT, ↓ev_Seq, ↓ev_Asg, ↓ev_Par, ↓ev_Ret, ↓ev_Drop, ↓ev_sIf, ↓ev_Next, ↓ev_Brk, ↓ev_Cont, ↓ev_RetN, ↓ev_Sub, ↓ev_For, ↓ev_body, ↓ev_iE, ↓ev_iR1, ↓ev_iR2, ↓ev_iZ, ↓ev_iEn, ↓ev_item, ↓ev_Lc, ↓ev_Yes, vOf_e, kO_e, kO2_e, kU_e, kCons_e, kCons2_e, kL_e, kIf_t, kIf_f, kB_e, kTr_e, kTr2_e, kAn_t, kAn_f, kOr_t, kOr_f, kNo_e, kNotB_e, kAnB_t, kAnB_f, kOrB_t, kOrB_f, kTup_e, kLst_e, kCP_e, kD_e, kML_e, kML2_e, kS1_e, kS2_e, kS3_e, kI_e, kCh1_e, kCh2_e, kCh3_t, kCh3_f, kAsg_e, kNx_e, kRet_e, kDrop_e, kSif_t, kSif_f, kSub1_e, kSub2_e, kSub3_e, kNxM_e, kFor_e, kBody_e, kIE_e, kSrc_e, kR1_e, kR2_e, kR2b_e, kZ1_e, kZ2_e, kEn_e, kMap_e, kMap2_e, kIt1_e, kIt2_t, kIt2_f, kSome_e, kLc_e, kLc2_e, kGc_e, ob_s, ob_n, then_nx, then_rt, then_bk, then_ct, par2_e, turn_nx, turn_ct, turn_bk, turn_rt, runT_nil, runT_cons, mapT_nil, mapT_cons, finP_nx, finM_rt, finM_nx, addE, subE, negE, cmpE, ixT, truI, truB, at0, at1, at2, at3, List.getElem?_cons_zero, List.getElem?_cons_succ, List.set_cons_zero, List.set_cons_succ, List.length_cons, List.length_nil, Nat.reduceAdd, Nat.reduceLeDiff, if_true, if_false, reduceIte, reduceCtorEq, id_eq, Bool.not_true, Bool.not_false, Bool.false_eq_true, and_self, Int.reduceLE, Int.reduceLT, Int.reduceNeg, decide_true, decide_false, Option.toList_some, Option.toList_none, List.cons_append, List.nil_append, ixRf, tupRf, lenRf, listRf, isLstRf, appRf, setRf, itemsRf, itemsT, itemsL, zipT, zipRf, allRf, anyRf, sumRf, tupT, slRf, isiE, tlE, lenT, lstAt_zero, lstAt_succ, Option.isSome_some, Nat.reduceLT, Bool.or_true, Bool.or_false, Bool.true_or, Bool.false_or, gIsN, gNotN, D.isNon, wipeD, modE hy]
      rw [e1]
      simp only [Option.bind_some, if_true, e2]
      exact ih

/-! ### numbers, further -/
theorem bt_abs {m : Nat} {x : Int} (h1 : -(2 ^ m) < x) (h2 : x < 2 ^ m) : Bt m x := by
  unfold Bt
  have : ((x.natAbs : Nat) : Int) < ((2 ^ m : Nat) : Int) := by
    have e : ((2 ^ m : Nat) : Int) = (2 : Int) ^ m := by simp
    rw [e]
    omega
  exact Int.ofNat_lt.mp this
theorem eF_int (n : Int) : D.tup [.int n, .int 1] = eF (n : Rat) := by
  unfold eF
  rw [Rat.num_intCast, Rat.den_intCast]
  rfl
theorem rb_int {m : Nat} (hm : 1 ≤ m) {x : Int} (h : Bt m x) : Rb m (x : Rat) := by
  unfold Rb
  rw [Rat.num_intCast, Rat.den_intCast]
  exact ⟨h, Bt.mono (m := 1) (by unfold Bt; decide) hm⟩
theorem rat_div_of {x y z : Rat} (h : y ≠ 0) (e : x = z * y) : x / y = z := by
  rw [e, Rat.div_def, Rat.mul_assoc, Rat.mul_inv_cancel _ h, Rat.mul_one]
theorem rat_mul_of {x y z : Rat} (h : y ≠ 0) (e : z = x / y) : x = z * y := by
  rw [e, Rat.div_def, Rat.mul_assoc, Rat.inv_mul_cancel _ h, Rat.mul_one]
theorem mul_small {i j : Int} (h1 : -(2 ^ 64) < i) (h2 : i < 2 ^ 64) (h3 : -(2 ^ 64) < j) (h4 : j < 2 ^ 64) : MulOk i j := mul_bt (bt_abs (m := 64) h1 h2) (bt_abs (m := 64) h3 h4) (by decide)
theorem upto3 : upto 0 (Int.toNat 3) = [.int 0, .int 1, .int 2] := rfl
theorem new_at {A B : Mem} {c : Cell} (C : Mem) {n : Nat} (h : A.length = n) : (A ++ (B ++ c :: C))[n + B.length]? = some c := by
  subst h
  rw [← List.append_assoc, List.getElem?_append_right (by simp)]
  simp
theorem new_at0 {A : Mem} {c : Cell} (C : Mem) {n : Nat} (h : A.length = n) : (A ++ c :: C)[n]? = some c := by
  subst h
  simp

/-! ### sizes by themselves -/
class Bg (n : outParam Nat) (i : Int) : Prop where
  one : 1 ≤ n
  bt : Bt (100 * n) i
theorem bg_pow {m n : Nat} (hm : 1 ≤ m) (hn : 1 ≤ n) : 2 ^ (100 * m) + 2 ^ (100 * n) ≤ 2 ^ (100 * (m + n)) := by
  have h1 : 2 ^ (100 * m) ≤ 2 ^ (100 * (m + n) - 1) := Nat.pow_le_pow_right (by decide) (by omega)
  have h2 : 2 ^ (100 * n) ≤ 2 ^ (100 * (m + n) - 1) := Nat.pow_le_pow_right (by decide) (by omega)
  have h3 : 2 ^ (100 * (m + n)) = 2 ^ (100 * (m + n) - 1) * 2 := by
    rw [← Nat.pow_succ]
    congr 1
    omega
  omega
instance bg_mul {m n : Nat} {i j : Int} [a : Bg m i] [b : Bg n j] : Bg (m + n) (i * j) := ⟨by have := a.one; omega, (a.bt.mul b.bt).mono (by omega)⟩
instance bg_add {m n : Nat} {i j : Int} [a : Bg m i] [b : Bg n j] : Bg (m + n) (i + j) := ⟨by have := a.one; omega, by
  have h := bg_pow a.one b.one
  have h1 := a.bt
  have h2 := b.bt
  unfold Bt at *
  omega⟩
instance bg_sub {m n : Nat} {i j : Int} [a : Bg m i] [b : Bg n j] : Bg (m + n) (i - j) := ⟨by have := a.one; omega, by
  have h := bg_pow a.one b.one
  have h1 := a.bt
  have h2 := b.bt
  unfold Bt at *
  omega⟩
instance bg_neg {m : Nat} {i : Int} [a : Bg m i] : Bg m (-i) := ⟨a.one, a.bt.neg⟩
theorem bg_small {i : Int} (h1 : -(2 ^ 100) < i) (h2 : i < 2 ^ 100) : Bg 1 i := ⟨by decide, bt_abs (m := 100) h1 h2⟩
instance : Bg 1 0 := bg_small (by decide) (by decide)
instance : Bg 1 1 := bg_small (by decide) (by decide)
instance : Bg 1 2 := bg_small (by decide) (by decide)
instance : Bg 1 3 := bg_small (by decide) (by decide)
instance : Bg 1 4 := bg_small (by decide) (by decide)
theorem mulT {m n : Nat} {i j : Int} [a : Bg m i] [b : Bg n j] (h : m + n ≤ 100000) (M : Mem) : gMul (.int i) (.int j) M = some (.int (i * j), M) := mulE (mul_bt a.bt b.bt (by omega)) M
theorem rb_bg {m n : Nat} {q : Rat} (h : Rb m q) (hm : m ≤ 100 * n) (hn : 1 ≤ n) : Bg n q.num ∧ Bg n (q.den : Int) := ⟨⟨hn, h.1.mono hm⟩, ⟨hn, h.2.mono hm⟩⟩
theorem bg_bt {n : Nat} {i : Int} (m : Nat) (a : Bg n i) (h : 100 * n ≤ m) : Bt m i := a.bt.mono h

/-! ### loops by what holds between two turns -/
theorem run_inv {gd : Mem → Prop} {body : D → Rho → Mem → Option (Fl × Mem)} (I : Rho → Mem → Prop) (hg : ∀ ρ M, I ρ M → gd M) : ∀ (ds : List D) (ρ : Rho) (M : Mem), (∀ d ∈ ds, ∀ ρ M, I ρ M → ∃ ρ' M', body d ρ M = some (.nx ρ', M') ∧ I ρ' M') → I ρ M → ∃ ρ' M', runG gd body ds ρ M = some (.nx ρ', M') ∧ I ρ' M'
  | [], ρ, M, _, i => ⟨ρ, M, runG_nil _ _ _ _ (hg ρ M i), i⟩
  | d :: ds, ρ, M, h, i => by
    obtain ⟨ρ1, M1, e, i1⟩ := h d List.mem_cons_self ρ M i
    obtain ⟨ρ2, M2, e2, i2⟩ := run_inv I hg ds ρ1 M1 (fun d' hd => h d' (List.mem_cons_of_mem _ hd)) i1
    exact ⟨ρ2, M2, by rw [runG_cons _ _ _ _ _ _ (hg ρ M i), e]; exact e2, i2⟩
theorem set_new {A B : Mem} {c c' : Cell} {C : Mem} {n : Nat} (h : A.length = n) : (A ++ (B ++ c :: C)).set (n + B.length) c' = A ++ (B ++ c' :: C) := by
  subst h
  rw [List.set_append_right _ _ (by omega), Nat.add_sub_cancel_left, List.set_append_right _ _ (Nat.le_refl _), Nat.sub_self]
  rfl

theorem run_n {gd : Mem → Prop} {body : D → Rho → Mem → Option (Fl × Mem)} (I : Nat → Rho → Mem → Prop) (hg : ∀ i ρ M, I i ρ M → gd M) : ∀ (ds : List D) (n : Nat) (ρ : Rho) (M : Mem), (∀ (j : Nat) (d : D), ds[j]? = some d → ∀ ρ M, I (n + j) ρ M → ∃ ρ' M', body d ρ M = some (.nx ρ', M') ∧ I (n + j + 1) ρ' M') → I n ρ M → ∃ ρ' M', runG gd body ds ρ M = some (.nx ρ', M') ∧ I (n + ds.length) ρ' M'
  | [], n, ρ, M, _, i => ⟨ρ, M, runG_nil _ _ _ _ (hg n ρ M i), i⟩
  | d :: ds, n, ρ, M, h, i => by
    obtain ⟨ρ1, M1, e, i1⟩ := h 0 d rfl ρ M i
    obtain ⟨ρ2, M2, e2, i2⟩ := run_n I hg ds (n + 1) ρ1 M1 (fun j d' hd ρ M i => by
      have := h (j + 1) d' (by simpa using hd) ρ M (by rw [show n + (j + 1) = n + 1 + j by omega]; exact i)
      rw [show n + (j + 1) + 1 = n + 1 + j + 1 by omega] at this
      exact this) i1
    exact ⟨ρ2, M2, by rw [runG_cons _ _ _ _ _ _ (hg n ρ M i), e]; exact e2, by rw [List.length_cons, show n + (ds.length + 1) = n + 1 + ds.length by omega]; exact i2⟩
theorem upto_get {lo : Int} {n j : Nat} {d : D} (h : (upto lo n)[j]? = some d) : j < n ∧ d = .int (lo + j) := by
  simp only [upto, List.getElem?_map, Option.map_eq_some_iff] at h
  obtain ⟨i, e, rfl⟩ := h
  obtain ⟨h1, h2⟩ := List.getElem?_eq_some_iff.mp e
  simp at h1 h2
  subst h2
  exact ⟨h1, rfl⟩
theorem upto_len (lo : Int) (n : Nat) : (upto lo n).length = n := by simp [upto]

theorem frac_e {a b : Int} (hb : b ≠ 0) (h : Bt 9000 b) : m_frac [.int a, .int b] = some (eF (Rat.divInt a b)) := by
  have w := sWhile_of (frac_loop (some (.int a)) (some (.int b)) [] a b _ b (a.fmod b) (Nat.lt_succ_self _) (GInv.start hb))
  obtain ⟨hs, hs'⟩ := sg_ne (a := a) hb
  rw [e_frac _ _ rfl]
  unfold b_frac
  simp only [↓ev_V, ↓ev_C, ↓ev_O, ↓ev_U, ↓ev_Nil, ↓ev_Cons, ↓ev_L, ↓ev_If, ↓ev_tV, ↓ev_tTr, ↓ev_tAn, ↓ev_tOr, ↓ev_tNo, ↓ev_NotB, ↓ev_AnB, ↓ev_OrB, ↓ev_Tup, ↓ev_Lst, ↓ev_CP, ↓ev_ML, ↓ev_Sli, ↓ev_oN, ↓ev_oS, ↓ev_Ch, ↓ev_gN, ↓ev_gsNil, ↓ev_gsCons, ↓ev_gT, ↓ev_Seq, ↓ev_Asg, ↓ev_Par, ↓ev_Ret, ↓ev_Drop, ↓ev_sIf, ↓ev_Next, ↓ev_Brk, ↓ev_Cont, ↓ev_RetN, ↓ev_Sub, ↓ev_For, ↓ev_body, ↓ev_iE, ↓ev_iR1, ↓ev_iR2, ↓ev_iZ, ↓ev_iEn, ↓ev_item, ↓ev_Lc, ↓ev_Yes, vOf_e, kO_e, kO2_e, kU_e, kCons_e, kCons2_e, kL_e, kIf_t, kIf_f, kB_e, kTr_e, kTr2_e, kAn_t, kAn_f, kOr_t, kOr_f, kNo_e, kNotB_e, kAnB_t, kAnB_f, kOrB_t, kOrB_f, kTup_e, kLst_e, kCP_e, kD_e, kML_e, kML2_e, kS1_e, kS2_e, kS3_e, kI_e, kCh1_e, kCh2_e, kCh3_t, kCh3_f, kAsg_e, kNx_e, kRet_e, kDrop_e, kSif_t, kSif_f, kSub1_e, kSub2_e, kSub3_e, kNxM_e, kFor_e, kBody_e, kIE_e, kSrc_e, kR1_e, kR2_e, kR2b_e, kZ1_e, kZ2_e, kEn_e, kMap_e, kMap2_e, kIt1_e, kIt2_t, kIt2_f, kSome_e, kLc_e, kLc2_e, kGc_e, ob_s, ob_n, then_nx, then_rt, then_bk, then_ct, par2_e, turn_nx, turn_ct, turn_bk, turn_rt, runT_nil, runT_cons, mapT_nil, mapT_cons, finP_nx, finM_rt, finM_nx, addE, subE, negE, cmpE, ixT, truI, truB, at0, at1, at2, at3, List.getElem?_cons_zero, List.getElem?_cons_succ, List.set_cons_zero, List.set_cons_succ, List.length_cons, List.length_nil, Nat.reduceAdd, Nat.reduceLeDiff, if_true, if_false, reduceIte, reduceCtorEq, id_eq, Bool.not_true, Bool.not_false, Bool.false_eq_true, and_self, Int.reduceLE, Int.reduceLT, Int.reduceNeg, decide_true, decide_false, Option.toList_some, Option.toList_none, List.cons_append, List.nil_append, ixRf, tupRf, lenRf, listRf, isLstRf, appRf, setRf, itemsRf, itemsT, itemsL, zipT, zipRf, allRf, anyRf, sumRf, tupT, slRf, isiE, tlE, lenT, lstAt_zero, lstAt_succ, Option.isSome_some, Nat.reduceLT, Bool.or_true, Bool.or_false, Bool.true_or, Bool.false_or, gIsN, gNotN, D.isNon, wipeD, modE hb, w, fdE hs (h.le hs')]
  rw [sg_num hb, sg_den hb]
  exact finP_rt _ _ (lo_eF 0 _)
/-- two fractions, one operation -/
theorem two_rb {m n : Nat} {q r : Rat} (hq : Rb m q) (hr : Rb n r) (h : m + n ≤ 8000) : MulOk q.num r.den ∧ MulOk r.num q.den ∧ MulOk q.den r.den ∧ MulOk q.num r.num ∧ MulOk q.den r.num ∧ Bt 9000 ((q.den : Int) * (r.den : Int)) ∧ Bt 9000 ((q.den : Int) * r.num) :=
  ⟨mul_bt hq.1 hr.2 (by omega), mul_bt hr.1 hq.2 (by omega), mul_bt hq.2 hr.2 (by omega), mul_bt hq.1 hr.1 (by omega), mul_bt hq.2 hr.1 (by omega), (hq.2.mul hr.2).mono (by omega), (hq.2.mul hr.1).mono (by omega)⟩
theorem plus_e {m n : Nat} {q r : Rat} (hq : Rb m q) (hr : Rb n r) (h : m + n ≤ 8000) : m_plus [eF q, eF r] = some (eF (q + r)) := by
  obtain ⟨h1, h2, h3, _, _, h4, _⟩ := two_rb hq hr h
  rw [e_plus _ _ rfl]
  unfold b_plus
  simp only [↓ev_V, ↓ev_C, ↓ev_O, ↓ev_U, ↓ev_Nil, ↓ev_Cons, ↓ev_L, ↓ev_If, ↓ev_tV, ↓ev_tTr, ↓ev_tAn, ↓ev_tOr, ↓ev_tNo, ↓ev_NotB, ↓ev_AnB, ↓ev_OrB, ↓ev_Tup, ↓ev_Lst, ↓ev_CP, ↓ev_ML, ↓ev_Sli, ↓ev_oN, ↓ev_oS, ↓ev_Ch, ↓ev_gN, ↓ev_gsNil, ↓ev_gsCons, ↓ev_gT, ↓ev_Seq, ↓ev_Asg, ↓ev_Par, ↓ev_Ret, ↓ev_Drop, ↓ev_sIf, ↓ev_Next, ↓ev_Brk, ↓ev_Cont, ↓ev_RetN, ↓ev_Sub, ↓ev_For, ↓ev_body, ↓ev_iE, ↓ev_iR1, ↓ev_iR2, ↓ev_iZ, ↓ev_iEn, ↓ev_item, ↓ev_Lc, ↓ev_Yes, vOf_e, kO_e, kO2_e, kU_e, kCons_e, kCons2_e, kL_e, kIf_t, kIf_f, kB_e, kTr_e, kTr2_e, kAn_t, kAn_f, kOr_t, kOr_f, kNo_e, kNotB_e, kAnB_t, kAnB_f, kOrB_t, kOrB_f, kTup_e, kLst_e, kCP_e, kD_e, kML_e, kML2_e, kS1_e, kS2_e, kS3_e, kI_e, kCh1_e, kCh2_e, kCh3_t, kCh3_f, kAsg_e, kNx_e, kRet_e, kDrop_e, kSif_t, kSif_f, kSub1_e, kSub2_e, kSub3_e, kNxM_e, kFor_e, kBody_e, kIE_e, kSrc_e, kR1_e, kR2_e, kR2b_e, kZ1_e, kZ2_e, kEn_e, kMap_e, kMap2_e, kIt1_e, kIt2_t, kIt2_f, kSome_e, kLc_e, kLc2_e, kGc_e, ob_s, ob_n, then_nx, then_rt, then_bk, then_ct, par2_e, turn_nx, turn_ct, turn_bk, turn_rt, runT_nil, runT_cons, mapT_nil, mapT_cons, finP_nx, finM_rt, finM_nx, addE, subE, negE, cmpE, ixT, truI, truB, at0, at1, at2, at3, List.getElem?_cons_zero, List.getElem?_cons_succ, List.set_cons_zero, List.set_cons_succ, List.length_cons, List.length_nil, Nat.reduceAdd, Nat.reduceLeDiff, if_true, if_false, reduceIte, reduceCtorEq, id_eq, Bool.not_true, Bool.not_false, Bool.false_eq_true, and_self, Int.reduceLE, Int.reduceLT, Int.reduceNeg, decide_true, decide_false, Option.toList_some, Option.toList_none, List.cons_append, List.nil_append, ixRf, tupRf, lenRf, listRf, isLstRf, appRf, setRf, itemsRf, itemsT, itemsL, zipT, zipRf, allRf, anyRf, sumRf, tupT, slRf, isiE, tlE, lenT, lstAt_zero, lstAt_succ, Option.isSome_some, Nat.reduceLT, Bool.or_true, Bool.or_false, Bool.true_or, Bool.false_or, gIsN, gNotN, D.isNon, wipeD, ix_eF0, ix_eF1, mulE h1, mulE h2, mulE h3, frac_e (Int.mul_ne_zero (den_ne q) (den_ne r)) h4, rat_sum]
  exact finP_rt _ _ (lo_eF 0 _)
theorem minus_e {m n : Nat} {q r : Rat} (hq : Rb m q) (hr : Rb n r) (h : m + n ≤ 8000) : m_minus [eF q, eF r] = some (eF (q - r)) := by
  obtain ⟨h1, h2, h3, _, _, h4, _⟩ := two_rb hq hr h
  rw [e_minus _ _ rfl]
  unfold b_minus
  simp only [↓ev_V, ↓ev_C, ↓ev_O, ↓ev_U, ↓ev_Nil, ↓ev_Cons, ↓ev_L, ↓ev_If, ↓ev_tV, ↓ev_tTr, ↓ev_tAn, ↓ev_tOr, ↓ev_tNo, ↓ev_NotB, ↓ev_AnB, ↓ev_OrB, ↓ev_Tup, ↓ev_Lst, ↓ev_CP, ↓ev_ML, ↓ev_Sli, ↓ev_oN, ↓ev_oS, ↓ev_Ch, ↓ev_gN, ↓ev_gsNil, ↓ev_gsCons, ↓ev_gT, ↓ev_Seq, ↓ev_Asg, ↓ev_Par, ↓ev_Ret, ↓ev_Drop, ↓ev_sIf, ↓ev_Next, ↓ev_Brk, ↓ev_Cont, ↓ev_RetN, ↓ev_Sub, ↓ev_For, ↓ev_body, ↓ev_iE, ↓ev_iR1, ↓ev_iR2, ↓ev_iZ, ↓ev_iEn, ↓ev_item, ↓ev_Lc, ↓ev_Yes, vOf_e, kO_e, kO2_e, kU_e, kCons_e, kCons2_e, kL_e, kIf_t, kIf_f, kB_e, kTr_e, kTr2_e, kAn_t, kAn_f, kOr_t, kOr_f, kNo_e, kNotB_e, kAnB_t, kAnB_f, kOrB_t, kOrB_f, kTup_e, kLst_e, kCP_e, kD_e, kML_e, kML2_e, kS1_e, kS2_e, kS3_e, kI_e, kCh1_e, kCh2_e, kCh3_t, kCh3_f, kAsg_e, kNx_e, kRet_e, kDrop_e, kSif_t, kSif_f, kSub1_e, kSub2_e, kSub3_e, kNxM_e, kFor_e, kBody_e, kIE_e, kSrc_e, kR1_e, kR2_e, kR2b_e, kZ1_e, kZ2_e, kEn_e, kMap_e, kMap2_e, kIt1_e, kIt2_t, kIt2_f, kSome_e, kLc_e, kLc2_e, kGc_e, ob_s, ob_n, then_nx, then_rt, then_bk, then_ct, par2_e, turn_nx, turn_ct, turn_bk, turn_rt, runT_nil, runT_cons, mapT_nil, mapT_cons, finP_nx, finM_rt, finM_nx, addE, subE, negE, cmpE, ixT, truI, truB, at0, at1, at2, at3, List.getElem?_cons_zero, List.getElem?_cons_succ, List.set_cons_zero, List.set_cons_succ, List.length_cons, List.length_nil, Nat.reduceAdd, Nat.reduceLeDiff, if_true, if_false, reduceIte, reduceCtorEq, id_eq, Bool.not_true, Bool.not_false, Bool.false_eq_true, and_self, Int.reduceLE, Int.reduceLT, Int.reduceNeg, decide_true, decide_false, Option.toList_some, Option.toList_none, List.cons_append, List.nil_append, ixRf, tupRf, lenRf, listRf, isLstRf, appRf, setRf, itemsRf, itemsT, itemsL, zipT, zipRf, allRf, anyRf, sumRf, tupT, slRf, isiE, tlE, lenT, lstAt_zero, lstAt_succ, Option.isSome_some, Nat.reduceLT, Bool.or_true, Bool.or_false, Bool.true_or, Bool.false_or, gIsN, gNotN, D.isNon, wipeD, ix_eF0, ix_eF1, mulE h1, mulE h2, mulE h3, frac_e (Int.mul_ne_zero (den_ne q) (den_ne r)) h4, rat_less]
  exact finP_rt _ _ (lo_eF 0 _)
theorem times_e {m n : Nat} {q r : Rat} (hq : Rb m q) (hr : Rb n r) (h : m + n ≤ 8000) : m_times [eF q, eF r] = some (eF (q * r)) := by
  obtain ⟨_, _, h3, h1, _, h4, _⟩ := two_rb hq hr h
  rw [e_times _ _ rfl]
  unfold b_times
  simp only [↓ev_V, ↓ev_C, ↓ev_O, ↓ev_U, ↓ev_Nil, ↓ev_Cons, ↓ev_L, ↓ev_If, ↓ev_tV, ↓ev_tTr, ↓ev_tAn, ↓ev_tOr, ↓ev_tNo, ↓ev_NotB, ↓ev_AnB, ↓ev_OrB, ↓ev_Tup, ↓ev_Lst, ↓ev_CP, ↓ev_ML, ↓ev_Sli, ↓ev_oN, ↓ev_oS, ↓ev_Ch, ↓ev_gN, ↓ev_gsNil, ↓ev_gsCons, ↓ev_gT, ↓ev_Seq, ↓ev_Asg, ↓ev_Par, ↓ev_Ret, ↓ev_Drop, ↓ev_sIf, ↓ev_Next, ↓ev_Brk, ↓ev_Cont, ↓ev_RetN, ↓ev_Sub, ↓ev_For, ↓ev_body, ↓ev_iE, ↓ev_iR1, ↓ev_iR2, ↓ev_iZ, ↓ev_iEn, ↓ev_item, ↓ev_Lc, ↓ev_Yes, vOf_e, kO_e, kO2_e, kU_e, kCons_e, kCons2_e, kL_e, kIf_t, kIf_f, kB_e, kTr_e, kTr2_e, kAn_t, kAn_f, kOr_t, kOr_f, kNo_e, kNotB_e, kAnB_t, kAnB_f, kOrB_t, kOrB_f, kTup_e, kLst_e, kCP_e, kD_e, kML_e, kML2_e, kS1_e, kS2_e, kS3_e, kI_e, kCh1_e, kCh2_e, kCh3_t, kCh3_f, kAsg_e, kNx_e, kRet_e, kDrop_e, kSif_t, kSif_f, kSub1_e, kSub2_e, kSub3_e, kNxM_e, kFor_e, kBody_e, kIE_e, kSrc_e, kR1_e, kR2_e, kR2b_e, kZ1_e, kZ2_e, kEn_e, kMap_e, kMap2_e, kIt1_e, kIt2_t, kIt2_f, kSome_e, kLc_e, kLc2_e, kGc_e, ob_s, ob_n, then_nx, then_rt, then_bk, then_ct, par2_e, turn_nx, turn_ct, turn_bk, turn_rt, runT_nil, runT_cons, mapT_nil, mapT_cons, finP_nx, finM_rt, finM_nx, addE, subE, negE, cmpE, ixT, truI, truB, at0, at1, at2, at3, List.getElem?_cons_zero, List.getElem?_cons_succ, List.set_cons_zero, List.set_cons_succ, List.length_cons, List.length_nil, Nat.reduceAdd, Nat.reduceLeDiff, if_true, if_false, reduceIte, reduceCtorEq, id_eq, Bool.not_true, Bool.not_false, Bool.false_eq_true, and_self, Int.reduceLE, Int.reduceLT, Int.reduceNeg, decide_true, decide_false, Option.toList_some, Option.toList_none, List.cons_append, List.nil_append, ixRf, tupRf, lenRf, listRf, isLstRf, appRf, setRf, itemsRf, itemsT, itemsL, zipT, zipRf, allRf, anyRf, sumRf, tupT, slRf, isiE, tlE, lenT, lstAt_zero, lstAt_succ, Option.isSome_some, Nat.reduceLT, Bool.or_true, Bool.or_false, Bool.true_or, Bool.false_or, gIsN, gNotN, D.isNon, wipeD, ix_eF0, ix_eF1, mulE h1, mulE h3, frac_e (Int.mul_ne_zero (den_ne q) (den_ne r)) h4, rat_prod]
  exact finP_rt _ _ (lo_eF 0 _)

/-! ### equality of data -/
theorem pys_ints : ∀ ns : List Int, D.pys (ns.map D.int) = some (ns.map PyData.int)
  | [] => rfl
  | n :: ns => by simp [D.pys, D.py, pys_ints ns]
theorem lay_ints : ∀ ns : List Int, PyData.canLayAll0 (ns.map PyData.int) = true
  | [] => rfl
  | n :: ns => by simp [PyData.canLayAll0, PyData.canLay0, lay_ints ns]
theorem depth_ints : ∀ ns : List Int, PyData.depthAll (ns.map PyData.int) = 0
  | [] => rfl
  | n :: ns => by simp [PyData.depthAll, PyData.depth, depth_ints ns]
theorem shaped_ints (ns : List Int) : SeqAt.shaped (.list (ns.map .int)) = true := by
  simp [SeqAt.shaped, PyData.canLay0, PyData.depth, lay_ints, depth_ints]
theorem eqR {M : Mem} {i j : Nat} {ds es : List D} {ps qs : List PyData} (hi : M[i]? = some (.lst ds)) (hj : M[j]? = some (.lst es)) (h1 : D.pys ds = some ps) (h2 : D.pys es = some qs) (s1 : SeqAt.shaped (.list ps) = true) (s2 : SeqAt.shaped (.list qs) = true) (neg : Bool) :
    gEqB neg (.rf i) (.rf j) M = some (.bl (if neg then !PyData.eqv (.list ps) (.list qs) else PyData.eqv (.list ps) (.list qs)), M) := by
  simp only [gEqB, toPy, hi, hj, h1, h2, Option.map_some, Option.bind_some]
  rw [if_pos ⟨s1, s2⟩]
theorem eqD {x y : D} {p q : PyData} (hx : x.py = some p) (hy : y.py = some q) (s1 : SeqAt.shaped p = true) (s2 : SeqAt.shaped q = true) (neg : Bool) (M : Mem) : gEqB neg x y M = some (.bl (if neg then !PyData.eqv p q else PyData.eqv p q), M) := by
  have t : ∀ {d : D} {r : PyData}, d.py = some r → toPy M d = some r := fun {d r} h => by
    cases d <;> first | exact h | (cases h)
  simp only [gEqB, t hx, t hy, Option.bind_some]
  rw [if_pos ⟨s1, s2⟩]
theorem eqI (i j : Int) (neg : Bool) (M : Mem) : gEqB neg (.int i) (.int j) M = some (.bl (if neg then !(i == j) else i == j), M) := by
  rw [eqD (x := .int i) (y := .int j) rfl rfl rfl rfl]
  simp [PyData.eqv]

/-! ### draws of the sixth family -/
structure Ds where
  i : Int
  r : Int
  x : Int
structure Dk6 where
  B : Mem
  a : Nat
  s : Nat
  ns : List Int
structure Dk6.Ok (k : Dk6) : Prop where
  ha : k.B[k.a]? = some (.lst (k.ns.map .int))
  hs : k.s < k.B.length
  ne : k.a ≠ k.s
  nn : k.ns ≠ []
  lo : k.B.all (Cell.lo k.B.length) = true
def Ds.Ok (d : Ds) : Prop := 0 ≤ d.i ∧ 0 ≤ d.x ∧ d.x < 2305843009213693951
def Dk6.M (k : Dk6) (d : Ds) : Mem := k.B.set k.s (.lst [.rf k.a, .int d.i, .int d.r, .int d.x])
section
variable {k : Dk6} {d : Ds} {rest : Mem}
theorem Dk6.len : (k.M d).length = k.B.length := by simp [Dk6.M]
theorem Dk6.Ok.atS (h : k.Ok) : (k.M d ++ rest)[k.s]? = some (.lst [.rf k.a, .int d.i, .int d.r, .int d.x]) := by
  rw [List.getElem?_append_left (by rw [Dk6.len]; exact h.hs)]
  exact List.getElem?_set_self h.hs
theorem Dk6.Ok.atA (h : k.Ok) : (k.M d ++ rest)[k.a]? = some (.lst (k.ns.map .int)) := by
  have ha := (List.getElem?_eq_some_iff.mp h.ha).1
  rw [List.getElem?_append_left (by rw [Dk6.len]; exact ha)]
  rw [Dk6.M, List.getElem?_set_ne (fun z => h.ne z.symm)]
  exact h.ha
theorem Dk6.Ok.set (h : k.Ok) (i r x : Int) : (k.M d ++ rest).set k.s (.lst [.rf k.a, .int i, .int r, .int x]) = k.M ⟨i, r, x⟩ ++ rest := by
  rw [List.set_append_left _ _ (by rw [Dk6.len]; exact h.hs), Dk6.M, List.set_set]
  rfl
theorem Dk6.Ok.all (h : k.Ok) {n : Nat} (hn : k.B.length ≤ n) : (k.M d).all (Cell.lo n) = true := by
  rw [List.all_eq_true]
  intro c hc
  rw [Dk6.M] at hc
  rcases List.mem_or_eq_of_mem_set hc with hc | rfl
  · exact Cell.lo_le hn (List.all_eq_true.mp h.lo c hc)
  · have ha := (List.getElem?_eq_some_iff.mp h.ha).1
    simp only [Cell.lo, D.los, D.lo, Bool.and_true, decide_eq_true_eq]
    omega
end
/-- the number that is next, by its place -/
def Dk6.num (k : Dk6) (d : Ds) : Int := k.ns.getD (d.i.toNat % k.ns.length) 0
def Dk6.mix (k : Dk6) (d : Ds) : Int := (d.x * 69621 + (k.num d).fmod 2305843009213693921 + (d.i + 1)).fmod 2305843009213693951
def Dk6.draw (k : Dk6) (n : Int) (d : Ds) : Int × Ds :=
  if 0 < d.r then (d.r.fmod n, ⟨d.i, d.r.fdiv n, d.x⟩)
  else if 1000000000000000000 ≤ k.num d ∧ d.i + 1 ≤ k.ns.length then ((k.num d).fmod n, ⟨d.i + 1, (k.num d).fdiv n, d.x⟩)
  else (((k.mix d * k.mix d).fmod 2305843009213693951 |>.fdiv 4096).fmod n, ⟨d.i + 1, d.r, k.mix d⟩)
theorem Dk6.draw_lt (k : Dk6) {n : Int} (hn : 0 < n) (d : Ds) : 0 ≤ (k.draw n d).1 ∧ (k.draw n d).1 < n := by
  unfold Dk6.draw
  split
  · exact fmod_pos hn
  · split <;> exact fmod_pos hn
theorem Dk6.draw_ok (k : Dk6) {n : Int} {d : Ds} (h : d.Ok) : (k.draw n d).2.Ok := by
  obtain ⟨h1, h2, h3⟩ := h
  unfold Dk6.draw
  split
  · exact ⟨h1, h2, h3⟩
  · split
    · exact ⟨by show 0 ≤ d.i + 1; omega, h2, h3⟩
    · have := @fmod_pos (d.x * 69621 + (k.num d).fmod 2305843009213693921 + (d.i + 1)) 2305843009213693951 (by decide)
      exact ⟨by show 0 ≤ d.i + 1; omega, this.1, this.2⟩
theorem bt_of_lt {m : Nat} {x : Int} (h1 : 0 ≤ x) (h2 : x < 2 ^ m) : Bt m x := by
  unfold Bt
  have : ((x.natAbs : Nat) : Int) < ((2 ^ m : Nat) : Int) := by
    rw [Int.natAbs_of_nonneg h1]
    simpa using h2
  exact Int.ofNat_lt.mp this
theorem Dk6.Ok.next {k : Dk6} (h : k.Ok) {d : Ds} (hd : d.Ok) {n : Int} (hn : 0 < n) (hn' : n < 2 ^ 100) (rest : Mem) :
    m__law_next [.rf k.s, .int n] (k.M d ++ rest) = some (.int (k.draw n d).1, k.M (k.draw n d).2 ++ rest) := by
  obtain ⟨h1, h2, h3⟩ := hd
  have nz : n ≠ 0 := by omega
  have nb : Bt 9000 n := (bt_of_lt (m := 100) (by omega) hn').mono (by decide)
  have hl : 0 < k.ns.length := List.length_pos_iff.mpr h.nn
  have hL : ((List.map D.int k.ns).length : Int) = (k.ns.length : Int) := by simp
  have lz : (k.ns.length : Int) ≠ 0 := by omega
  have hix : atI (List.map D.int k.ns) (d.i.fmod (k.ns.length : Int)) = some (.int (k.num d)) := by
    have e : d.i.fmod (k.ns.length : Int) = ((d.i.toNat % k.ns.length : Nat) : Int) := by
      rw [Int.fmod_eq_emod_of_nonneg _ (by omega)]
      have : ((d.i.toNat : Nat) : Int) = d.i := Int.toNat_of_nonneg h1
      rw [Int.natCast_emod, this]
    have hlt : d.i.toNat % k.ns.length < k.ns.length := Nat.mod_lt _ hl
    refine atI_of e ?_
    rw [List.getElem?_map, List.getElem?_eq_getElem hlt, Dk6.num, List.getD_eq_getElem?_getD, List.getElem?_eq_getElem hlt]
    rfl
  have hp : ((10 : Int) ^ (18 : Int).toNat) = 1000000000000000000 := by decide
  have s2 : ∀ {d : Ds} {v : D}, setAt (.rf k.s) (.int 2) v (k.M d ++ rest) = some ((k.M d ++ rest).set k.s (.lst [.rf k.a, .int d.i, v, .int d.x])) := fun {d v} => setE h.atS (show ixN 4 2 = some 2 from rfl) v
  have s1 : ∀ {d : Ds} {v : D}, setAt (.rf k.s) (.int 1) v (k.M d ++ rest) = some ((k.M d ++ rest).set k.s (.lst [.rf k.a, v, .int d.r, .int d.x])) := fun {d v} => setE h.atS (show ixN 4 1 = some 1 from rfl) v
  have s3 : ∀ {d : Ds} {v : D}, setAt (.rf k.s) (.int 3) v (k.M d ++ rest) = some ((k.M d ++ rest).set k.s (.lst [.rf k.a, .int d.i, .int d.r, v])) := fun {d v} => setE h.atS (show ixN 4 3 = some 3 from rfl) v
  have pw := powE (show (0 : Int) ≤ 18 ∧ (18 : Int) ≤ 1000000 ∧ (10 : Int).natAbs < 2 ^ 64 by decide)
  have hm : (k.mix d) = (d.x * 69621 + (k.num d).fmod 2305843009213693921 + (d.i + 1)).fmod 2305843009213693951 := rfl
  have mb := @fmod_pos (d.x * 69621 + (k.num d).fmod 2305843009213693921 + (d.i + 1)) 2305843009213693951 (by decide)
  rw [← hm] at mb
  have m1 := mulE (mul_bt (bt_of_lt (m := 62) h2 (by omega)) (bt_of_lt (m := 62) (x := 69621) (by decide) (by decide)) (by decide))
  have m2 := mulE (mul_bt (bt_of_lt (m := 62) mb.1 (by omega)) (bt_of_lt (m := 62) mb.1 (by omega)) (by decide))
  have z1 := fun i M => modE (i := i) (j := 2305843009213693921) (by decide) M
  have z2 := fun i M => modE (i := i) (j := 2305843009213693951) (by decide) M
  have z3 := fun i M => fdE (i := i) (j := 4096) (by decide) ((bt_of_lt (m := 62) (x := 4096) (by decide) (by decide)).mono (by decide)) M
  rw [e__law_next]
  unfold b__law_next
  by_cases hr : 0 < d.r
  · rw [show k.draw n d = (d.r.fmod n, ⟨d.i, d.r.fdiv n, d.x⟩) from if_pos hr]
    simp only [↓ev_V, ↓ev_C, ↓ev_O, ↓ev_U, ↓ev_Nil, ↓ev_Cons, ↓ev_L, ↓ev_If, ↓ev_tV, ↓ev_tTr, ↓ev_tAn, ↓ev_tOr, ↓ev_tNo, ↓ev_NotB, ↓ev_AnB, ↓ev_OrB, ↓ev_Tup, ↓ev_Lst, ↓ev_CP, ↓ev_ML, ↓ev_Sli, ↓ev_oN, ↓ev_oS, ↓ev_Ch, ↓ev_gN, ↓ev_gsNil, ↓ev_gsCons, ↓ev_gT, ↓ev_Seq, ↓ev_Asg, ↓ev_Par, ↓ev_Ret, ↓ev_Drop, ↓ev_sIf, ↓ev_Next, ↓ev_Brk, ↓ev_Cont, ↓ev_RetN, ↓ev_Sub, ↓ev_For, ↓ev_body, ↓ev_iE, ↓ev_iR1, ↓ev_iR2, ↓ev_iZ, ↓ev_iEn, ↓ev_item, ↓ev_Lc, ↓ev_Yes, vOf_e, kO_e, kO2_e, kU_e, kCons_e, kCons2_e, kL_e, kIf_t, kIf_f, kB_e, kTr_e, kTr2_e, kAn_t, kAn_f, kOr_t, kOr_f, kNo_e, kNotB_e, kAnB_t, kAnB_f, kOrB_t, kOrB_f, kTup_e, kLst_e, kCP_e, kD_e, kML_e, kML2_e, kS1_e, kS2_e, kS3_e, kI_e, kCh1_e, kCh2_e, kCh3_t, kCh3_f, kAsg_e, kNx_e, kRet_e, kDrop_e, kSif_t, kSif_f, kSub1_e, kSub2_e, kSub3_e, kNxM_e, kFor_e, kBody_e, kIE_e, kSrc_e, kR1_e, kR2_e, kR2b_e, kZ1_e, kZ2_e, kEn_e, kMap_e, kMap2_e, kIt1_e, kIt2_t, kIt2_f, kSome_e, kLc_e, kLc2_e, kGc_e, ob_s, ob_n, then_nx, then_rt, then_bk, then_ct, par2_e, turn_nx, turn_ct, turn_bk, turn_rt, runT_nil, runT_cons, mapT_nil, mapT_cons, finP_nx, finM_rt, finM_nx, addE, subE, negE, cmpE, ixT, truI, truB, at0, at1, at2, at3, List.getElem?_cons_zero, List.getElem?_cons_succ, List.set_cons_zero, List.set_cons_succ, List.length_cons, List.length_nil, Nat.reduceAdd, Nat.reduceLeDiff, if_true, if_false, reduceIte, reduceCtorEq, id_eq, Bool.not_true, Bool.not_false, Bool.false_eq_true, and_self, Int.reduceLE, Int.reduceLT, Int.reduceNeg, decide_true, decide_false, Option.toList_some, Option.toList_none, List.cons_append, List.nil_append, ixRf, tupRf, lenRf, listRf, isLstRf, appRf, setRf, itemsRf, itemsT, itemsL, zipT, zipRf, allRf, anyRf, sumRf, tupT, slRf, isiE, tlE, lenT, lstAt_zero, lstAt_succ, Option.isSome_some, Nat.reduceLT, Bool.or_true, Bool.or_false, Bool.true_or, Bool.false_or, gIsN, gNotN, D.isNon, wipeD, lstAt_of h.atS, hr, decide_true, modE nz, fdE nz nb, show ixN 4 2 = some 2 from rfl, h.set]
  · by_cases hb : 1000000000000000000 ≤ k.num d
    · by_cases hi : d.i + 1 ≤ (k.ns.length : Int)
      · rw [show k.draw n d = ((k.num d).fmod n, ⟨d.i + 1, (k.num d).fdiv n, d.x⟩) by unfold Dk6.draw; rw [if_neg hr, if_pos ⟨hb, hi⟩]]
        simp only [↓ev_V, ↓ev_C, ↓ev_O, ↓ev_U, ↓ev_Nil, ↓ev_Cons, ↓ev_L, ↓ev_If, ↓ev_tV, ↓ev_tTr, ↓ev_tAn, ↓ev_tOr, ↓ev_tNo, ↓ev_NotB, ↓ev_AnB, ↓ev_OrB, ↓ev_Tup, ↓ev_Lst, ↓ev_CP, ↓ev_ML, ↓ev_Sli, ↓ev_oN, ↓ev_oS, ↓ev_Ch, ↓ev_gN, ↓ev_gsNil, ↓ev_gsCons, ↓ev_gT, ↓ev_Seq, ↓ev_Asg, ↓ev_Par, ↓ev_Ret, ↓ev_Drop, ↓ev_sIf, ↓ev_Next, ↓ev_Brk, ↓ev_Cont, ↓ev_RetN, ↓ev_Sub, ↓ev_For, ↓ev_body, ↓ev_iE, ↓ev_iR1, ↓ev_iR2, ↓ev_iZ, ↓ev_iEn, ↓ev_item, ↓ev_Lc, ↓ev_Yes, vOf_e, kO_e, kO2_e, kU_e, kCons_e, kCons2_e, kL_e, kIf_t, kIf_f, kB_e, kTr_e, kTr2_e, kAn_t, kAn_f, kOr_t, kOr_f, kNo_e, kNotB_e, kAnB_t, kAnB_f, kOrB_t, kOrB_f, kTup_e, kLst_e, kCP_e, kD_e, kML_e, kML2_e, kS1_e, kS2_e, kS3_e, kI_e, kCh1_e, kCh2_e, kCh3_t, kCh3_f, kAsg_e, kNx_e, kRet_e, kDrop_e, kSif_t, kSif_f, kSub1_e, kSub2_e, kSub3_e, kNxM_e, kFor_e, kBody_e, kIE_e, kSrc_e, kR1_e, kR2_e, kR2b_e, kZ1_e, kZ2_e, kEn_e, kMap_e, kMap2_e, kIt1_e, kIt2_t, kIt2_f, kSome_e, kLc_e, kLc2_e, kGc_e, ob_s, ob_n, then_nx, then_rt, then_bk, then_ct, par2_e, turn_nx, turn_ct, turn_bk, turn_rt, runT_nil, runT_cons, mapT_nil, mapT_cons, finP_nx, finM_rt, finM_nx, addE, subE, negE, cmpE, ixT, truI, truB, at0, at1, at2, at3, List.getElem?_cons_zero, List.getElem?_cons_succ, List.set_cons_zero, List.set_cons_succ, List.length_cons, List.length_nil, Nat.reduceAdd, Nat.reduceLeDiff, if_true, if_false, reduceIte, reduceCtorEq, id_eq, Bool.not_true, Bool.not_false, Bool.false_eq_true, and_self, Int.reduceLE, Int.reduceLT, Int.reduceNeg, decide_true, decide_false, Option.toList_some, Option.toList_none, List.cons_append, List.nil_append, ixRf, tupRf, lenRf, listRf, isLstRf, appRf, setRf, itemsRf, itemsT, itemsL, zipT, zipRf, allRf, anyRf, sumRf, tupT, slRf, isiE, tlE, lenT, lstAt_zero, lstAt_succ, Option.isSome_some, Nat.reduceLT, Bool.or_true, Bool.or_false, Bool.true_or, Bool.false_or, gIsN, gNotN, D.isNon, wipeD, lstAt_of h.atS, hr, decide_false, lstAt_of h.atA, hL, modE lz, lstAt_of h.atA, hix, s1, show ixN 4 1 = some 1 from rfl, show ixN 4 2 = some 2 from rfl, h.set, pw, hp, hb, hi, decide_true, modE nz, fdE nz nb]
      · rw [show k.draw n d = (((k.mix d * k.mix d).fmod 2305843009213693951 |>.fdiv 4096).fmod n, ⟨d.i + 1, d.r, k.mix d⟩) by unfold Dk6.draw; rw [if_neg hr, if_neg fun z => hi z.2]]
        simp only [↓ev_V, ↓ev_C, ↓ev_O, ↓ev_U, ↓ev_Nil, ↓ev_Cons, ↓ev_L, ↓ev_If, ↓ev_tV, ↓ev_tTr, ↓ev_tAn, ↓ev_tOr, ↓ev_tNo, ↓ev_NotB, ↓ev_AnB, ↓ev_OrB, ↓ev_Tup, ↓ev_Lst, ↓ev_CP, ↓ev_ML, ↓ev_Sli, ↓ev_oN, ↓ev_oS, ↓ev_Ch, ↓ev_gN, ↓ev_gsNil, ↓ev_gsCons, ↓ev_gT, ↓ev_Seq, ↓ev_Asg, ↓ev_Par, ↓ev_Ret, ↓ev_Drop, ↓ev_sIf, ↓ev_Next, ↓ev_Brk, ↓ev_Cont, ↓ev_RetN, ↓ev_Sub, ↓ev_For, ↓ev_body, ↓ev_iE, ↓ev_iR1, ↓ev_iR2, ↓ev_iZ, ↓ev_iEn, ↓ev_item, ↓ev_Lc, ↓ev_Yes, vOf_e, kO_e, kO2_e, kU_e, kCons_e, kCons2_e, kL_e, kIf_t, kIf_f, kB_e, kTr_e, kTr2_e, kAn_t, kAn_f, kOr_t, kOr_f, kNo_e, kNotB_e, kAnB_t, kAnB_f, kOrB_t, kOrB_f, kTup_e, kLst_e, kCP_e, kD_e, kML_e, kML2_e, kS1_e, kS2_e, kS3_e, kI_e, kCh1_e, kCh2_e, kCh3_t, kCh3_f, kAsg_e, kNx_e, kRet_e, kDrop_e, kSif_t, kSif_f, kSub1_e, kSub2_e, kSub3_e, kNxM_e, kFor_e, kBody_e, kIE_e, kSrc_e, kR1_e, kR2_e, kR2b_e, kZ1_e, kZ2_e, kEn_e, kMap_e, kMap2_e, kIt1_e, kIt2_t, kIt2_f, kSome_e, kLc_e, kLc2_e, kGc_e, ob_s, ob_n, then_nx, then_rt, then_bk, then_ct, par2_e, turn_nx, turn_ct, turn_bk, turn_rt, runT_nil, runT_cons, mapT_nil, mapT_cons, finP_nx, finM_rt, finM_nx, addE, subE, negE, cmpE, ixT, truI, truB, at0, at1, at2, at3, List.getElem?_cons_zero, List.getElem?_cons_succ, List.set_cons_zero, List.set_cons_succ, List.length_cons, List.length_nil, Nat.reduceAdd, Nat.reduceLeDiff, if_true, if_false, reduceIte, reduceCtorEq, id_eq, Bool.not_true, Bool.not_false, Bool.false_eq_true, and_self, Int.reduceLE, Int.reduceLT, Int.reduceNeg, decide_true, decide_false, Option.toList_some, Option.toList_none, List.cons_append, List.nil_append, ixRf, tupRf, lenRf, listRf, isLstRf, appRf, setRf, itemsRf, itemsT, itemsL, zipT, zipRf, allRf, anyRf, sumRf, tupT, slRf, isiE, tlE, lenT, lstAt_zero, lstAt_succ, Option.isSome_some, Nat.reduceLT, Bool.or_true, Bool.or_false, Bool.true_or, Bool.false_or, gIsN, gNotN, D.isNon, wipeD, lstAt_of h.atS, hr, decide_false, lstAt_of h.atA, hL, modE lz, lstAt_of h.atA, hix, show ixN 4 1 = some 1 from rfl, show ixN 4 3 = some 3 from rfl, h.set, pw, hp, hb, hi, decide_true, z1, z2, z3, m1, ← hm, m2, modE nz]
    · rw [show k.draw n d = (((k.mix d * k.mix d).fmod 2305843009213693951 |>.fdiv 4096).fmod n, ⟨d.i + 1, d.r, k.mix d⟩) by unfold Dk6.draw; rw [if_neg hr, if_neg fun z => hb z.1]]
      simp only [↓ev_V, ↓ev_C, ↓ev_O, ↓ev_U, ↓ev_Nil, ↓ev_Cons, ↓ev_L, ↓ev_If, ↓ev_tV, ↓ev_tTr, ↓ev_tAn, ↓ev_tOr, ↓ev_tNo, ↓ev_NotB, ↓ev_AnB, ↓ev_OrB, ↓ev_Tup, ↓ev_Lst, ↓ev_CP, ↓ev_ML, ↓ev_Sli, ↓ev_oN, ↓ev_oS, ↓ev_Ch, ↓ev_gN, ↓ev_gsNil, ↓ev_gsCons, ↓ev_gT, ↓ev_Seq, ↓ev_Asg, ↓ev_Par, ↓ev_Ret, ↓ev_Drop, ↓ev_sIf, ↓ev_Next, ↓ev_Brk, ↓ev_Cont, ↓ev_RetN, ↓ev_Sub, ↓ev_For, ↓ev_body, ↓ev_iE, ↓ev_iR1, ↓ev_iR2, ↓ev_iZ, ↓ev_iEn, ↓ev_item, ↓ev_Lc, ↓ev_Yes, vOf_e, kO_e, kO2_e, kU_e, kCons_e, kCons2_e, kL_e, kIf_t, kIf_f, kB_e, kTr_e, kTr2_e, kAn_t, kAn_f, kOr_t, kOr_f, kNo_e, kNotB_e, kAnB_t, kAnB_f, kOrB_t, kOrB_f, kTup_e, kLst_e, kCP_e, kD_e, kML_e, kML2_e, kS1_e, kS2_e, kS3_e, kI_e, kCh1_e, kCh2_e, kCh3_t, kCh3_f, kAsg_e, kNx_e, kRet_e, kDrop_e, kSif_t, kSif_f, kSub1_e, kSub2_e, kSub3_e, kNxM_e, kFor_e, kBody_e, kIE_e, kSrc_e, kR1_e, kR2_e, kR2b_e, kZ1_e, kZ2_e, kEn_e, kMap_e, kMap2_e, kIt1_e, kIt2_t, kIt2_f, kSome_e, kLc_e, kLc2_e, kGc_e, ob_s, ob_n, then_nx, then_rt, then_bk, then_ct, par2_e, turn_nx, turn_ct, turn_bk, turn_rt, runT_nil, runT_cons, mapT_nil, mapT_cons, finP_nx, finM_rt, finM_nx, addE, subE, negE, cmpE, ixT, truI, truB, at0, at1, at2, at3, List.getElem?_cons_zero, List.getElem?_cons_succ, List.set_cons_zero, List.set_cons_succ, List.length_cons, List.length_nil, Nat.reduceAdd, Nat.reduceLeDiff, if_true, if_false, reduceIte, reduceCtorEq, id_eq, Bool.not_true, Bool.not_false, Bool.false_eq_true, and_self, Int.reduceLE, Int.reduceLT, Int.reduceNeg, decide_true, decide_false, Option.toList_some, Option.toList_none, List.cons_append, List.nil_append, ixRf, tupRf, lenRf, listRf, isLstRf, appRf, setRf, itemsRf, itemsT, itemsL, zipT, zipRf, allRf, anyRf, sumRf, tupT, slRf, isiE, tlE, lenT, lstAt_zero, lstAt_succ, Option.isSome_some, Nat.reduceLT, Bool.or_true, Bool.or_false, Bool.true_or, Bool.false_or, gIsN, gNotN, D.isNon, wipeD, lstAt_of h.atS, hr, decide_false, lstAt_of h.atA, hL, modE lz, lstAt_of h.atA, hix, show ixN 4 1 = some 1 from rfl, show ixN 4 3 = some 3 from rfl, h.set, pw, hp, hb, z1, z2, z3, m1, ← hm, m2, modE nz]

/-- the deck of a script -/
def d60 : Ds := ⟨0, 0, 1700000000000000003⟩
theorem d60_ok : d60.Ok := by
  unfold Ds.Ok d60
  decide
def cut60 (ns : List Int) : List Int := (ns.drop (HT.sIx ns.length 0 none)).take (HT.sIx ns.length ns.length (some 60) - HT.sIx ns.length 0 none)
theorem cut60_e (ns : List Int) : cutD (ns.map D.int) none (some 60) = (cut60 ns).map D.int := by
  simp [cutD, cut60]
def dk6 (ns : List Int) : Dk6 := if cut60 ns = [] then ⟨[.lst [], .lst [], .lst [], .lst [.int 0], .lst []], 3, 4, [0]⟩ else ⟨[.lst ((cut60 ns).map D.int), .lst ((cut60 ns).map D.int), .lst [], .lst []], 1, 3, cut60 ns⟩
theorem dk6_ok (ns : List Int) : (dk6 ns).Ok := by
  unfold dk6
  split
  · exact ⟨rfl, by decide, by decide, by decide, rfl⟩
  · rename_i h
    exact ⟨rfl, by show 3 < 4; decide, by show 1 ≠ 3; decide, h, by simp [Cell.lo, los_ints, D.los]⟩
theorem state_e (ns : List Int) : m__law_state [.rol (ns.map D.int)] [] = some (.rf (dk6 ns).s, (dk6 ns).M d60) := by
  rw [e__law_state]
  unfold b__law_state
  have c1 : gSl (.rol (ns.map D.int)) none (some 60) [] = some (.rf 0, [.lst ((cut60 ns).map D.int)]) := by
    simp only [gSl, cut60_e]
    rfl
  have c2 : bList [.rf 0] [.lst ((cut60 ns).map D.int)] = some (.rf 1, [.lst ((cut60 ns).map D.int), .lst ((cut60 ns).map D.int)]) := rfl
  have c3 := eqR (M := [.lst ((cut60 ns).map D.int), .lst ((cut60 ns).map D.int), .lst []]) (i := 1) (j := 2) rfl rfl (pys_ints _) rfl (shaped_ints _) rfl false
  by_cases h : cut60 ns = []
  · have e : PyData.eqv (.list ((cut60 ns).map .int)) (.list []) = true := by rw [h]; rfl
    rw [e] at c3
    simp only [↓ev_V, ↓ev_C, ↓ev_O, ↓ev_U, ↓ev_Nil, ↓ev_Cons, ↓ev_L, ↓ev_If, ↓ev_tV, ↓ev_tTr, ↓ev_tAn, ↓ev_tOr, ↓ev_tNo, ↓ev_NotB, ↓ev_AnB, ↓ev_OrB, ↓ev_Tup, ↓ev_Lst, ↓ev_CP, ↓ev_ML, ↓ev_Sli, ↓ev_oN, ↓ev_oS, ↓ev_Ch, ↓ev_gN, ↓ev_gsNil, ↓ev_gsCons, ↓ev_gT, ↓ev_Seq, ↓ev_Asg, ↓ev_Par, ↓ev_Ret, ↓ev_Drop, ↓ev_sIf, ↓ev_Next, ↓ev_Brk, ↓ev_Cont, ↓ev_RetN, ↓ev_Sub, ↓ev_For, ↓ev_body, ↓ev_iE, ↓ev_iR1, ↓ev_iR2, ↓ev_iZ, ↓ev_iEn, ↓ev_item, ↓ev_Lc, ↓ev_Yes, vOf_e, kO_e, kO2_e, kU_e, kCons_e, kCons2_e, kL_e, kIf_t, kIf_f, kB_e, kTr_e, kTr2_e, kAn_t, kAn_f, kOr_t, kOr_f, kNo_e, kNotB_e, kAnB_t, kAnB_f, kOrB_t, kOrB_f, kTup_e, kLst_e, kCP_e, kD_e, kML_e, kML2_e, kS1_e, kS2_e, kS3_e, kI_e, kCh1_e, kCh2_e, kCh3_t, kCh3_f, kAsg_e, kNx_e, kRet_e, kDrop_e, kSif_t, kSif_f, kSub1_e, kSub2_e, kSub3_e, kNxM_e, kFor_e, kBody_e, kIE_e, kSrc_e, kR1_e, kR2_e, kR2b_e, kZ1_e, kZ2_e, kEn_e, kMap_e, kMap2_e, kIt1_e, kIt2_t, kIt2_f, kSome_e, kLc_e, kLc2_e, kGc_e, ob_s, ob_n, then_nx, then_rt, then_bk, then_ct, par2_e, turn_nx, turn_ct, turn_bk, turn_rt, runT_nil, runT_cons, mapT_nil, mapT_cons, finP_nx, finM_rt, finM_nx, addE, subE, negE, cmpE, ixT, truI, truB, at0, at1, at2, at3, List.getElem?_cons_zero, List.getElem?_cons_succ, List.set_cons_zero, List.set_cons_succ, List.length_cons, List.length_nil, Nat.reduceAdd, Nat.reduceLeDiff, if_true, if_false, reduceIte, reduceCtorEq, id_eq, Bool.not_true, Bool.not_false, Bool.false_eq_true, and_self, Int.reduceLE, Int.reduceLT, Int.reduceNeg, decide_true, decide_false, Option.toList_some, Option.toList_none, List.cons_append, List.nil_append, ixRf, tupRf, lenRf, listRf, isLstRf, appRf, setRf, itemsRf, itemsT, itemsL, zipT, zipRf, allRf, anyRf, sumRf, tupT, slRf, isiE, tlE, lenT, lstAt_zero, lstAt_succ, Option.isSome_some, Nat.reduceLT, Bool.or_true, Bool.or_false, Bool.true_or, Bool.false_or, gIsN, gNotN, D.isNon, wipeD, c1, c2, List.cons_append, List.nil_append, c3]
    simp only [dk6, h, if_true]
    rfl
  · have e : PyData.eqv (.list ((cut60 ns).map .int)) (.list []) = false := by
      cases hh : cut60 ns with
      | nil => exact absurd hh h
      | cons a l => rfl
    rw [e] at c3
    simp only [↓ev_V, ↓ev_C, ↓ev_O, ↓ev_U, ↓ev_Nil, ↓ev_Cons, ↓ev_L, ↓ev_If, ↓ev_tV, ↓ev_tTr, ↓ev_tAn, ↓ev_tOr, ↓ev_tNo, ↓ev_NotB, ↓ev_AnB, ↓ev_OrB, ↓ev_Tup, ↓ev_Lst, ↓ev_CP, ↓ev_ML, ↓ev_Sli, ↓ev_oN, ↓ev_oS, ↓ev_Ch, ↓ev_gN, ↓ev_gsNil, ↓ev_gsCons, ↓ev_gT, ↓ev_Seq, ↓ev_Asg, ↓ev_Par, ↓ev_Ret, ↓ev_Drop, ↓ev_sIf, ↓ev_Next, ↓ev_Brk, ↓ev_Cont, ↓ev_RetN, ↓ev_Sub, ↓ev_For, ↓ev_body, ↓ev_iE, ↓ev_iR1, ↓ev_iR2, ↓ev_iZ, ↓ev_iEn, ↓ev_item, ↓ev_Lc, ↓ev_Yes, vOf_e, kO_e, kO2_e, kU_e, kCons_e, kCons2_e, kL_e, kIf_t, kIf_f, kB_e, kTr_e, kTr2_e, kAn_t, kAn_f, kOr_t, kOr_f, kNo_e, kNotB_e, kAnB_t, kAnB_f, kOrB_t, kOrB_f, kTup_e, kLst_e, kCP_e, kD_e, kML_e, kML2_e, kS1_e, kS2_e, kS3_e, kI_e, kCh1_e, kCh2_e, kCh3_t, kCh3_f, kAsg_e, kNx_e, kRet_e, kDrop_e, kSif_t, kSif_f, kSub1_e, kSub2_e, kSub3_e, kNxM_e, kFor_e, kBody_e, kIE_e, kSrc_e, kR1_e, kR2_e, kR2b_e, kZ1_e, kZ2_e, kEn_e, kMap_e, kMap2_e, kIt1_e, kIt2_t, kIt2_f, kSome_e, kLc_e, kLc2_e, kGc_e, ob_s, ob_n, then_nx, then_rt, then_bk, then_ct, par2_e, turn_nx, turn_ct, turn_bk, turn_rt, runT_nil, runT_cons, mapT_nil, mapT_cons, finP_nx, finM_rt, finM_nx, addE, subE, negE, cmpE, ixT, truI, truB, at0, at1, at2, at3, List.getElem?_cons_zero, List.getElem?_cons_succ, List.set_cons_zero, List.set_cons_succ, List.length_cons, List.length_nil, Nat.reduceAdd, Nat.reduceLeDiff, if_true, if_false, reduceIte, reduceCtorEq, id_eq, Bool.not_true, Bool.not_false, Bool.false_eq_true, and_self, Int.reduceLE, Int.reduceLT, Int.reduceNeg, decide_true, decide_false, Option.toList_some, Option.toList_none, List.cons_append, List.nil_append, ixRf, tupRf, lenRf, listRf, isLstRf, appRf, setRf, itemsRf, itemsT, itemsL, zipT, zipRf, allRf, anyRf, sumRf, tupT, slRf, isiE, tlE, lenT, lstAt_zero, lstAt_succ, Option.isSome_some, Nat.reduceLT, Bool.or_true, Bool.or_false, Bool.true_or, Bool.false_or, gIsN, gNotN, D.isNon, wipeD, c1, c2, List.cons_append, List.nil_append, c3]
    simp only [dk6, if_neg h]
    rfl

/-! ### points -/
structure P3 where
  x : Rat
  y : Rat
  z : Rat
def eP (p : P3) : D := .tup [eF p.x, eF p.y, eF p.z]
def P3.B (n : Nat) (p : P3) : Prop := Rb n p.x ∧ Rb n p.y ∧ Rb n p.z
theorem lo_eP (n : Nat) (p : P3) : D.lo n (eP p) = true := rfl
theorem ix_eP0 (p : P3) (M : Mem) : gIx (eP p) (.int 0) M = some (eF p.x, M) := rfl
theorem ix_eP1 (p : P3) (M : Mem) : gIx (eP p) (.int 1) M = some (eF p.y, M) := rfl
theorem ix_eP2 (p : P3) (M : Mem) : gIx (eP p) (.int 2) M = some (eF p.z, M) := rfl
def P3.add (p q : P3) : P3 := ⟨p.x + q.x, p.y + q.y, p.z + q.z⟩
def P3.sub (p q : P3) : P3 := ⟨p.x - q.x, p.y - q.y, p.z - q.z⟩
def P3.scale (p : P3) (k : Rat) : P3 := ⟨p.x * k, p.y * k, p.z * k⟩
theorem P3.B.mono {m n : Nat} {p : P3} (h : p.B m) (hn : m ≤ n) : p.B n := ⟨h.1.mono hn, h.2.1.mono hn, h.2.2.mono hn⟩
theorem P3.B.add {m n : Nat} {p q : P3} (h : p.B m) (k : q.B n) : (p.add q).B (m + n + 1) := ⟨h.1.add k.1, h.2.1.add k.2.1, h.2.2.add k.2.2⟩
theorem P3.B.sub {m n : Nat} {p q : P3} (h : p.B m) (k : q.B n) : (p.sub q).B (m + n + 1) := ⟨h.1.sub k.1, h.2.1.sub k.2.1, h.2.2.sub k.2.2⟩
theorem P3.B.scale {m n : Nat} {p : P3} {q : Rat} (h : p.B m) (k : Rb n q) : (p.scale q).B (m + n) := ⟨h.1.mul k, h.2.1.mul k, h.2.2.mul k⟩
theorem tup3 (p : P3) : D.tup [eF p.x, eF p.y, eF p.z] = eP p := rfl
theorem le3 : 0 + 1 + 1 + 1 ≤ 100000 := by decide

theorem together_e {m n : Nat} {p q : P3} (hp : p.B m) (hq : q.B n) (h : m + n ≤ 8000) : m_together [eP p, eP q] = some (eP (p.add q)) := by
  rw [e_together _ _ rfl]
  unfold b_together
  simp only [↓ev_V, ↓ev_C, ↓ev_O, ↓ev_U, ↓ev_Nil, ↓ev_Cons, ↓ev_L, ↓ev_If, ↓ev_tV, ↓ev_tTr, ↓ev_tAn, ↓ev_tOr, ↓ev_tNo, ↓ev_NotB, ↓ev_AnB, ↓ev_OrB, ↓ev_Tup, ↓ev_Lst, ↓ev_CP, ↓ev_ML, ↓ev_Sli, ↓ev_oN, ↓ev_oS, ↓ev_Ch, ↓ev_gN, ↓ev_gsNil, ↓ev_gsCons, ↓ev_gT, ↓ev_Seq, ↓ev_Asg, ↓ev_Par, ↓ev_Ret, ↓ev_Drop, ↓ev_sIf, ↓ev_Next, ↓ev_Brk, ↓ev_Cont, ↓ev_RetN, ↓ev_Sub, ↓ev_For, ↓ev_body, ↓ev_iE, ↓ev_iR1, ↓ev_iR2, ↓ev_iZ, ↓ev_iEn, ↓ev_item, ↓ev_Lc, ↓ev_Yes, vOf_e, kO_e, kO2_e, kU_e, kCons_e, kCons2_e, kL_e, kIf_t, kIf_f, kB_e, kTr_e, kTr2_e, kAn_t, kAn_f, kOr_t, kOr_f, kNo_e, kNotB_e, kAnB_t, kAnB_f, kOrB_t, kOrB_f, kTup_e, kLst_e, kCP_e, kD_e, kML_e, kML2_e, kS1_e, kS2_e, kS3_e, kI_e, kCh1_e, kCh2_e, kCh3_t, kCh3_f, kAsg_e, kNx_e, kRet_e, kDrop_e, kSif_t, kSif_f, kSub1_e, kSub2_e, kSub3_e, kNxM_e, kFor_e, kBody_e, kIE_e, kSrc_e, kR1_e, kR2_e, kR2b_e, kZ1_e, kZ2_e, kEn_e, kMap_e, kMap2_e, kIt1_e, kIt2_t, kIt2_f, kSome_e, kLc_e, kLc2_e, kGc_e, ob_s, ob_n, then_nx, then_rt, then_bk, then_ct, par2_e, turn_nx, turn_ct, turn_bk, turn_rt, runT_nil, runT_cons, mapT_nil, mapT_cons, finP_nx, finM_rt, finM_nx, addE, subE, negE, cmpE, ixT, truI, truB, at0, at1, at2, at3, List.getElem?_cons_zero, List.getElem?_cons_succ, List.set_cons_zero, List.set_cons_succ, List.length_cons, List.length_nil, Nat.reduceAdd, Nat.reduceLeDiff, if_true, if_false, reduceIte, reduceCtorEq, id_eq, Bool.not_true, Bool.not_false, Bool.false_eq_true, and_self, Int.reduceLE, Int.reduceLT, Int.reduceNeg, decide_true, decide_false, Option.toList_some, Option.toList_none, List.cons_append, List.nil_append, ixRf, tupRf, lenRf, listRf, isLstRf, appRf, setRf, itemsRf, itemsT, itemsL, zipT, zipRf, allRf, anyRf, sumRf, tupT, slRf, isiE, tlE, lenT, lstAt_zero, lstAt_succ, Option.isSome_some, Nat.reduceLT, Bool.or_true, Bool.or_false, Bool.true_or, Bool.false_or, gIsN, gNotN, D.isNon, wipeD, ix_eP0, ix_eP1, ix_eP2, plus_e hp.1 hq.1 h, plus_e hp.2.1 hq.2.1 h, plus_e hp.2.2 hq.2.2 h]
  exact finP_rt _ _ (lo_eP 0 (p.add q))
theorem way_between_e {m n : Nat} {p q : P3} (hp : p.B m) (hq : q.B n) (h : m + n ≤ 8000) : m_way_between [eP p, eP q] = some (eP (q.sub p)) := by
  rw [e_way_between _ _ rfl]
  unfold b_way_between
  have h : n + m ≤ 8000 := by omega
  simp only [↓ev_V, ↓ev_C, ↓ev_O, ↓ev_U, ↓ev_Nil, ↓ev_Cons, ↓ev_L, ↓ev_If, ↓ev_tV, ↓ev_tTr, ↓ev_tAn, ↓ev_tOr, ↓ev_tNo, ↓ev_NotB, ↓ev_AnB, ↓ev_OrB, ↓ev_Tup, ↓ev_Lst, ↓ev_CP, ↓ev_ML, ↓ev_Sli, ↓ev_oN, ↓ev_oS, ↓ev_Ch, ↓ev_gN, ↓ev_gsNil, ↓ev_gsCons, ↓ev_gT, ↓ev_Seq, ↓ev_Asg, ↓ev_Par, ↓ev_Ret, ↓ev_Drop, ↓ev_sIf, ↓ev_Next, ↓ev_Brk, ↓ev_Cont, ↓ev_RetN, ↓ev_Sub, ↓ev_For, ↓ev_body, ↓ev_iE, ↓ev_iR1, ↓ev_iR2, ↓ev_iZ, ↓ev_iEn, ↓ev_item, ↓ev_Lc, ↓ev_Yes, vOf_e, kO_e, kO2_e, kU_e, kCons_e, kCons2_e, kL_e, kIf_t, kIf_f, kB_e, kTr_e, kTr2_e, kAn_t, kAn_f, kOr_t, kOr_f, kNo_e, kNotB_e, kAnB_t, kAnB_f, kOrB_t, kOrB_f, kTup_e, kLst_e, kCP_e, kD_e, kML_e, kML2_e, kS1_e, kS2_e, kS3_e, kI_e, kCh1_e, kCh2_e, kCh3_t, kCh3_f, kAsg_e, kNx_e, kRet_e, kDrop_e, kSif_t, kSif_f, kSub1_e, kSub2_e, kSub3_e, kNxM_e, kFor_e, kBody_e, kIE_e, kSrc_e, kR1_e, kR2_e, kR2b_e, kZ1_e, kZ2_e, kEn_e, kMap_e, kMap2_e, kIt1_e, kIt2_t, kIt2_f, kSome_e, kLc_e, kLc2_e, kGc_e, ob_s, ob_n, then_nx, then_rt, then_bk, then_ct, par2_e, turn_nx, turn_ct, turn_bk, turn_rt, runT_nil, runT_cons, mapT_nil, mapT_cons, finP_nx, finM_rt, finM_nx, addE, subE, negE, cmpE, ixT, truI, truB, at0, at1, at2, at3, List.getElem?_cons_zero, List.getElem?_cons_succ, List.set_cons_zero, List.set_cons_succ, List.length_cons, List.length_nil, Nat.reduceAdd, Nat.reduceLeDiff, if_true, if_false, reduceIte, reduceCtorEq, id_eq, Bool.not_true, Bool.not_false, Bool.false_eq_true, and_self, Int.reduceLE, Int.reduceLT, Int.reduceNeg, decide_true, decide_false, Option.toList_some, Option.toList_none, List.cons_append, List.nil_append, ixRf, tupRf, lenRf, listRf, isLstRf, appRf, setRf, itemsRf, itemsT, itemsL, zipT, zipRf, allRf, anyRf, sumRf, tupT, slRf, isiE, tlE, lenT, lstAt_zero, lstAt_succ, Option.isSome_some, Nat.reduceLT, Bool.or_true, Bool.or_false, Bool.true_or, Bool.false_or, gIsN, gNotN, D.isNon, wipeD, ix_eP0, ix_eP1, ix_eP2, minus_e hq.1 hp.1 h, minus_e hq.2.1 hp.2.1 h, minus_e hq.2.2 hp.2.2 h]
  exact finP_rt _ _ (lo_eP 0 (q.sub p))
theorem stretched_e {m n : Nat} {p : P3} {k : Rat} (hp : p.B m) (hk : Rb n k) (h : m + n ≤ 8000) : m_stretched [eP p, eF k] = some (eP (p.scale k)) := by
  rw [e_stretched _ _ rfl]
  unfold b_stretched
  simp only [↓ev_V, ↓ev_C, ↓ev_O, ↓ev_U, ↓ev_Nil, ↓ev_Cons, ↓ev_L, ↓ev_If, ↓ev_tV, ↓ev_tTr, ↓ev_tAn, ↓ev_tOr, ↓ev_tNo, ↓ev_NotB, ↓ev_AnB, ↓ev_OrB, ↓ev_Tup, ↓ev_Lst, ↓ev_CP, ↓ev_ML, ↓ev_Sli, ↓ev_oN, ↓ev_oS, ↓ev_Ch, ↓ev_gN, ↓ev_gsNil, ↓ev_gsCons, ↓ev_gT, ↓ev_Seq, ↓ev_Asg, ↓ev_Par, ↓ev_Ret, ↓ev_Drop, ↓ev_sIf, ↓ev_Next, ↓ev_Brk, ↓ev_Cont, ↓ev_RetN, ↓ev_Sub, ↓ev_For, ↓ev_body, ↓ev_iE, ↓ev_iR1, ↓ev_iR2, ↓ev_iZ, ↓ev_iEn, ↓ev_item, ↓ev_Lc, ↓ev_Yes, vOf_e, kO_e, kO2_e, kU_e, kCons_e, kCons2_e, kL_e, kIf_t, kIf_f, kB_e, kTr_e, kTr2_e, kAn_t, kAn_f, kOr_t, kOr_f, kNo_e, kNotB_e, kAnB_t, kAnB_f, kOrB_t, kOrB_f, kTup_e, kLst_e, kCP_e, kD_e, kML_e, kML2_e, kS1_e, kS2_e, kS3_e, kI_e, kCh1_e, kCh2_e, kCh3_t, kCh3_f, kAsg_e, kNx_e, kRet_e, kDrop_e, kSif_t, kSif_f, kSub1_e, kSub2_e, kSub3_e, kNxM_e, kFor_e, kBody_e, kIE_e, kSrc_e, kR1_e, kR2_e, kR2b_e, kZ1_e, kZ2_e, kEn_e, kMap_e, kMap2_e, kIt1_e, kIt2_t, kIt2_f, kSome_e, kLc_e, kLc2_e, kGc_e, ob_s, ob_n, then_nx, then_rt, then_bk, then_ct, par2_e, turn_nx, turn_ct, turn_bk, turn_rt, runT_nil, runT_cons, mapT_nil, mapT_cons, finP_nx, finM_rt, finM_nx, addE, subE, negE, cmpE, ixT, truI, truB, at0, at1, at2, at3, List.getElem?_cons_zero, List.getElem?_cons_succ, List.set_cons_zero, List.set_cons_succ, List.length_cons, List.length_nil, Nat.reduceAdd, Nat.reduceLeDiff, if_true, if_false, reduceIte, reduceCtorEq, id_eq, Bool.not_true, Bool.not_false, Bool.false_eq_true, and_self, Int.reduceLE, Int.reduceLT, Int.reduceNeg, decide_true, decide_false, Option.toList_some, Option.toList_none, List.cons_append, List.nil_append, ixRf, tupRf, lenRf, listRf, isLstRf, appRf, setRf, itemsRf, itemsT, itemsL, zipT, zipRf, allRf, anyRf, sumRf, tupT, slRf, isiE, tlE, lenT, lstAt_zero, lstAt_succ, Option.isSome_some, Nat.reduceLT, Bool.or_true, Bool.or_false, Bool.true_or, Bool.false_or, gIsN, gNotN, D.isNon, wipeD, ix_eP0, ix_eP1, ix_eP2, times_e hp.1 hk h, times_e hp.2.1 hk h, times_e hp.2.2 hk h]
  exact finP_rt _ _ (lo_eP 0 (p.scale k))

/-- the law's own fraction -/
theorem lf_loop (x0 x1 : Option D) (M : Mem) (a b : Int) : ∀ (n : Nat) (x y : Int), y.natAbs < n → HInv a b x y → wl (tV (fO gGt (fV 3) (fC (.int 0)))) (sPar 2 3 (fCons (fV 3) (fCons (fO gMod (fV 2) (fV 3)) fNil))) n [x0, x1, some (.int x), some (.int y)] M = some (.nx [x0, x1, some (.int (Int.gcd a b : Int)), some (.int 0)], M)
  | 0, _, _, h, _ => absurd h (by omega)
  | n + 1, x, y, h, g => by
    unfold wl
    by_cases hy : 0 < y
    · obtain ⟨g', hm⟩ := g.next hy
      have ih := lf_loop x0 x1 M a b n y (x.fmod y) (by omega) g'
      have e1 : tV (fO gGt (fV 3) (fC (.int 0))) [x0, x1, some (.int x), some (.int y)] M = some (true, M) := by
        simp only [↓ev_V, ↓ev_C, ↓ev_O, ↓ev_U, ↓ev_Nil, ↓ev_Cons, ↓ev_L, ↓ev_If, ↓ev_tV, ↓ev_tTr, ↓ev_tAn, ↓ev_tOr, ↓ev_tNo, ↓ev_NotB, ↓ev_AnB, ↓ev_OrB, ↓ev_Tup, ↓ev_Lst, ↓ev_CP, ↓ev_ML, ↓ev_Sli, ↓ev_oN, ↓ev_oS, ↓ev_Ch, ↓ev_gN, ↓ev_gsNil, ↓ev_gsCons, ↓ev_gT, ↓ev_Seq, ↓ev_Asg, ↓ev_Par, ↓ev_Ret, ↓ev_Drop, ↓ev_sIf, ↓ev_Next, ↓ev_Brk, ↓ev_Cont, ↓ev_RetN, ↓ev_Sub, ↓ev_For, ↓ev_body, ↓ev_iE, ↓ev_iR1, ↓ev_iR2, ↓ev_iZ, ↓ev_iEn, ↓ev_item, ↓ev_Lc, ↓ev_Yes, vOf_e, kO_e, kO2_e, kU_e, kCons_e, kCons2_e, kL_e, kIf_t, kIf_f, kB_e, kTr_e, kTr2_e, kAn_t, kAn_f, kOr_t, kOr_f, kNo_e, kNotB_e, kAnB_t, kAnB_f, kOrB_t, kOrB_f, kTup_e, kLst_e, kCP_e, kD_e, kML_e, kML2_e, kS1_e, kS2_e, kS3_e, kI_e, kCh1_e, kCh2_e, kCh3_t, kCh3_f, kAsg_e, kNx_e, kRet_e, kDrop_e, kSif_t, kSif_f, kSub1_e, kSub2_e, kSub3_e, kNxM_e, kFor_e, kBody_e, kIE_e, kSrc_e, kR1_e, kR2_e, kR2b_e, kZ1_e, kZ2_e, kEn_e, kMap_e, kMap2_e, kIt1_e, kIt2_t, kIt2_f, kSome_e, kLc_e, kLc2_e, kGc_e, ob_s, ob_n, then_nx, then_rt, then_bk, then_ct, par2_e, turn_nx, turn_ct, turn_bk, turn_rt, runT_nil, runT_cons, mapT_nil, mapT_cons, finP_nx, finM_rt, finM_nx, addE, subE, negE, cmpE, ixT, truI, truB, at0, at1, at2, at3, List.getElem?_cons_zero, List.getElem?_cons_succ, List.set_cons_zero, List.set_cons_succ, List.length_cons, List.length_nil, Nat.reduceAdd, Nat.reduceLeDiff, if_true, if_false, reduceIte, reduceCtorEq, id_eq, Bool.not_true, Bool.not_false, Bool.false_eq_true, and_self, Int.reduceLE, Int.reduceLT, Int.reduceNeg, decide_true, decide_false, Option.toList_some, Option.toList_none, List.cons_append, List.nil_append, ixRf, tupRf, lenRf, listRf, isLstRf, appRf, setRf, itemsRf, itemsT, itemsL, zipT, zipRf, allRf, anyRf, sumRf, tupT, slRf, isiE, tlE, lenT, lstAt_zero, lstAt_succ, Option.isSome_some, Nat.reduceLT, Bool.or_true, Bool.or_false, Bool.true_or, Bool.false_or, gIsN, gNotN, D.isNon, wipeD]
        simp [hy]
      have e2 : sPar 2 3 (fCons (fV 3) (fCons (fO gMod (fV 2) (fV 3)) fNil)) [x0, x1, some (.int x), some (.int y)] M = some (.nx [x0, x1, some (.int y), some (.int (x.fmod y))], M) := by
        simp only [↓ev_V, ↓ev_C, ↓ev_O, ↓ev_U, ↓ev_Nil, ↓ev_Cons, ↓ev_L, ↓ev_If, ↓ev_tV, ↓ev_tTr, ↓ev_tAn, ↓ev_tOr, ↓ev_tNo, ↓ev_NotB, ↓ev_AnB, ↓ev_OrB, ↓ev_Tup, ↓ev_Lst, ↓ev_CP, ↓ev_ML, ↓ev_Sli, ↓ev_oN, ↓ev_oS, ↓ev_Ch, ↓ev_gN, ↓ev_gsNil, ↓ev_gsCons, ↓ev_gT, ↓ev_Seq, ↓ev_Asg, ↓ev_Par, ↓ev_Ret, ↓ev_Drop, ↓ev_sIf, ↓ev_Next, ↓ev_Brk, ↓ev_Cont, ↓ev_RetN, ↓ev_Sub, ↓ev_For, ↓ev_body, ↓ev_iE, ↓ev_iR1, ↓ev_iR2, ↓ev_iZ, ↓ev_iEn, ↓ev_item, ↓ev_Lc, ↓ev_Yes, vOf_e, kO_e, kO2_e, kU_e, kCons_e, kCons2_e, kL_e, kIf_t, kIf_f, kB_e, kTr_e, kTr2_e, kAn_t, kAn_f, kOr_t, kOr_f, kNo_e, kNotB_e, kAnB_t, kAnB_f, kOrB_t, kOrB_f, kTup_e, kLst_e, kCP_e, kD_e, kML_e, kML2_e, kS1_e, kS2_e, kS3_e, kI_e, kCh1_e, kCh2_e, kCh3_t, kCh3_f, kAsg_e, kNx_e, kRet_e, kDrop_e, kSif_t, kSif_f, kSub1_e, kSub2_e, kSub3_e, kNxM_e, kFor_e, kBody_e, kIE_e, kSrc_e, kR1_e, kR2_e, kR2b_e, kZ1_e, kZ2_e, kEn_e, kMap_e, kMap2_e, kIt1_e, kIt2_t, kIt2_f, kSome_e, kLc_e, kLc2_e, kGc_e, ob_s, ob_n, then_nx, then_rt, then_bk, then_ct, par2_e, turn_nx, turn_ct, turn_bk, turn_rt, runT_nil, runT_cons, mapT_nil, mapT_cons, finP_nx, finM_rt, finM_nx, addE, subE, negE, cmpE, ixT, truI, truB, at0, at1, at2, at3, List.getElem?_cons_zero, List.getElem?_cons_succ, List.set_cons_zero, List.set_cons_succ, List.length_cons, List.length_nil, Nat.reduceAdd, Nat.reduceLeDiff, if_true, if_false, reduceIte, reduceCtorEq, id_eq, Bool.not_true, Bool.not_false, Bool.false_eq_true, and_self, Int.reduceLE, Int.reduceLT, Int.reduceNeg, decide_true, decide_false, Option.toList_some, Option.toList_none, List.cons_append, List.nil_append, ixRf, tupRf, lenRf, listRf, isLstRf, appRf, setRf, itemsRf, itemsT, itemsL, zipT, zipRf, allRf, anyRf, sumRf, tupT, slRf, isiE, tlE, lenT, lstAt_zero, lstAt_succ, Option.isSome_some, Nat.reduceLT, Bool.or_true, Bool.or_false, Bool.true_or, Bool.false_or, gIsN, gNotN, D.isNon, wipeD, modE (show y ≠ 0 by omega)]
      rw [e1]
      simp only [Option.bind_some, if_true, e2]
      exact ih
    · have e0 : y = 0 := by
        have := g.2.2
        omega
      subst e0
      rw [← g.fin hy]
      rfl
theorem f_e {a b : Int} (hb : 0 < b) (h : Bt 9000 b) : m__law_f [.int a, .int b] = some (eF (Rat.divInt a b)) := by
  have hz : b ≠ 0 := by omega
  have g0 : HInv a b (if a < 0 then -a else a) b := ⟨by
    have := gcd_abs a b
    rw [if_neg (show ¬ b < 0 by omega)] at this
    exact this, by split <;> omega, by omega⟩
  have w := sWhile_of (lf_loop (some (.int a)) (some (.int b)) [] a b _ _ b (Nat.lt_succ_self _) g0)
  have hsg : sg a b = (Int.gcd a b : Int) := by
    unfold sg
    rw [if_neg (show ¬ b < 0 by omega)]
  obtain ⟨hs, hs'⟩ := sg_ne (a := a) hz
  rw [hsg] at hs hs'
  rw [e__law_f _ _ rfl]
  unfold b__law_f
  simp only [↓ev_V, ↓ev_C, ↓ev_O, ↓ev_U, ↓ev_Nil, ↓ev_Cons, ↓ev_L, ↓ev_If, ↓ev_tV, ↓ev_tTr, ↓ev_tAn, ↓ev_tOr, ↓ev_tNo, ↓ev_NotB, ↓ev_AnB, ↓ev_OrB, ↓ev_Tup, ↓ev_Lst, ↓ev_CP, ↓ev_ML, ↓ev_Sli, ↓ev_oN, ↓ev_oS, ↓ev_Ch, ↓ev_gN, ↓ev_gsNil, ↓ev_gsCons, ↓ev_gT, ↓ev_Seq, ↓ev_Asg, ↓ev_Par, ↓ev_Ret, ↓ev_Drop, ↓ev_sIf, ↓ev_Next, ↓ev_Brk, ↓ev_Cont, ↓ev_RetN, ↓ev_Sub, ↓ev_For, ↓ev_body, ↓ev_iE, ↓ev_iR1, ↓ev_iR2, ↓ev_iZ, ↓ev_iEn, ↓ev_item, ↓ev_Lc, ↓ev_Yes, vOf_e, kO_e, kO2_e, kU_e, kCons_e, kCons2_e, kL_e, kIf_t, kIf_f, kB_e, kTr_e, kTr2_e, kAn_t, kAn_f, kOr_t, kOr_f, kNo_e, kNotB_e, kAnB_t, kAnB_f, kOrB_t, kOrB_f, kTup_e, kLst_e, kCP_e, kD_e, kML_e, kML2_e, kS1_e, kS2_e, kS3_e, kI_e, kCh1_e, kCh2_e, kCh3_t, kCh3_f, kAsg_e, kNx_e, kRet_e, kDrop_e, kSif_t, kSif_f, kSub1_e, kSub2_e, kSub3_e, kNxM_e, kFor_e, kBody_e, kIE_e, kSrc_e, kR1_e, kR2_e, kR2b_e, kZ1_e, kZ2_e, kEn_e, kMap_e, kMap2_e, kIt1_e, kIt2_t, kIt2_f, kSome_e, kLc_e, kLc2_e, kGc_e, ob_s, ob_n, then_nx, then_rt, then_bk, then_ct, par2_e, turn_nx, turn_ct, turn_bk, turn_rt, runT_nil, runT_cons, mapT_nil, mapT_cons, finP_nx, finM_rt, finM_nx, addE, subE, negE, cmpE, ixT, truI, truB, at0, at1, at2, at3, List.getElem?_cons_zero, List.getElem?_cons_succ, List.set_cons_zero, List.set_cons_succ, List.length_cons, List.length_nil, Nat.reduceAdd, Nat.reduceLeDiff, if_true, if_false, reduceIte, reduceCtorEq, id_eq, Bool.not_true, Bool.not_false, Bool.false_eq_true, and_self, Int.reduceLE, Int.reduceLT, Int.reduceNeg, decide_true, decide_false, Option.toList_some, Option.toList_none, List.cons_append, List.nil_append, ixRf, tupRf, lenRf, listRf, isLstRf, appRf, setRf, itemsRf, itemsT, itemsL, zipT, zipRf, allRf, anyRf, sumRf, tupT, slRf, isiE, tlE, lenT, lstAt_zero, lstAt_succ, Option.isSome_some, Nat.reduceLT, Bool.or_true, Bool.or_false, Bool.true_or, Bool.false_or, gIsN, gNotN, D.isNon, wipeD, absE, w, fdE hs (h.le hs')]
  rw [← hsg, sg_num hz, sg_den hz]
  exact finP_rt _ _ (lo_eF 0 _)

theorem Dk6.Ok.nx {k : Dk6} (h : k.Ok) {d : Ds} (hd : d.Ok) {n : Int} (hn : 0 < n) (hn' : n < 2 ^ 100) : ∃ v d', d'.Ok ∧ 0 ≤ v ∧ v < n ∧ ∀ rest, m__law_next [.rf k.s, .int n] (k.M d ++ rest) = some (.int v, k.M d' ++ rest) :=
  ⟨_, _, k.draw_ok hd, (k.draw_lt hn d).1, (k.draw_lt hn d).2, fun rest => h.next hd hn hn' rest⟩

/-- a thing is the same as itself -/
theorem kit_tt : kitB "tuple" "tuple" = some true := by decide +kernel
theorem kit_tl : kitB "tuple" "list" = some false := by decide +kernel
theorem kit_it : kitB "int" "tuple" = some false := by decide +kernel
theorem kit_il : kitB "int" "list" = some false := by decide +kernel
theorem kit_is : kitB "int" "str" = some false := by decide +kernel
theorem kit_ii : kitB "int" "int" = some true := by decide +kernel
theorem kit_ib : kitB "int" "bool" = some false := by decide +kernel
theorem eqB (a b neg : Bool) (M : Mem) : gEqB neg (.bl a) (.bl b) M = some (.bl (if neg then !(a == b) else a == b), M) := by
  rw [eqD (x := .bl a) (y := .bl b) rfl rfl rfl rfl]
  simp [PyData.eqv]
theorem same_int (n : Nat) (i : Int) : m__law_same (n + 1) [.int i, .int i] = some (.bl true) := by
  rw [e__law_same _ _ _ rfl]
  unfold b__law_same
  simp only [↓ev_V, ↓ev_C, ↓ev_O, ↓ev_U, ↓ev_Nil, ↓ev_Cons, ↓ev_L, ↓ev_If, ↓ev_tV, ↓ev_tTr, ↓ev_tAn, ↓ev_tOr, ↓ev_tNo, ↓ev_NotB, ↓ev_AnB, ↓ev_OrB, ↓ev_Tup, ↓ev_Lst, ↓ev_CP, ↓ev_ML, ↓ev_Sli, ↓ev_oN, ↓ev_oS, ↓ev_Ch, ↓ev_gN, ↓ev_gsNil, ↓ev_gsCons, ↓ev_gT, ↓ev_Seq, ↓ev_Asg, ↓ev_Par, ↓ev_Ret, ↓ev_Drop, ↓ev_sIf, ↓ev_Next, ↓ev_Brk, ↓ev_Cont, ↓ev_RetN, ↓ev_Sub, ↓ev_For, ↓ev_body, ↓ev_iE, ↓ev_iR1, ↓ev_iR2, ↓ev_iZ, ↓ev_iEn, ↓ev_item, ↓ev_Lc, ↓ev_Yes, vOf_e, kO_e, kO2_e, kU_e, kCons_e, kCons2_e, kL_e, kIf_t, kIf_f, kB_e, kTr_e, kTr2_e, kAn_t, kAn_f, kOr_t, kOr_f, kNo_e, kNotB_e, kAnB_t, kAnB_f, kOrB_t, kOrB_f, kTup_e, kLst_e, kCP_e, kD_e, kML_e, kML2_e, kS1_e, kS2_e, kS3_e, kI_e, kCh1_e, kCh2_e, kCh3_t, kCh3_f, kAsg_e, kNx_e, kRet_e, kDrop_e, kSif_t, kSif_f, kSub1_e, kSub2_e, kSub3_e, kNxM_e, kFor_e, kBody_e, kIE_e, kSrc_e, kR1_e, kR2_e, kR2b_e, kZ1_e, kZ2_e, kEn_e, kMap_e, kMap2_e, kIt1_e, kIt2_t, kIt2_f, kSome_e, kLc_e, kLc2_e, kGc_e, ob_s, ob_n, then_nx, then_rt, then_bk, then_ct, par2_e, turn_nx, turn_ct, turn_bk, turn_rt, runT_nil, runT_cons, mapT_nil, mapT_cons, finP_nx, finM_rt, finM_nx, addE, subE, negE, cmpE, ixT, truI, truB, at0, at1, at2, at3, List.getElem?_cons_zero, List.getElem?_cons_succ, List.set_cons_zero, List.set_cons_succ, List.length_cons, List.length_nil, Nat.reduceAdd, Nat.reduceLeDiff, if_true, if_false, reduceIte, reduceCtorEq, id_eq, Bool.not_true, Bool.not_false, Bool.false_eq_true, and_self, Int.reduceLE, Int.reduceLT, Int.reduceNeg, decide_true, decide_false, Option.toList_some, Option.toList_none, List.cons_append, List.nil_append, ixRf, tupRf, lenRf, listRf, isLstRf, appRf, setRf, itemsRf, itemsT, itemsL, zipT, zipRf, allRf, anyRf, sumRf, tupT, slRf, isiE, tlE, lenT, lstAt_zero, lstAt_succ, Option.isSome_some, Nat.reduceLT, Bool.or_true, Bool.or_false, Bool.true_or, Bool.false_or, gIsN, gNotN, D.isNon, wipeD, tyOf, kit_it, kit_il, kit_is, kit_ii, kit_ib, eqB, eqI, beq_self_eq_true]
  exact finP_rt _ _ rfl
theorem same_map {f : List D → Option D} (ρ : Rho) (x y : Option D) (M : Mem) : ∀ ds : List D, (∀ d ∈ ds, f [d, d] = some (.bl true)) → mapG (fun _ => True) (itemG (gT 2 (gsCons (gN 2) (gsCons (gN 3) gsNil))) tYesD (fCP f (fCons (fV 2) (fCons (fV 3) fNil))) [x, y, none, none]) (pairs ds ds) M = some (ds.map fun _ => .bl true, M)
  | [], _ => mapT_nil _ _
  | d :: ds, h => by
    have ih := same_map ρ x y M ds fun d' hd => h d' (List.mem_cons_of_mem _ hd)
    have e := h d List.mem_cons_self
    unfold pairs
    simp only [↓ev_V, ↓ev_C, ↓ev_O, ↓ev_U, ↓ev_Nil, ↓ev_Cons, ↓ev_L, ↓ev_If, ↓ev_tV, ↓ev_tTr, ↓ev_tAn, ↓ev_tOr, ↓ev_tNo, ↓ev_NotB, ↓ev_AnB, ↓ev_OrB, ↓ev_Tup, ↓ev_Lst, ↓ev_CP, ↓ev_ML, ↓ev_Sli, ↓ev_oN, ↓ev_oS, ↓ev_Ch, ↓ev_gN, ↓ev_gsNil, ↓ev_gsCons, ↓ev_gT, ↓ev_Seq, ↓ev_Asg, ↓ev_Par, ↓ev_Ret, ↓ev_Drop, ↓ev_sIf, ↓ev_Next, ↓ev_Brk, ↓ev_Cont, ↓ev_RetN, ↓ev_Sub, ↓ev_For, ↓ev_body, ↓ev_iE, ↓ev_iR1, ↓ev_iR2, ↓ev_iZ, ↓ev_iEn, ↓ev_item, ↓ev_Lc, ↓ev_Yes, vOf_e, kO_e, kO2_e, kU_e, kCons_e, kCons2_e, kL_e, kIf_t, kIf_f, kB_e, kTr_e, kTr2_e, kAn_t, kAn_f, kOr_t, kOr_f, kNo_e, kNotB_e, kAnB_t, kAnB_f, kOrB_t, kOrB_f, kTup_e, kLst_e, kCP_e, kD_e, kML_e, kML2_e, kS1_e, kS2_e, kS3_e, kI_e, kCh1_e, kCh2_e, kCh3_t, kCh3_f, kAsg_e, kNx_e, kRet_e, kDrop_e, kSif_t, kSif_f, kSub1_e, kSub2_e, kSub3_e, kNxM_e, kFor_e, kBody_e, kIE_e, kSrc_e, kR1_e, kR2_e, kR2b_e, kZ1_e, kZ2_e, kEn_e, kMap_e, kMap2_e, kIt1_e, kIt2_t, kIt2_f, kSome_e, kLc_e, kLc2_e, kGc_e, ob_s, ob_n, then_nx, then_rt, then_bk, then_ct, par2_e, turn_nx, turn_ct, turn_bk, turn_rt, runT_nil, runT_cons, mapT_nil, mapT_cons, finP_nx, finM_rt, finM_nx, addE, subE, negE, cmpE, ixT, truI, truB, at0, at1, at2, at3, List.getElem?_cons_zero, List.getElem?_cons_succ, List.set_cons_zero, List.set_cons_succ, List.length_cons, List.length_nil, Nat.reduceAdd, Nat.reduceLeDiff, if_true, if_false, reduceIte, reduceCtorEq, id_eq, Bool.not_true, Bool.not_false, Bool.false_eq_true, and_self, Int.reduceLE, Int.reduceLT, Int.reduceNeg, decide_true, decide_false, Option.toList_some, Option.toList_none, List.cons_append, List.nil_append, ixRf, tupRf, lenRf, listRf, isLstRf, appRf, setRf, itemsRf, itemsT, itemsL, zipT, zipRf, allRf, anyRf, sumRf, tupT, slRf, isiE, tlE, lenT, lstAt_zero, lstAt_succ, Option.isSome_some, Nat.reduceLT, Bool.or_true, Bool.or_false, Bool.true_or, Bool.false_or, gIsN, gNotN, D.isNon, wipeD, e, ih, List.map_cons]
theorem bls_true : ∀ ds : List D, D.bls (ds.map fun _ => .bl true) = some (ds.map fun _ => true)
  | [] => rfl
  | d :: ds => by simp [D.bls, bls_true ds]
theorem all_true : ∀ ds : List D, (ds.map fun _ => true).all id = true
  | [] => rfl
  | d :: ds => by simp
theorem same_tup {n : Nat} {ds : List D} (h : ∀ d ∈ ds, m__law_same n [d, d] = some (.bl true)) (hl : ds.length ≤ 100000) (ho : D.los 0 ds = true) : m__law_same (n + 1) [.tup ds, .tup ds] = some (.bl true) := by
  rw [e__law_same _ _ _ (by rw [los_cons, los_cons, lo_tup, ho]; rfl)]
  unfold b__law_same
  have lp : (pairs ds ds).length ≤ 100000 := by rw [pairs_len]; omega
  simp only [↓ev_V, ↓ev_C, ↓ev_O, ↓ev_U, ↓ev_Nil, ↓ev_Cons, ↓ev_L, ↓ev_If, ↓ev_tV, ↓ev_tTr, ↓ev_tAn, ↓ev_tOr, ↓ev_tNo, ↓ev_NotB, ↓ev_AnB, ↓ev_OrB, ↓ev_Tup, ↓ev_Lst, ↓ev_CP, ↓ev_ML, ↓ev_Sli, ↓ev_oN, ↓ev_oS, ↓ev_Ch, ↓ev_gN, ↓ev_gsNil, ↓ev_gsCons, ↓ev_gT, ↓ev_Seq, ↓ev_Asg, ↓ev_Par, ↓ev_Ret, ↓ev_Drop, ↓ev_sIf, ↓ev_Next, ↓ev_Brk, ↓ev_Cont, ↓ev_RetN, ↓ev_Sub, ↓ev_For, ↓ev_body, ↓ev_iE, ↓ev_iR1, ↓ev_iR2, ↓ev_iZ, ↓ev_iEn, ↓ev_item, ↓ev_Lc, ↓ev_Yes, vOf_e, kO_e, kO2_e, kU_e, kCons_e, kCons2_e, kL_e, kIf_t, kIf_f, kB_e, kTr_e, kTr2_e, kAn_t, kAn_f, kOr_t, kOr_f, kNo_e, kNotB_e, kAnB_t, kAnB_f, kOrB_t, kOrB_f, kTup_e, kLst_e, kCP_e, kD_e, kML_e, kML2_e, kS1_e, kS2_e, kS3_e, kI_e, kCh1_e, kCh2_e, kCh3_t, kCh3_f, kAsg_e, kNx_e, kRet_e, kDrop_e, kSif_t, kSif_f, kSub1_e, kSub2_e, kSub3_e, kNxM_e, kFor_e, kBody_e, kIE_e, kSrc_e, kR1_e, kR2_e, kR2b_e, kZ1_e, kZ2_e, kEn_e, kMap_e, kMap2_e, kIt1_e, kIt2_t, kIt2_f, kSome_e, kLc_e, kLc2_e, kGc_e, ob_s, ob_n, then_nx, then_rt, then_bk, then_ct, par2_e, turn_nx, turn_ct, turn_bk, turn_rt, runT_nil, runT_cons, mapT_nil, mapT_cons, finP_nx, finM_rt, finM_nx, addE, subE, negE, cmpE, ixT, truI, truB, at0, at1, at2, at3, List.getElem?_cons_zero, List.getElem?_cons_succ, List.set_cons_zero, List.set_cons_succ, List.length_cons, List.length_nil, Nat.reduceAdd, Nat.reduceLeDiff, if_true, if_false, reduceIte, reduceCtorEq, id_eq, Bool.not_true, Bool.not_false, Bool.false_eq_true, and_self, Int.reduceLE, Int.reduceLT, Int.reduceNeg, decide_true, decide_false, Option.toList_some, Option.toList_none, List.cons_append, List.nil_append, ixRf, tupRf, lenRf, listRf, isLstRf, appRf, setRf, itemsRf, itemsT, itemsL, zipT, zipRf, allRf, anyRf, sumRf, tupT, slRf, isiE, tlE, lenT, lstAt_zero, lstAt_succ, Option.isSome_some, Nat.reduceLT, Bool.or_true, Bool.or_false, Bool.true_or, Bool.false_or, gIsN, gNotN, D.isNon, wipeD, tyOf, kit_tt, kit_tl, eqB, eqI, beq_self_eq_true, same_map [] _ _ _ ds h, lp, if_true, List.length_nil, bls_true, all_true]
  exact finP_rt _ _ rfl

theorem share_e {k : Dk6} (h : k.Ok) {d : Ds} (hd : d.Ok) : ∃ q d', d'.Ok ∧ Rb 20 q ∧ ∀ rest, m__law_share [.rf k.s] (k.M d ++ rest) = some (eF q, k.M d' ++ rest) := by
  obtain ⟨w, d1, ok1, w1, w2, e1⟩ := h.nx hd (n := 4) (by decide) (by decide)
  by_cases hw : w < 2
  · obtain ⟨v, d2, ok2, v1, v2, e2⟩ := h.nx ok1 (n := 13) (by decide) (by decide)
    refine ⟨((v - 6 : Int) : Rat), d2, ok2, rb_int (by decide) (bt_abs (by omega) (by omega)), fun rest => ?_⟩
    rw [e__law_share]
    unfold b__law_share
    simp only [↓ev_V, ↓ev_C, ↓ev_O, ↓ev_U, ↓ev_Nil, ↓ev_Cons, ↓ev_L, ↓ev_If, ↓ev_tV, ↓ev_tTr, ↓ev_tAn, ↓ev_tOr, ↓ev_tNo, ↓ev_NotB, ↓ev_AnB, ↓ev_OrB, ↓ev_Tup, ↓ev_Lst, ↓ev_CP, ↓ev_ML, ↓ev_Sli, ↓ev_oN, ↓ev_oS, ↓ev_Ch, ↓ev_gN, ↓ev_gsNil, ↓ev_gsCons, ↓ev_gT, ↓ev_Seq, ↓ev_Asg, ↓ev_Par, ↓ev_Ret, ↓ev_Drop, ↓ev_sIf, ↓ev_Next, ↓ev_Brk, ↓ev_Cont, ↓ev_RetN, ↓ev_Sub, ↓ev_For, ↓ev_body, ↓ev_iE, ↓ev_iR1, ↓ev_iR2, ↓ev_iZ, ↓ev_iEn, ↓ev_item, ↓ev_Lc, ↓ev_Yes, vOf_e, kO_e, kO2_e, kU_e, kCons_e, kCons2_e, kL_e, kIf_t, kIf_f, kB_e, kTr_e, kTr2_e, kAn_t, kAn_f, kOr_t, kOr_f, kNo_e, kNotB_e, kAnB_t, kAnB_f, kOrB_t, kOrB_f, kTup_e, kLst_e, kCP_e, kD_e, kML_e, kML2_e, kS1_e, kS2_e, kS3_e, kI_e, kCh1_e, kCh2_e, kCh3_t, kCh3_f, kAsg_e, kNx_e, kRet_e, kDrop_e, kSif_t, kSif_f, kSub1_e, kSub2_e, kSub3_e, kNxM_e, kFor_e, kBody_e, kIE_e, kSrc_e, kR1_e, kR2_e, kR2b_e, kZ1_e, kZ2_e, kEn_e, kMap_e, kMap2_e, kIt1_e, kIt2_t, kIt2_f, kSome_e, kLc_e, kLc2_e, kGc_e, ob_s, ob_n, then_nx, then_rt, then_bk, then_ct, par2_e, turn_nx, turn_ct, turn_bk, turn_rt, runT_nil, runT_cons, mapT_nil, mapT_cons, finP_nx, finM_rt, finM_nx, addE, subE, negE, cmpE, ixT, truI, truB, at0, at1, at2, at3, List.getElem?_cons_zero, List.getElem?_cons_succ, List.set_cons_zero, List.set_cons_succ, List.length_cons, List.length_nil, Nat.reduceAdd, Nat.reduceLeDiff, if_true, if_false, reduceIte, reduceCtorEq, id_eq, Bool.not_true, Bool.not_false, Bool.false_eq_true, and_self, Int.reduceLE, Int.reduceLT, Int.reduceNeg, decide_true, decide_false, Option.toList_some, Option.toList_none, List.cons_append, List.nil_append, ixRf, tupRf, lenRf, listRf, isLstRf, appRf, setRf, itemsRf, itemsT, itemsL, zipT, zipRf, allRf, anyRf, sumRf, tupT, slRf, isiE, tlE, lenT, lstAt_zero, lstAt_succ, Option.isSome_some, Nat.reduceLT, Bool.or_true, Bool.or_false, Bool.true_or, Bool.false_or, gIsN, gNotN, D.isNon, wipeD, e1, e2, hw, decide_true, eF_int]
  · by_cases hw2 : w = 2
    · obtain ⟨v, d2, ok2, v1, v2, e2⟩ := h.nx ok1 (n := 41) (by decide) (by decide)
      obtain ⟨u, d3, ok3, u1, u2, e3⟩ := h.nx ok2 (n := 12) (by decide) (by decide)
      refine ⟨Rat.divInt (v - 20) (1 + u), d3, ok3, rb_div (by omega) (bt_abs (by omega) (by omega)) (bt_abs (by omega) (by omega)), fun rest => ?_⟩
      rw [e__law_share]
      unfold b__law_share
      subst hw2
      simp only [↓ev_V, ↓ev_C, ↓ev_O, ↓ev_U, ↓ev_Nil, ↓ev_Cons, ↓ev_L, ↓ev_If, ↓ev_tV, ↓ev_tTr, ↓ev_tAn, ↓ev_tOr, ↓ev_tNo, ↓ev_NotB, ↓ev_AnB, ↓ev_OrB, ↓ev_Tup, ↓ev_Lst, ↓ev_CP, ↓ev_ML, ↓ev_Sli, ↓ev_oN, ↓ev_oS, ↓ev_Ch, ↓ev_gN, ↓ev_gsNil, ↓ev_gsCons, ↓ev_gT, ↓ev_Seq, ↓ev_Asg, ↓ev_Par, ↓ev_Ret, ↓ev_Drop, ↓ev_sIf, ↓ev_Next, ↓ev_Brk, ↓ev_Cont, ↓ev_RetN, ↓ev_Sub, ↓ev_For, ↓ev_body, ↓ev_iE, ↓ev_iR1, ↓ev_iR2, ↓ev_iZ, ↓ev_iEn, ↓ev_item, ↓ev_Lc, ↓ev_Yes, vOf_e, kO_e, kO2_e, kU_e, kCons_e, kCons2_e, kL_e, kIf_t, kIf_f, kB_e, kTr_e, kTr2_e, kAn_t, kAn_f, kOr_t, kOr_f, kNo_e, kNotB_e, kAnB_t, kAnB_f, kOrB_t, kOrB_f, kTup_e, kLst_e, kCP_e, kD_e, kML_e, kML2_e, kS1_e, kS2_e, kS3_e, kI_e, kCh1_e, kCh2_e, kCh3_t, kCh3_f, kAsg_e, kNx_e, kRet_e, kDrop_e, kSif_t, kSif_f, kSub1_e, kSub2_e, kSub3_e, kNxM_e, kFor_e, kBody_e, kIE_e, kSrc_e, kR1_e, kR2_e, kR2b_e, kZ1_e, kZ2_e, kEn_e, kMap_e, kMap2_e, kIt1_e, kIt2_t, kIt2_f, kSome_e, kLc_e, kLc2_e, kGc_e, ob_s, ob_n, then_nx, then_rt, then_bk, then_ct, par2_e, turn_nx, turn_ct, turn_bk, turn_rt, runT_nil, runT_cons, mapT_nil, mapT_cons, finP_nx, finM_rt, finM_nx, addE, subE, negE, cmpE, ixT, truI, truB, at0, at1, at2, at3, List.getElem?_cons_zero, List.getElem?_cons_succ, List.set_cons_zero, List.set_cons_succ, List.length_cons, List.length_nil, Nat.reduceAdd, Nat.reduceLeDiff, if_true, if_false, reduceIte, reduceCtorEq, id_eq, Bool.not_true, Bool.not_false, Bool.false_eq_true, and_self, Int.reduceLE, Int.reduceLT, Int.reduceNeg, decide_true, decide_false, Option.toList_some, Option.toList_none, List.cons_append, List.nil_append, ixRf, tupRf, lenRf, listRf, isLstRf, appRf, setRf, itemsRf, itemsT, itemsL, zipT, zipRf, allRf, anyRf, sumRf, tupT, slRf, isiE, tlE, lenT, lstAt_zero, lstAt_succ, Option.isSome_some, Nat.reduceLT, Bool.or_true, Bool.or_false, Bool.true_or, Bool.false_or, gIsN, gNotN, D.isNon, wipeD, e1, e2, e3, hw, decide_false, eqI, beq_self_eq_true, f_e (show 0 < 1 + u by omega) ((bt_abs (m := 20) (by omega) (by omega)).mono (by decide))]
    · obtain ⟨v, d2, ok2, v1, v2, e2⟩ := h.nx ok1 (n := 199999) (by decide) (by decide)
      obtain ⟨u, d3, ok3, u1, u2, e3⟩ := h.nx ok2 (n := 99999) (by decide) (by decide)
      refine ⟨Rat.divInt (v - 99999) (1 + u), d3, ok3, rb_div (by omega) (bt_abs (by omega) (by omega)) (bt_abs (by omega) (by omega)), fun rest => ?_⟩
      rw [e__law_share]
      unfold b__law_share
      have hb : (w == 2) = false := by simpa using hw2
      simp only [↓ev_V, ↓ev_C, ↓ev_O, ↓ev_U, ↓ev_Nil, ↓ev_Cons, ↓ev_L, ↓ev_If, ↓ev_tV, ↓ev_tTr, ↓ev_tAn, ↓ev_tOr, ↓ev_tNo, ↓ev_NotB, ↓ev_AnB, ↓ev_OrB, ↓ev_Tup, ↓ev_Lst, ↓ev_CP, ↓ev_ML, ↓ev_Sli, ↓ev_oN, ↓ev_oS, ↓ev_Ch, ↓ev_gN, ↓ev_gsNil, ↓ev_gsCons, ↓ev_gT, ↓ev_Seq, ↓ev_Asg, ↓ev_Par, ↓ev_Ret, ↓ev_Drop, ↓ev_sIf, ↓ev_Next, ↓ev_Brk, ↓ev_Cont, ↓ev_RetN, ↓ev_Sub, ↓ev_For, ↓ev_body, ↓ev_iE, ↓ev_iR1, ↓ev_iR2, ↓ev_iZ, ↓ev_iEn, ↓ev_item, ↓ev_Lc, ↓ev_Yes, vOf_e, kO_e, kO2_e, kU_e, kCons_e, kCons2_e, kL_e, kIf_t, kIf_f, kB_e, kTr_e, kTr2_e, kAn_t, kAn_f, kOr_t, kOr_f, kNo_e, kNotB_e, kAnB_t, kAnB_f, kOrB_t, kOrB_f, kTup_e, kLst_e, kCP_e, kD_e, kML_e, kML2_e, kS1_e, kS2_e, kS3_e, kI_e, kCh1_e, kCh2_e, kCh3_t, kCh3_f, kAsg_e, kNx_e, kRet_e, kDrop_e, kSif_t, kSif_f, kSub1_e, kSub2_e, kSub3_e, kNxM_e, kFor_e, kBody_e, kIE_e, kSrc_e, kR1_e, kR2_e, kR2b_e, kZ1_e, kZ2_e, kEn_e, kMap_e, kMap2_e, kIt1_e, kIt2_t, kIt2_f, kSome_e, kLc_e, kLc2_e, kGc_e, ob_s, ob_n, then_nx, then_rt, then_bk, then_ct, par2_e, turn_nx, turn_ct, turn_bk, turn_rt, runT_nil, runT_cons, mapT_nil, mapT_cons, finP_nx, finM_rt, finM_nx, addE, subE, negE, cmpE, ixT, truI, truB, at0, at1, at2, at3, List.getElem?_cons_zero, List.getElem?_cons_succ, List.set_cons_zero, List.set_cons_succ, List.length_cons, List.length_nil, Nat.reduceAdd, Nat.reduceLeDiff, if_true, if_false, reduceIte, reduceCtorEq, id_eq, Bool.not_true, Bool.not_false, Bool.false_eq_true, and_self, Int.reduceLE, Int.reduceLT, Int.reduceNeg, decide_true, decide_false, Option.toList_some, Option.toList_none, List.cons_append, List.nil_append, ixRf, tupRf, lenRf, listRf, isLstRf, appRf, setRf, itemsRf, itemsT, itemsL, zipT, zipRf, allRf, anyRf, sumRf, tupT, slRf, isiE, tlE, lenT, lstAt_zero, lstAt_succ, Option.isSome_some, Nat.reduceLT, Bool.or_true, Bool.or_false, Bool.true_or, Bool.false_or, gIsN, gNotN, D.isNon, wipeD, e1, e2, e3, hw, decide_false, eqI, hb, f_e (show 0 < 1 + u by omega) ((bt_abs (m := 20) (by omega) (by omega)).mono (by decide))]
/-- a look as it is drawn -/
structure Lk where
  place : P3
  window : P3
  aside : P3
  down : P3
  w : Int
  h : Int
def eLk (l : Lk) : D := .tup [.str "eye", eP l.place, eP l.window, eP l.aside, eP l.down, .int l.w, .int l.h]
def Lk.Ok (l : Lk) : Prop := l.place.B 50 ∧ l.window.B 50 ∧ l.aside.B 50 ∧ l.down.B 50 ∧ 1 ≤ l.w ∧ l.w ≤ 12 ∧ 1 ≤ l.h ∧ l.h ≤ 12
theorem look_e {k : Dk6} (h : k.Ok) {d : Ds} (hd : d.Ok) : ∃ l d', Lk.Ok l ∧ d'.Ok ∧ ∀ rest, rest.all (Cell.lo 0) = true → m__law_look [.rf k.s] (k.M d ++ rest) = some (eLk l, k.M d' ++ rest) := by
  obtain ⟨q1, d1, ok1, b1, e1⟩ := share_e h hd
  obtain ⟨q2, d2, ok2, b2, e2⟩ := share_e h ok1
  obtain ⟨q3, d3, ok3, b3, e3⟩ := share_e h ok2
  obtain ⟨w, d4, ok4, w1, w2, e4⟩ := h.nx ok3 (n := 12) (by decide) (by decide)
  obtain ⟨v, d5, ok5, v1, v2, e5⟩ := h.nx ok4 (n := 12) (by decide) (by decide)
  obtain ⟨a1, d6, ok6, a11, a12, e6⟩ := h.nx ok5 (n := 30) (by decide) (by decide)
  obtain ⟨a2, d7, ok7, a21, a22, e7⟩ := h.nx ok6 (n := 7) (by decide) (by decide)
  obtain ⟨q4, d8, ok8, b8, e8⟩ := share_e h ok7
  obtain ⟨c1, d9, ok9, c11, c12, e9⟩ := h.nx ok8 (n := 30) (by decide) (by decide)
  obtain ⟨c2, d10, ok10, c21, c22, e10⟩ := h.nx ok9 (n := 7) (by decide) (by decide)
  have n0 : Rb 50 (0 : Rat) := ⟨by unfold Bt; decide, by unfold Bt; decide⟩
  refine ⟨⟨⟨q1, q2, q3⟩, ⟨q1, q2, q3 + 1⟩, ⟨Rat.divInt (1 + a1) (1 + a2), q4, 0⟩, ⟨0, Rat.divInt (1 + c1) (1 + c2), 0⟩, 1 + w, 1 + v⟩, d10, ?_, ok10, ?_⟩
  · refine ⟨⟨b1.mono (by decide), b2.mono (by decide), b3.mono (by decide)⟩, ⟨b1.mono (by decide), b2.mono (by decide), (b3.add (n := 20) (r := 1) ⟨by unfold Bt; decide, by unfold Bt; decide⟩).mono (by decide)⟩, ⟨?_, b8.mono (by decide), n0⟩, ⟨n0, ?_, n0⟩, by show 1 ≤ 1 + w; omega, by show 1 + w ≤ 12; omega, by show 1 ≤ 1 + v; omega, by show 1 + v ≤ 12; omega⟩
    · exact rb_div (by omega) (bt_abs (by omega) (by omega)) (bt_abs (by omega) (by omega))
    · exact rb_div (by omega) (bt_abs (by omega) (by omega)) (bt_abs (by omega) (by omega))
  · intro rest hrest
    rw [e__law_look]
    unfold b__law_look
    have f1 := f_e (a := q3.num + (q3.den : Int)) (b := (q3.den : Int)) (by have := q3.den_pos; omega) (b3.2.mono (by decide))
    have f1' : Rat.divInt (q3.num + (q3.den : Int)) (q3.den : Int) = q3 + 1 := by
      have := rat_sum q3 1
      simpa using this
    rw [f1'] at f1
    have f2 := f_e (a := 1 + a1) (b := 1 + a2) (by omega) ((bt_abs (m := 20) (by omega) (by omega)).mono (by decide))
    have f3 := f_e (a := 1 + c1) (b := 1 + c2) (by omega) ((bt_abs (m := 20) (by omega) (by omega)).mono (by decide))
    have L : ∀ d, List.length (k.M d) = k.B.length := fun d => Dk6.len
    have z1 : ∀ (d : Ds) (ds : List D) (C : Mem), lstAt (k.M d ++ (rest ++ .lst ds :: C)) (k.B.length + rest.length) = some ds := fun d ds C => lstAt_of (new_at C (L d))
    have z2 : ∀ (d : Ds) (c : Cell) (ds : List D) (C : Mem), lstAt (k.M d ++ (rest ++ c :: .lst ds :: C)) (k.B.length + (rest.length + 1)) = some ds := fun d c ds C => lstAt_of (by
      have := new_at (A := k.M d) (B := rest ++ [c]) (c := .lst ds) C (L d)
      simpa using this)
    simp only [↓ev_V, ↓ev_C, ↓ev_O, ↓ev_U, ↓ev_Nil, ↓ev_Cons, ↓ev_L, ↓ev_If, ↓ev_tV, ↓ev_tTr, ↓ev_tAn, ↓ev_tOr, ↓ev_tNo, ↓ev_NotB, ↓ev_AnB, ↓ev_OrB, ↓ev_Tup, ↓ev_Lst, ↓ev_CP, ↓ev_ML, ↓ev_Sli, ↓ev_oN, ↓ev_oS, ↓ev_Ch, ↓ev_gN, ↓ev_gsNil, ↓ev_gsCons, ↓ev_gT, ↓ev_Seq, ↓ev_Asg, ↓ev_Par, ↓ev_Ret, ↓ev_Drop, ↓ev_sIf, ↓ev_Next, ↓ev_Brk, ↓ev_Cont, ↓ev_RetN, ↓ev_Sub, ↓ev_For, ↓ev_body, ↓ev_iE, ↓ev_iR1, ↓ev_iR2, ↓ev_iZ, ↓ev_iEn, ↓ev_item, ↓ev_Lc, ↓ev_Yes, vOf_e, kO_e, kO2_e, kU_e, kCons_e, kCons2_e, kL_e, kIf_t, kIf_f, kB_e, kTr_e, kTr2_e, kAn_t, kAn_f, kOr_t, kOr_f, kNo_e, kNotB_e, kAnB_t, kAnB_f, kOrB_t, kOrB_f, kTup_e, kLst_e, kCP_e, kD_e, kML_e, kML2_e, kS1_e, kS2_e, kS3_e, kI_e, kCh1_e, kCh2_e, kCh3_t, kCh3_f, kAsg_e, kNx_e, kRet_e, kDrop_e, kSif_t, kSif_f, kSub1_e, kSub2_e, kSub3_e, kNxM_e, kFor_e, kBody_e, kIE_e, kSrc_e, kR1_e, kR2_e, kR2b_e, kZ1_e, kZ2_e, kEn_e, kMap_e, kMap2_e, kIt1_e, kIt2_t, kIt2_f, kSome_e, kLc_e, kLc2_e, kGc_e, ob_s, ob_n, then_nx, then_rt, then_bk, then_ct, par2_e, turn_nx, turn_ct, turn_bk, turn_rt, runT_nil, runT_cons, mapT_nil, mapT_cons, finP_nx, finM_rt, finM_nx, addE, subE, negE, cmpE, ixT, truI, truB, at0, at1, at2, at3, List.getElem?_cons_zero, List.getElem?_cons_succ, List.set_cons_zero, List.set_cons_succ, List.length_cons, List.length_nil, Nat.reduceAdd, Nat.reduceLeDiff, if_true, if_false, reduceIte, reduceCtorEq, id_eq, Bool.not_true, Bool.not_false, Bool.false_eq_true, and_self, Int.reduceLE, Int.reduceLT, Int.reduceNeg, decide_true, decide_false, Option.toList_some, Option.toList_none, List.cons_append, List.nil_append, ixRf, tupRf, lenRf, listRf, isLstRf, appRf, setRf, itemsRf, itemsT, itemsL, zipT, zipRf, allRf, anyRf, sumRf, tupT, slRf, isiE, tlE, lenT, lstAt_zero, lstAt_succ, Option.isSome_some, Nat.reduceLT, Bool.or_true, Bool.or_false, Bool.true_or, Bool.false_or, gIsN, gNotN, D.isNon, wipeD, upto3, wipeD, e1, e2, e3, L, z1, z2, ix_eF0, ix_eF1, f1, f2, f3, e4, e5, e6, e7, e8, e9, e10, Option.toList_some, List.cons_append, List.nil_append, List.append_assoc, List.length_append]
    rw [← List.append_assoc, gc_e (by simp [Dk6.len]) rfl (by
      rw [List.all_append, h.all (by omega), Bool.true_and, List.all_eq_true]
      exact fun c hc => Cell.lo_le (Nat.zero_le _) (List.all_eq_true.mp hrest c hc))]
    rfl

theorem cut_lk (l : Lk) (M : Mem) : gSl (eLk l) (some 1) none M = some (.tup [eP l.place, eP l.window, eP l.aside, eP l.down, .int l.w, .int l.h], M) := rfl
/-- the way of a cell's ray -/
def Lk.way (l : Lk) (c r : Int) : P3 := (l.window.add ((l.aside.scale (Rat.divInt (2 * c + 1) (2 * l.w))).add (l.down.scale (Rat.divInt (2 * r + 1) (2 * l.h))))).sub l.place
theorem Lk.Ok.share {a b : Int} (h1 : 0 ≤ a) (h2 : a < 12) (h3 : 1 ≤ b) (h4 : b ≤ 12) : Rb 20 (Rat.divInt (2 * a + 1) (2 * b)) := rb_div (by omega) (bt_abs (by omega) (by omega)) (bt_abs (by omega) (by omega))
theorem cell_ray_e {l : Lk} (h : l.Ok) {c r : Int} (hc : 0 ≤ c) (hc' : c < l.w) (hr : 0 ≤ r) (hr' : r < l.h) : m_cell_ray [eLk l, .int c, .int r] = some (.tup [eP l.place, eP (l.way c r)]) := by
  obtain ⟨b1, b2, b3, b4, w1, w2, v1, v2⟩ := h
  rw [e_cell_ray _ _ _ rfl]
  unfold b_cell_ray
  have s1 : Rb 20 _ := Lk.Ok.share hc (by omega) w1 w2
  have s2 : Rb 20 _ := Lk.Ok.share hr (by omega) v1 v2
  have f1 := frac_e (a := 2 * c + 1) (b := 2 * l.w) (by omega) ((bt_abs (m := 20) (by omega) (by omega)).mono (by decide))
  have f2 := frac_e (a := 2 * r + 1) (b := 2 * l.h) (by omega) ((bt_abs (m := 20) (by omega) (by omega)).mono (by decide))
  have t1 := stretched_e b3 s1 (by decide)
  have t2 := stretched_e b4 s2 (by decide)
  have c1 := b3.scale s1
  have c2 := b4.scale s2
  have t3 := together_e c1 c2 (by decide)
  have t4 := together_e b2 (c1.add c2) (by decide)
  have t5 := way_between_e b1 (b2.add (c1.add c2)) (by decide)
  have m1 := mulE (mul_small (i := 2) (j := c) (by decide) (by decide) (by omega) (by omega))
  have m2 := mulE (mul_small (i := 2) (j := l.w) (by decide) (by decide) (by omega) (by omega))
  have m3 := mulE (mul_small (i := 2) (j := r) (by decide) (by decide) (by omega) (by omega))
  have m4 := mulE (mul_small (i := 2) (j := l.h) (by decide) (by decide) (by omega) (by omega))
  simp only [↓ev_V, ↓ev_C, ↓ev_O, ↓ev_U, ↓ev_Nil, ↓ev_Cons, ↓ev_L, ↓ev_If, ↓ev_tV, ↓ev_tTr, ↓ev_tAn, ↓ev_tOr, ↓ev_tNo, ↓ev_NotB, ↓ev_AnB, ↓ev_OrB, ↓ev_Tup, ↓ev_Lst, ↓ev_CP, ↓ev_ML, ↓ev_Sli, ↓ev_oN, ↓ev_oS, ↓ev_Ch, ↓ev_gN, ↓ev_gsNil, ↓ev_gsCons, ↓ev_gT, ↓ev_Seq, ↓ev_Asg, ↓ev_Par, ↓ev_Ret, ↓ev_Drop, ↓ev_sIf, ↓ev_Next, ↓ev_Brk, ↓ev_Cont, ↓ev_RetN, ↓ev_Sub, ↓ev_For, ↓ev_body, ↓ev_iE, ↓ev_iR1, ↓ev_iR2, ↓ev_iZ, ↓ev_iEn, ↓ev_item, ↓ev_Lc, ↓ev_Yes, vOf_e, kO_e, kO2_e, kU_e, kCons_e, kCons2_e, kL_e, kIf_t, kIf_f, kB_e, kTr_e, kTr2_e, kAn_t, kAn_f, kOr_t, kOr_f, kNo_e, kNotB_e, kAnB_t, kAnB_f, kOrB_t, kOrB_f, kTup_e, kLst_e, kCP_e, kD_e, kML_e, kML2_e, kS1_e, kS2_e, kS3_e, kI_e, kCh1_e, kCh2_e, kCh3_t, kCh3_f, kAsg_e, kNx_e, kRet_e, kDrop_e, kSif_t, kSif_f, kSub1_e, kSub2_e, kSub3_e, kNxM_e, kFor_e, kBody_e, kIE_e, kSrc_e, kR1_e, kR2_e, kR2b_e, kZ1_e, kZ2_e, kEn_e, kMap_e, kMap2_e, kIt1_e, kIt2_t, kIt2_f, kSome_e, kLc_e, kLc2_e, kGc_e, ob_s, ob_n, then_nx, then_rt, then_bk, then_ct, par2_e, turn_nx, turn_ct, turn_bk, turn_rt, runT_nil, runT_cons, mapT_nil, mapT_cons, finP_nx, finM_rt, finM_nx, addE, subE, negE, cmpE, ixT, truI, truB, at0, at1, at2, at3, List.getElem?_cons_zero, List.getElem?_cons_succ, List.set_cons_zero, List.set_cons_succ, List.length_cons, List.length_nil, Nat.reduceAdd, Nat.reduceLeDiff, if_true, if_false, reduceIte, reduceCtorEq, id_eq, Bool.not_true, Bool.not_false, Bool.false_eq_true, and_self, Int.reduceLE, Int.reduceLT, Int.reduceNeg, decide_true, decide_false, Option.toList_some, Option.toList_none, List.cons_append, List.nil_append, ixRf, tupRf, lenRf, listRf, isLstRf, appRf, setRf, itemsRf, itemsT, itemsL, zipT, zipRf, allRf, anyRf, sumRf, tupT, slRf, isiE, tlE, lenT, lstAt_zero, lstAt_succ, Option.isSome_some, Nat.reduceLT, Bool.or_true, Bool.or_false, Bool.true_or, Bool.false_or, gIsN, gNotN, D.isNon, wipeD, cut_lk, m1, m2, m3, m4, f1, f2, t1, t2, t3, t4, t5]
  exact finP_rt _ _ rfl
/-- one coordinate of it, by the law's own shares -/
theorem share_is (a b p q : Rat) (c r w v : Int) (hw : 0 < w) (hv : 0 < v) :
    Rat.divInt (((2 * c + 1) * a.num * 2 * v * b.den + (2 * r + 1) * b.num * 2 * w * a.den) * (q.den * p.den) + (q.num * p.den - p.num * q.den) * (4 * w * v * a.den * b.den)) (4 * w * v * a.den * b.den * (q.den * p.den)) =
      (q + (a * Rat.divInt (2 * c + 1) (2 * w) + b * Rat.divInt (2 * r + 1) (2 * v))) - p := by
  have n1 : ((a.den : Int) : Rat) ≠ 0 := fun z => by have := a.den_pos; simp at z; omega
  have n2 : ((b.den : Int) : Rat) ≠ 0 := fun z => by have := b.den_pos; simp at z; omega
  have n3 : ((p.den : Int) : Rat) ≠ 0 := fun z => by have := p.den_pos; simp at z; omega
  have n4 : ((q.den : Int) : Rat) ≠ 0 := fun z => by have := q.den_pos; simp at z; omega
  have n5 : ((w : Int) : Rat) ≠ 0 := fun z => by have := Rat.intCast_inj.mp (z.trans Rat.intCast_zero.symm); omega
  have n6 : ((v : Int) : Rat) ≠ 0 := fun z => by have := Rat.intCast_inj.mp (z.trans Rat.intCast_zero.symm); omega
  have hd : ∀ x : Rat, (x.num : Rat) = x * ((x.den : Int) : Rat) := fun x => by
    have n : ((x.den : Int) : Rat) ≠ 0 := fun z => by have := x.den_pos; simp at z; omega
    have e : x = (x.num : Rat) / ((x.den : Int) : Rat) := by rw [← Rat.divInt_eq_div, Rat.num_divInt_den]
    have := rat_mul_of n e
    exact this
  have w2 : ((2 * w : Int) : Rat) ≠ 0 := fun z => by have := Rat.intCast_inj.mp (z.trans Rat.intCast_zero.symm); omega
  have v2 : ((2 * v : Int) : Rat) ≠ 0 := fun z => by have := Rat.intCast_inj.mp (z.trans Rat.intCast_zero.symm); omega
  have hu := rat_mul_of w2 (Rat.divInt_eq_div (2 * c + 1) (2 * w))
  have ht := rat_mul_of v2 (Rat.divInt_eq_div (2 * r + 1) (2 * v))
  generalize Rat.divInt (2 * c + 1) (2 * w) = u at *
  generalize Rat.divInt (2 * r + 1) (2 * v) = s at *
  rw [Rat.divInt_eq_div]
  have nz : ((4 * w * v * a.den * b.den * (q.den * p.den) : Int) : Rat) ≠ 0 := by
    simp only [Rat.intCast_mul, Rat.intCast_ofNat]
    simp [Rat.mul_eq_zero, n1, n2, n3, n4, n5, n6]
  refine rat_div_of nz ?_
  have e1 : ((((2 * c + 1) * a.num * 2 * v * b.den + (2 * r + 1) * b.num * 2 * w * a.den) * (q.den * p.den) + (q.num * p.den - p.num * q.den) * (4 * w * v * a.den * b.den) : Int) : Rat) = (((2 * c + 1 : Int) : Rat) * (a.num : Rat) * 2 * (v : Rat) * ((b.den : Int) : Rat) + ((2 * r + 1 : Int) : Rat) * (b.num : Rat) * 2 * (w : Rat) * ((a.den : Int) : Rat)) * (((q.den : Int) : Rat) * ((p.den : Int) : Rat)) + ((q.num : Rat) * ((p.den : Int) : Rat) - (p.num : Rat) * ((q.den : Int) : Rat)) * (4 * (w : Rat) * (v : Rat) * ((a.den : Int) : Rat) * ((b.den : Int) : Rat)) := by
    simp only [Rat.intCast_add, Rat.intCast_sub, Rat.intCast_mul, Rat.intCast_ofNat, Rat.intCast_one]
  have e2 : ((4 * w * v * a.den * b.den * (q.den * p.den) : Int) : Rat) = 4 * (w : Rat) * (v : Rat) * ((a.den : Int) : Rat) * ((b.den : Int) : Rat) * (((q.den : Int) : Rat) * ((p.den : Int) : Rat)) := by
    simp only [Rat.intCast_mul, Rat.intCast_ofNat]
  have e3 : ((2 * w : Int) : Rat) = 2 * (w : Rat) := by simp only [Rat.intCast_mul, Rat.intCast_ofNat]
  have e4 : ((2 * v : Int) : Rat) = 2 * (v : Rat) := by simp only [Rat.intCast_mul, Rat.intCast_ofNat]
  rw [e1, e2, hu, ht, e3, e4, hd a, hd b, hd p, hd q]
  generalize ((a.den : Int) : Rat) = ad
  generalize ((b.den : Int) : Rat) = bd
  generalize ((p.den : Int) : Rat) = pd
  generalize ((q.den : Int) : Rat) = qd
  generalize (w : Rat) = w'
  generalize (v : Rat) = v'
  grind

theorem ix_at (a b c : D) (M : Mem) : gIx (.tup [a, b, c]) (.int 0) M = some (a, M) ∧ gIx (.tup [a, b, c]) (.int 1) M = some (b, M) ∧ gIx (.tup [a, b, c]) (.int 2) M = some (c, M) := ⟨rfl, rfl, rfl⟩
theorem un_lk (l : Lk) (gs : FGs) (ρ : Rho) : gT 7 gs (eLk l) ρ = gs [.str "eye", eP l.place, eP l.window, eP l.aside, eP l.down, .int l.w, .int l.h] ρ := rfl
theorem due_e {l : Lk} (h : l.Ok) {c r : Int} (hc : 0 ≤ c) (hc' : c < l.w) (hr : 0 ≤ r) (hr' : r < l.h) : m__law_due [eLk l, .int c, .int r] = some (.tup [eP l.place, eP (l.way c r)]) := by
  obtain ⟨⟨p1, p2, p3⟩, ⟨q1, q2, q3⟩, ⟨a1, a2, a3⟩, ⟨b1, b2, b3⟩, w1, w2, v1, v2⟩ := h
  have bc : Bg 1 c := bg_small (by omega) (by omega)
  have br : Bg 1 r := bg_small (by omega) (by omega)
  have bw : Bg 1 l.w := bg_small (by omega) (by omega)
  have bh : Bg 1 l.h := bg_small (by omega) (by omega)
  have g : ∀ {q : Rat}, Rb 50 q → Bg 1 q.num ∧ Bg 1 (q.den : Int) := fun h => rb_bg h (by decide) (by decide)
  obtain ⟨_, _⟩ := g p1
  obtain ⟨_, _⟩ := g p2
  obtain ⟨_, _⟩ := g p3
  obtain ⟨_, _⟩ := g q1
  obtain ⟨_, _⟩ := g q2
  obtain ⟨_, _⟩ := g q3
  obtain ⟨_, _⟩ := g a1
  obtain ⟨_, _⟩ := g a2
  obtain ⟨_, _⟩ := g a3
  obtain ⟨_, _⟩ := g b1
  obtain ⟨_, _⟩ := g b2
  obtain ⟨_, _⟩ := g b3
  have pos : ∀ {a b p q : Rat}, 0 < 4 * l.w * l.h * (a.den : Int) * (b.den : Int) * ((q.den : Int) * (p.den : Int)) := fun {a b p q} => by
    have ha := a.den_pos
    have hb := b.den_pos
    have hp := p.den_pos
    have hq := q.den_pos
    exact Int.mul_pos (Int.mul_pos (Int.mul_pos (Int.mul_pos (by omega) (by omega)) (by omega)) (by omega)) (Int.mul_pos (by omega) (by omega))
  have fx := fun a => f_e (a := a) (pos (a := l.aside.x) (b := l.down.x) (p := l.place.x) (q := l.window.x)) (bg_bt 9000 inferInstance (by decide))
  have fy := fun a => f_e (a := a) (pos (a := l.aside.y) (b := l.down.y) (p := l.place.y) (q := l.window.y)) (bg_bt 9000 inferInstance (by decide))
  have fz := fun a => f_e (a := a) (pos (a := l.aside.z) (b := l.down.z) (p := l.place.z) (q := l.window.z)) (bg_bt 9000 inferInstance (by decide))
  rw [e__law_due _ _ _ rfl]
  unfold b__law_due
  simp only [↓ev_V, ↓ev_C, ↓ev_O, ↓ev_U, ↓ev_Nil, ↓ev_Cons, ↓ev_L, ↓ev_If, ↓ev_tV, ↓ev_tTr, ↓ev_tAn, ↓ev_tOr, ↓ev_tNo, ↓ev_NotB, ↓ev_AnB, ↓ev_OrB, ↓ev_Tup, ↓ev_Lst, ↓ev_CP, ↓ev_ML, ↓ev_Sli, ↓ev_oN, ↓ev_oS, ↓ev_Ch, ↓ev_gN, ↓ev_gsNil, ↓ev_gsCons, ↓ev_gT, ↓ev_Seq, ↓ev_Asg, ↓ev_Par, ↓ev_Ret, ↓ev_Drop, ↓ev_sIf, ↓ev_Next, ↓ev_Brk, ↓ev_Cont, ↓ev_RetN, ↓ev_Sub, ↓ev_For, ↓ev_body, ↓ev_iE, ↓ev_iR1, ↓ev_iR2, ↓ev_iZ, ↓ev_iEn, ↓ev_item, ↓ev_Lc, ↓ev_Yes, vOf_e, kO_e, kO2_e, kU_e, kCons_e, kCons2_e, kL_e, kIf_t, kIf_f, kB_e, kTr_e, kTr2_e, kAn_t, kAn_f, kOr_t, kOr_f, kNo_e, kNotB_e, kAnB_t, kAnB_f, kOrB_t, kOrB_f, kTup_e, kLst_e, kCP_e, kD_e, kML_e, kML2_e, kS1_e, kS2_e, kS3_e, kI_e, kCh1_e, kCh2_e, kCh3_t, kCh3_f, kAsg_e, kNx_e, kRet_e, kDrop_e, kSif_t, kSif_f, kSub1_e, kSub2_e, kSub3_e, kNxM_e, kFor_e, kBody_e, kIE_e, kSrc_e, kR1_e, kR2_e, kR2b_e, kZ1_e, kZ2_e, kEn_e, kMap_e, kMap2_e, kIt1_e, kIt2_t, kIt2_f, kSome_e, kLc_e, kLc2_e, kGc_e, ob_s, ob_n, then_nx, then_rt, then_bk, then_ct, par2_e, turn_nx, turn_ct, turn_bk, turn_rt, runT_nil, runT_cons, mapT_nil, mapT_cons, finP_nx, finM_rt, finM_nx, addE, subE, negE, cmpE, ixT, truI, truB, at0, at1, at2, at3, List.getElem?_cons_zero, List.getElem?_cons_succ, List.set_cons_zero, List.set_cons_succ, List.length_cons, List.length_nil, Nat.reduceAdd, Nat.reduceLeDiff, if_true, if_false, reduceIte, reduceCtorEq, id_eq, Bool.not_true, Bool.not_false, Bool.false_eq_true, and_self, Int.reduceLE, Int.reduceLT, Int.reduceNeg, decide_true, decide_false, Option.toList_some, Option.toList_none, List.cons_append, List.nil_append, ixRf, tupRf, lenRf, listRf, isLstRf, appRf, setRf, itemsRf, itemsT, itemsL, zipT, zipRf, allRf, anyRf, sumRf, tupT, slRf, isiE, tlE, lenT, lstAt_zero, lstAt_succ, Option.isSome_some, Nat.reduceLT, Bool.or_true, Bool.or_false, Bool.true_or, Bool.false_or, gIsN, gNotN, D.isNon, wipeD, un_lk, upto3, ix_eP0, ix_eP1, ix_eP2, ix_eF0, ix_eF1, mulT, fx, fy, fz]
  rw [share_is _ _ _ _ _ _ _ _ (by omega) (by omega), share_is _ _ _ _ _ _ _ _ (by omega) (by omega), share_is _ _ _ _ _ _ _ _ (by omega) (by omega)]
  exact finP_rt _ _ rfl

theorem same_eF (n : Nat) (q : Rat) : m__law_same (n + 2) [eF q, eF q] = some (.bl true) :=
  same_tup (fun d hd => by
    simp only [List.mem_cons, List.not_mem_nil, or_false] at hd
    rcases hd with rfl | rfl <;> exact same_int _ _) (by simp) rfl
theorem same_eP (n : Nat) (p : P3) : m__law_same (n + 3) [eP p, eP p] = some (.bl true) :=
  same_tup (fun d hd => by
    simp only [List.mem_cons, List.not_mem_nil, or_false] at hd
    rcases hd with rfl | rfl | rfl <;> exact same_eF _ _) (by simp) rfl
theorem same_ray (p q : P3) : m__law_same 12 [.tup [eP p, eP q], .tup [eP p, eP q]] = some (.bl true) :=
  same_tup (n := 11) (fun d hd => by
    simp only [List.mem_cons, List.not_mem_nil, or_false] at hd
    rcases hd with rfl | rfl <;> exact same_eP 8 _) (by simp) rfl
theorem ix_lk5 (l : Lk) (M : Mem) : gIx (eLk l) (.int 5) M = some (.int l.w, M) := rfl
theorem ix_lk6 (l : Lk) (M : Mem) : gIx (eLk l) (.int 6) M = some (.int l.h, M) := rfl
/-- cells of a look -/
def CellOk (l : Lk) (d : D) : Prop := ∃ c r : Int, d = .tup [.int c, .int r] ∧ 0 ≤ c ∧ c < l.w ∧ 0 ≤ r ∧ r < l.h
theorem los_cells {l : Lk} : ∀ {ds : List D}, (∀ d ∈ ds, CellOk l d) → D.los 0 ds = true
  | [], _ => rfl
  | d :: ds, h => by
    obtain ⟨c, r, rfl, _⟩ := h d List.mem_cons_self
    rw [los_cons, los_cells fun d' hd => h d' (List.mem_cons_of_mem _ hd)]
    rfl
def Iv52 (k : Dk6) (ρ : Rho) (M : Mem) : Prop := ∃ d rest x0 x2 x3 x4 x5 x6 x7, d.Ok ∧ rest.all (Cell.lo 0) = true ∧ M = k.M d ++ rest ∧ ρ = [x0, some (.rf k.s), x2, x3, x4, x5, x6, x7]
def Iw52 (k : Dk6) (l : Lk) (rest : Mem) (i : Nat) (ρ : Rho) (M : Mem) : Prop := ∃ d pl x0 x2 x5 x6 x7, d.Ok ∧ (∀ c ∈ pl, CellOk l c) ∧ pl.length = 3 + i ∧ M = k.M d ++ (rest ++ [.lst pl]) ∧ ρ = [x0, some (.rf k.s), x2, some (eLk l), some (.rf (k.B.length + rest.length)), x5, x6, x7]
noncomputable def body1 : FS := sDrop (fML mApp (fV 4) (fCons (fTup (fCons (fL m__law_next (fCons (fV 1) (fCons (fO gIx (fV 3) (fC (.int 5))) fNil))) (fCons (fL m__law_next (fCons (fV 1) (fCons (fO gIx (fV 3) (fC (.int 6))) fNil))) fNil))) fNil))
theorem law_true (ns : List Int) (hl : ns.length ≤ 63) : ∃ M, m_law [.rol (ns.map D.int)] [] = some (.bl true, M) := by
  have h := dk6_ok ns
  generalize hk : dk6 ns = k at h
  have L : ∀ d, List.length (k.M d) = k.B.length := fun d => Dk6.len
  have st := state_e ns
  rw [hk] at st
  have i0 : Iv52 k [some (.rol (ns.map D.int)), some (.rf k.s), none, none, none, none, none, none] (k.M d60) := ⟨d60, [], _, _, _, _, _, _, _, d60_ok, rfl, by simp, rfl⟩
  rw [e_law]
  unfold b_law
  simp only [↓ev_V, ↓ev_C, ↓ev_O, ↓ev_U, ↓ev_Nil, ↓ev_Cons, ↓ev_L, ↓ev_If, ↓ev_tV, ↓ev_tTr, ↓ev_tAn, ↓ev_tOr, ↓ev_tNo, ↓ev_NotB, ↓ev_AnB, ↓ev_OrB, ↓ev_Tup, ↓ev_Lst, ↓ev_CP, ↓ev_ML, ↓ev_Sli, ↓ev_oN, ↓ev_oS, ↓ev_Ch, ↓ev_gN, ↓ev_gsNil, ↓ev_gsCons, ↓ev_gT, ↓ev_Seq, ↓ev_Asg, ↓ev_Par, ↓ev_Ret, ↓ev_Drop, ↓ev_sIf, ↓ev_Next, ↓ev_Brk, ↓ev_Cont, ↓ev_RetN, ↓ev_Sub, ↓ev_For, ↓ev_body, ↓ev_iE, ↓ev_iR1, ↓ev_iR2, ↓ev_iZ, ↓ev_iEn, ↓ev_item, ↓ev_Lc, ↓ev_Yes, vOf_e, kO_e, kO2_e, kU_e, kCons_e, kCons2_e, kL_e, kIf_t, kIf_f, kB_e, kTr_e, kTr2_e, kAn_t, kAn_f, kOr_t, kOr_f, kNo_e, kNotB_e, kAnB_t, kAnB_f, kOrB_t, kOrB_f, kTup_e, kLst_e, kCP_e, kD_e, kML_e, kML2_e, kS1_e, kS2_e, kS3_e, kI_e, kCh1_e, kCh2_e, kCh3_t, kCh3_f, kAsg_e, kNx_e, kRet_e, kDrop_e, kSif_t, kSif_f, kSub1_e, kSub2_e, kSub3_e, kNxM_e, kFor_e, kBody_e, kIE_e, kSrc_e, kR1_e, kR2_e, kR2b_e, kZ1_e, kZ2_e, kEn_e, kMap_e, kMap2_e, kIt1_e, kIt2_t, kIt2_f, kSome_e, kLc_e, kLc2_e, kGc_e, ob_s, ob_n, then_nx, then_rt, then_bk, then_ct, par2_e, turn_nx, turn_ct, turn_bk, turn_rt, runT_nil, runT_cons, mapT_nil, mapT_cons, finP_nx, finM_rt, finM_nx, addE, subE, negE, cmpE, ixT, truI, truB, at0, at1, at2, at3, List.getElem?_cons_zero, List.getElem?_cons_succ, List.set_cons_zero, List.set_cons_succ, List.length_cons, List.length_nil, Nat.reduceAdd, Nat.reduceLeDiff, if_true, if_false, reduceIte, reduceCtorEq, id_eq, Bool.not_true, Bool.not_false, Bool.false_eq_true, and_self, Int.reduceLE, Int.reduceLT, Int.reduceNeg, decide_true, decide_false, Option.toList_some, Option.toList_none, List.cons_append, List.nil_append, ixRf, tupRf, lenRf, listRf, isLstRf, appRf, setRf, itemsRf, itemsT, itemsL, zipT, zipRf, allRf, anyRf, sumRf, tupT, slRf, isiE, tlE, lenT, lstAt_zero, lstAt_succ, Option.isSome_some, Nat.reduceLT, Bool.or_true, Bool.or_false, Bool.true_or, Bool.false_or, gIsN, gNotN, D.isNon, wipeD, st]
  generalize hb : bodyG (gN 2) _ = body
  have turn : ∀ t ∈ upto 0 (Int.toNat 4), ∀ ρ M, Iv52 k ρ M → ∃ ρ' M', body t ρ M = some (.nx ρ', M') ∧ Iv52 k ρ' M' := fun t _ ρ M hi => by
    obtain ⟨d, rest, x0, x2, x3, x4, x5, x6, x7, hd, hrest, rfl, rfl⟩ := hi
    obtain ⟨l, d1, hl, hd1, e1⟩ := look_e h hd
    have e1 := e1 rest hrest
    have hl' := hl
    obtain ⟨_, _, _, _, w1, w2, v1, v2⟩ := hl'
    rw [← hb]
    simp only [↓ev_V, ↓ev_C, ↓ev_O, ↓ev_U, ↓ev_Nil, ↓ev_Cons, ↓ev_L, ↓ev_If, ↓ev_tV, ↓ev_tTr, ↓ev_tAn, ↓ev_tOr, ↓ev_tNo, ↓ev_NotB, ↓ev_AnB, ↓ev_OrB, ↓ev_Tup, ↓ev_Lst, ↓ev_CP, ↓ev_ML, ↓ev_Sli, ↓ev_oN, ↓ev_oS, ↓ev_Ch, ↓ev_gN, ↓ev_gsNil, ↓ev_gsCons, ↓ev_gT, ↓ev_Seq, ↓ev_Asg, ↓ev_Par, ↓ev_Ret, ↓ev_Drop, ↓ev_sIf, ↓ev_Next, ↓ev_Brk, ↓ev_Cont, ↓ev_RetN, ↓ev_Sub, ↓ev_For, ↓ev_body, ↓ev_iE, ↓ev_iR1, ↓ev_iR2, ↓ev_iZ, ↓ev_iEn, ↓ev_item, ↓ev_Lc, ↓ev_Yes, vOf_e, kO_e, kO2_e, kU_e, kCons_e, kCons2_e, kL_e, kIf_t, kIf_f, kB_e, kTr_e, kTr2_e, kAn_t, kAn_f, kOr_t, kOr_f, kNo_e, kNotB_e, kAnB_t, kAnB_f, kOrB_t, kOrB_f, kTup_e, kLst_e, kCP_e, kD_e, kML_e, kML2_e, kS1_e, kS2_e, kS3_e, kI_e, kCh1_e, kCh2_e, kCh3_t, kCh3_f, kAsg_e, kNx_e, kRet_e, kDrop_e, kSif_t, kSif_f, kSub1_e, kSub2_e, kSub3_e, kNxM_e, kFor_e, kBody_e, kIE_e, kSrc_e, kR1_e, kR2_e, kR2b_e, kZ1_e, kZ2_e, kEn_e, kMap_e, kMap2_e, kIt1_e, kIt2_t, kIt2_f, kSome_e, kLc_e, kLc2_e, kGc_e, ob_s, ob_n, then_nx, then_rt, then_bk, then_ct, par2_e, turn_nx, turn_ct, turn_bk, turn_rt, runT_nil, runT_cons, mapT_nil, mapT_cons, finP_nx, finM_rt, finM_nx, addE, subE, negE, cmpE, ixT, truI, truB, at0, at1, at2, at3, List.getElem?_cons_zero, List.getElem?_cons_succ, List.set_cons_zero, List.set_cons_succ, List.length_cons, List.length_nil, Nat.reduceAdd, Nat.reduceLeDiff, if_true, if_false, reduceIte, reduceCtorEq, id_eq, Bool.not_true, Bool.not_false, Bool.false_eq_true, and_self, Int.reduceLE, Int.reduceLT, Int.reduceNeg, decide_true, decide_false, Option.toList_some, Option.toList_none, List.cons_append, List.nil_append, ixRf, tupRf, lenRf, listRf, isLstRf, appRf, setRf, itemsRf, itemsT, itemsL, zipT, zipRf, allRf, anyRf, sumRf, tupT, slRf, isiE, tlE, lenT, lstAt_zero, lstAt_succ, Option.isSome_some, Nat.reduceLT, Bool.or_true, Bool.or_false, Bool.true_or, Bool.false_or, gIsN, gNotN, D.isNon, wipeD, e1, ix_lk5, ix_lk6, L, List.append_assoc, List.length_append]
    generalize hb1 : bodyG (gN 5) _ = body1
    have z1 : ∀ (d : Ds) (ds : List D) (C : Mem), lstAt (k.M d ++ (rest ++ .lst ds :: C)) (k.B.length + rest.length) = some ds := fun d ds C => lstAt_of (new_at C (L d))
    have z2 : ∀ (d : Ds) (c c' : Cell) (C : Mem), (k.M d ++ (rest ++ c :: C)).set (k.B.length + rest.length) c' = k.M d ++ (rest ++ c' :: C) := fun d c c' C => set_new (L d)
    obtain ⟨ρ1, M1, e2, j1⟩ := run_n (gd := fun _ => True) (body := body1) (Iw52 k l rest) (fun _ _ _ _ => trivial) (upto 0 (Int.toNat 6)) 0 [x0, some (.rf k.s), some t, some (eLk l), some (.rf (k.B.length + rest.length)), x5, x6, x7] (k.M d1 ++ (rest ++ [.lst [.tup [.int 0, .int 0], .tup [.int (l.w - 1), .int (l.h - 1)], .tup [.int (l.w - 1), .int 0]]]))
      (fun j t ht ρ M hj => by
        have hj6 := (upto_get ht).1
        obtain ⟨d, pl, x0, x2, x5, x6, x7, hd, hp, hn, rfl, rfl⟩ := hj
        obtain ⟨c, d2, hd2, c1, c2, e2⟩ := h.nx hd (n := l.w) (by omega) (by omega)
        obtain ⟨r, d3, hd3, r1, r2, e3⟩ := h.nx hd2 (n := l.h) (by omega) (by omega)
        rw [← hb1]
        have hlt : pl.length < 100000 := by
          have : j < 6 := hj6
          omega
        refine ⟨_, _, by simp only [↓ev_V, ↓ev_C, ↓ev_O, ↓ev_U, ↓ev_Nil, ↓ev_Cons, ↓ev_L, ↓ev_If, ↓ev_tV, ↓ev_tTr, ↓ev_tAn, ↓ev_tOr, ↓ev_tNo, ↓ev_NotB, ↓ev_AnB, ↓ev_OrB, ↓ev_Tup, ↓ev_Lst, ↓ev_CP, ↓ev_ML, ↓ev_Sli, ↓ev_oN, ↓ev_oS, ↓ev_Ch, ↓ev_gN, ↓ev_gsNil, ↓ev_gsCons, ↓ev_gT, ↓ev_Seq, ↓ev_Asg, ↓ev_Par, ↓ev_Ret, ↓ev_Drop, ↓ev_sIf, ↓ev_Next, ↓ev_Brk, ↓ev_Cont, ↓ev_RetN, ↓ev_Sub, ↓ev_For, ↓ev_body, ↓ev_iE, ↓ev_iR1, ↓ev_iR2, ↓ev_iZ, ↓ev_iEn, ↓ev_item, ↓ev_Lc, ↓ev_Yes, vOf_e, kO_e, kO2_e, kU_e, kCons_e, kCons2_e, kL_e, kIf_t, kIf_f, kB_e, kTr_e, kTr2_e, kAn_t, kAn_f, kOr_t, kOr_f, kNo_e, kNotB_e, kAnB_t, kAnB_f, kOrB_t, kOrB_f, kTup_e, kLst_e, kCP_e, kD_e, kML_e, kML2_e, kS1_e, kS2_e, kS3_e, kI_e, kCh1_e, kCh2_e, kCh3_t, kCh3_f, kAsg_e, kNx_e, kRet_e, kDrop_e, kSif_t, kSif_f, kSub1_e, kSub2_e, kSub3_e, kNxM_e, kFor_e, kBody_e, kIE_e, kSrc_e, kR1_e, kR2_e, kR2b_e, kZ1_e, kZ2_e, kEn_e, kMap_e, kMap2_e, kIt1_e, kIt2_t, kIt2_f, kSome_e, kLc_e, kLc2_e, kGc_e, ob_s, ob_n, then_nx, then_rt, then_bk, then_ct, par2_e, turn_nx, turn_ct, turn_bk, turn_rt, runT_nil, runT_cons, mapT_nil, mapT_cons, finP_nx, finM_rt, finM_nx, addE, subE, negE, cmpE, ixT, truI, truB, at0, at1, at2, at3, List.getElem?_cons_zero, List.getElem?_cons_succ, List.set_cons_zero, List.set_cons_succ, List.length_cons, List.length_nil, Nat.reduceAdd, Nat.reduceLeDiff, if_true, if_false, reduceIte, reduceCtorEq, id_eq, Bool.not_true, Bool.not_false, Bool.false_eq_true, and_self, Int.reduceLE, Int.reduceLT, Int.reduceNeg, decide_true, decide_false, Option.toList_some, Option.toList_none, List.cons_append, List.nil_append, ixRf, tupRf, lenRf, listRf, isLstRf, appRf, setRf, itemsRf, itemsT, itemsL, zipT, zipRf, allRf, anyRf, sumRf, tupT, slRf, isiE, tlE, lenT, lstAt_zero, lstAt_succ, Option.isSome_some, Nat.reduceLT, Bool.or_true, Bool.or_false, Bool.true_or, Bool.false_or, gIsN, gNotN, D.isNon, wipeD, ix_lk5, ix_lk6, e2, e3, z1, z2, hlt]; rfl, ?_⟩
        refine ⟨d3, pl ++ [.tup [.int c, .int r]], _, _, _, _, _, hd3, ?_, by simp; omega, rfl, rfl⟩
        intro x hx
        rcases List.mem_append.mp hx with hx | hx
        · exact hp x hx
        · rw [List.mem_singleton.mp hx]
          exact ⟨c, r, rfl, c1, c2, r1, r2⟩)
      ⟨d1, _, _, _, _, _, _, hd1, by
        intro c hc
        simp only [List.mem_cons, List.not_mem_nil, or_false] at hc
        rcases hc with rfl | rfl | rfl
        · exact ⟨_, _, rfl, by omega, by omega, by omega, by omega⟩
        · exact ⟨_, _, rfl, by omega, by omega, by omega, by omega⟩
        · exact ⟨_, _, rfl, by omega, by omega, by omega, by omega⟩, by simp, rfl, rfl⟩
    rw [e2]
    obtain ⟨d4, pl, y0, y2, y5, y6, y7, hd4, hp, hn, rfl, rfl⟩ := j1
    simp only [↓ev_V, ↓ev_C, ↓ev_O, ↓ev_U, ↓ev_Nil, ↓ev_Cons, ↓ev_L, ↓ev_If, ↓ev_tV, ↓ev_tTr, ↓ev_tAn, ↓ev_tOr, ↓ev_tNo, ↓ev_NotB, ↓ev_AnB, ↓ev_OrB, ↓ev_Tup, ↓ev_Lst, ↓ev_CP, ↓ev_ML, ↓ev_Sli, ↓ev_oN, ↓ev_oS, ↓ev_Ch, ↓ev_gN, ↓ev_gsNil, ↓ev_gsCons, ↓ev_gT, ↓ev_Seq, ↓ev_Asg, ↓ev_Par, ↓ev_Ret, ↓ev_Drop, ↓ev_sIf, ↓ev_Next, ↓ev_Brk, ↓ev_Cont, ↓ev_RetN, ↓ev_Sub, ↓ev_For, ↓ev_body, ↓ev_iE, ↓ev_iR1, ↓ev_iR2, ↓ev_iZ, ↓ev_iEn, ↓ev_item, ↓ev_Lc, ↓ev_Yes, vOf_e, kO_e, kO2_e, kU_e, kCons_e, kCons2_e, kL_e, kIf_t, kIf_f, kB_e, kTr_e, kTr2_e, kAn_t, kAn_f, kOr_t, kOr_f, kNo_e, kNotB_e, kAnB_t, kAnB_f, kOrB_t, kOrB_f, kTup_e, kLst_e, kCP_e, kD_e, kML_e, kML2_e, kS1_e, kS2_e, kS3_e, kI_e, kCh1_e, kCh2_e, kCh3_t, kCh3_f, kAsg_e, kNx_e, kRet_e, kDrop_e, kSif_t, kSif_f, kSub1_e, kSub2_e, kSub3_e, kNxM_e, kFor_e, kBody_e, kIE_e, kSrc_e, kR1_e, kR2_e, kR2b_e, kZ1_e, kZ2_e, kEn_e, kMap_e, kMap2_e, kIt1_e, kIt2_t, kIt2_f, kSome_e, kLc_e, kLc2_e, kGc_e, ob_s, ob_n, then_nx, then_rt, then_bk, then_ct, par2_e, turn_nx, turn_ct, turn_bk, turn_rt, runT_nil, runT_cons, mapT_nil, mapT_cons, finP_nx, finM_rt, finM_nx, addE, subE, negE, cmpE, ixT, truI, truB, at0, at1, at2, at3, List.getElem?_cons_zero, List.getElem?_cons_succ, List.set_cons_zero, List.set_cons_succ, List.length_cons, List.length_nil, Nat.reduceAdd, Nat.reduceLeDiff, if_true, if_false, reduceIte, reduceCtorEq, id_eq, Bool.not_true, Bool.not_false, Bool.false_eq_true, and_self, Int.reduceLE, Int.reduceLT, Int.reduceNeg, decide_true, decide_false, Option.toList_some, Option.toList_none, List.cons_append, List.nil_append, ixRf, tupRf, lenRf, listRf, isLstRf, appRf, setRf, itemsRf, itemsT, itemsL, zipT, zipRf, allRf, anyRf, sumRf, tupT, slRf, isiE, tlE, lenT, lstAt_zero, lstAt_succ, Option.isSome_some, Nat.reduceLT, Bool.or_true, Bool.or_false, Bool.true_or, Bool.false_or, gIsN, gNotN, D.isNon, wipeD, z1]
    generalize hb2 : bodyG (gT 2 _) _ = body2
    have hg : ∀ d, (k.M d ++ (rest ++ [.lst pl]))[k.B.length + rest.length]? = some (.lst pl) := fun d => new_at [] (L d)
    obtain ⟨ρ2, M2, e5, j2⟩ := run_inv (gd := fun M' => M'[k.B.length + rest.length]? = some (.lst pl)) (body := body2) (fun ρ M => M = k.M d4 ++ (rest ++ [.lst pl]) ∧ ∃ x0 x2 x4 x5 x6 x7, ρ = [x0, some (.rf k.s), x2, some (eLk l), x4, x5, x6, x7]) (fun ρ M i => by rw [i.1]; exact hg d4) pl [y0, some (.rf k.s), y2, some (eLk l), some (.rf (k.B.length + rest.length)), y5, y6, y7] (k.M d4 ++ (rest ++ [.lst pl]))
      (fun x hx ρ M hj => by
        obtain ⟨rfl, x0, x2, x4, x5, x6, x7, rfl⟩ := hj
        obtain ⟨c, r, rfl, c1, c2, r1, r2⟩ := hp x hx
        rw [← hb2]
        refine ⟨_, _, by simp only [↓ev_V, ↓ev_C, ↓ev_O, ↓ev_U, ↓ev_Nil, ↓ev_Cons, ↓ev_L, ↓ev_If, ↓ev_tV, ↓ev_tTr, ↓ev_tAn, ↓ev_tOr, ↓ev_tNo, ↓ev_NotB, ↓ev_AnB, ↓ev_OrB, ↓ev_Tup, ↓ev_Lst, ↓ev_CP, ↓ev_ML, ↓ev_Sli, ↓ev_oN, ↓ev_oS, ↓ev_Ch, ↓ev_gN, ↓ev_gsNil, ↓ev_gsCons, ↓ev_gT, ↓ev_Seq, ↓ev_Asg, ↓ev_Par, ↓ev_Ret, ↓ev_Drop, ↓ev_sIf, ↓ev_Next, ↓ev_Brk, ↓ev_Cont, ↓ev_RetN, ↓ev_Sub, ↓ev_For, ↓ev_body, ↓ev_iE, ↓ev_iR1, ↓ev_iR2, ↓ev_iZ, ↓ev_iEn, ↓ev_item, ↓ev_Lc, ↓ev_Yes, vOf_e, kO_e, kO2_e, kU_e, kCons_e, kCons2_e, kL_e, kIf_t, kIf_f, kB_e, kTr_e, kTr2_e, kAn_t, kAn_f, kOr_t, kOr_f, kNo_e, kNotB_e, kAnB_t, kAnB_f, kOrB_t, kOrB_f, kTup_e, kLst_e, kCP_e, kD_e, kML_e, kML2_e, kS1_e, kS2_e, kS3_e, kI_e, kCh1_e, kCh2_e, kCh3_t, kCh3_f, kAsg_e, kNx_e, kRet_e, kDrop_e, kSif_t, kSif_f, kSub1_e, kSub2_e, kSub3_e, kNxM_e, kFor_e, kBody_e, kIE_e, kSrc_e, kR1_e, kR2_e, kR2b_e, kZ1_e, kZ2_e, kEn_e, kMap_e, kMap2_e, kIt1_e, kIt2_t, kIt2_f, kSome_e, kLc_e, kLc2_e, kGc_e, ob_s, ob_n, then_nx, then_rt, then_bk, then_ct, par2_e, turn_nx, turn_ct, turn_bk, turn_rt, runT_nil, runT_cons, mapT_nil, mapT_cons, finP_nx, finM_rt, finM_nx, addE, subE, negE, cmpE, ixT, truI, truB, at0, at1, at2, at3, List.getElem?_cons_zero, List.getElem?_cons_succ, List.set_cons_zero, List.set_cons_succ, List.length_cons, List.length_nil, Nat.reduceAdd, Nat.reduceLeDiff, if_true, if_false, reduceIte, reduceCtorEq, id_eq, Bool.not_true, Bool.not_false, Bool.false_eq_true, and_self, Int.reduceLE, Int.reduceLT, Int.reduceNeg, decide_true, decide_false, Option.toList_some, Option.toList_none, List.cons_append, List.nil_append, ixRf, tupRf, lenRf, listRf, isLstRf, appRf, setRf, itemsRf, itemsT, itemsL, zipT, zipRf, allRf, anyRf, sumRf, tupT, slRf, isiE, tlE, lenT, lstAt_zero, lstAt_succ, Option.isSome_some, Nat.reduceLT, Bool.or_true, Bool.or_false, Bool.true_or, Bool.false_or, gIsN, gNotN, D.isNon, wipeD, cell_ray_e hl c1 c2 r1 r2, due_e hl c1 c2 r1 r2, same_ray]; rfl, rfl, _, _, _, _, _, _, rfl⟩) ⟨rfl, _, _, _, _, _, _, rfl⟩
    rw [e5]
    obtain ⟨rfl, z0, z2, z4, z5, z6, z7, rfl⟩ := j2
    refine ⟨_, _, rfl, d4, rest ++ [.lst pl], _, _, _, _, _, _, _, hd4, ?_, rfl, rfl⟩
    rw [List.all_append, hrest]
    simp only [List.all_cons, List.all_nil, Bool.and_true, Bool.true_and]
    exact los_cells hp
  obtain ⟨ρ', M', e, _⟩ := run_inv (gd := fun _ => True) (Iv52 k) (fun _ _ _ => trivial) (upto 0 (Int.toNat 4)) _ _ turn i0
  rw [e]
  simp only [↓ev_V, ↓ev_C, ↓ev_O, ↓ev_U, ↓ev_Nil, ↓ev_Cons, ↓ev_L, ↓ev_If, ↓ev_tV, ↓ev_tTr, ↓ev_tAn, ↓ev_tOr, ↓ev_tNo, ↓ev_NotB, ↓ev_AnB, ↓ev_OrB, ↓ev_Tup, ↓ev_Lst, ↓ev_CP, ↓ev_ML, ↓ev_Sli, ↓ev_oN, ↓ev_oS, ↓ev_Ch, ↓ev_gN, ↓ev_gsNil, ↓ev_gsCons, ↓ev_gT, ↓ev_Seq, ↓ev_Asg, ↓ev_Par, ↓ev_Ret, ↓ev_Drop, ↓ev_sIf, ↓ev_Next, ↓ev_Brk, ↓ev_Cont, ↓ev_RetN, ↓ev_Sub, ↓ev_For, ↓ev_body, ↓ev_iE, ↓ev_iR1, ↓ev_iR2, ↓ev_iZ, ↓ev_iEn, ↓ev_item, ↓ev_Lc, ↓ev_Yes, vOf_e, kO_e, kO2_e, kU_e, kCons_e, kCons2_e, kL_e, kIf_t, kIf_f, kB_e, kTr_e, kTr2_e, kAn_t, kAn_f, kOr_t, kOr_f, kNo_e, kNotB_e, kAnB_t, kAnB_f, kOrB_t, kOrB_f, kTup_e, kLst_e, kCP_e, kD_e, kML_e, kML2_e, kS1_e, kS2_e, kS3_e, kI_e, kCh1_e, kCh2_e, kCh3_t, kCh3_f, kAsg_e, kNx_e, kRet_e, kDrop_e, kSif_t, kSif_f, kSub1_e, kSub2_e, kSub3_e, kNxM_e, kFor_e, kBody_e, kIE_e, kSrc_e, kR1_e, kR2_e, kR2b_e, kZ1_e, kZ2_e, kEn_e, kMap_e, kMap2_e, kIt1_e, kIt2_t, kIt2_f, kSome_e, kLc_e, kLc2_e, kGc_e, ob_s, ob_n, then_nx, then_rt, then_bk, then_ct, par2_e, turn_nx, turn_ct, turn_bk, turn_rt, runT_nil, runT_cons, mapT_nil, mapT_cons, finP_nx, finM_rt, finM_nx, addE, subE, negE, cmpE, ixT, truI, truB, at0, at1, at2, at3, List.getElem?_cons_zero, List.getElem?_cons_succ, List.set_cons_zero, List.set_cons_succ, List.length_cons, List.length_nil, Nat.reduceAdd, Nat.reduceLeDiff, if_true, if_false, reduceIte, reduceCtorEq, id_eq, Bool.not_true, Bool.not_false, Bool.false_eq_true, and_self, Int.reduceLE, Int.reduceLT, Int.reduceNeg, decide_true, decide_false, Option.toList_some, Option.toList_none, List.cons_append, List.nil_append, ixRf, tupRf, lenRf, listRf, isLstRf, appRf, setRf, itemsRf, itemsT, itemsL, zipT, zipRf, allRf, anyRf, sumRf, tupT, slRf, isiE, tlE, lenT, lstAt_zero, lstAt_succ, Option.isSome_some, Nat.reduceLT, Bool.or_true, Bool.or_false, Bool.true_or, Bool.false_or, gIsN, gNotN, D.isNon, wipeD]
  exact ⟨_, rfl⟩

def topS (i : Nat) : Stmt := PySem.Challenge.pw_scenetongue_k52_rays_of_cells.main.body.getD i (.Pass ⟨0, 0, 0, 0⟩)
abbrev s_frac : Stmt := topS 1
abbrev nm_frac : List Str := ["above", "below", "shared", "rest"]
theorem sc_frac : FnScope nm_frac ["above", "below"] (defScope s_frac) := ⟨rfl, rfl, rfl, by decide +kernel, rfl, by decide +kernel, by decide +kernel⟩
abbrev s_plus : Stmt := topS 2
abbrev nm_plus : List Str := ["one", "other"]
theorem sc_plus : FnScope nm_plus ["one", "other"] (defScope s_plus) := ⟨rfl, rfl, rfl, by decide +kernel, rfl, by decide +kernel, by decide +kernel⟩
abbrev s_minus : Stmt := topS 3
abbrev nm_minus : List Str := ["one", "other"]
theorem sc_minus : FnScope nm_minus ["one", "other"] (defScope s_minus) := ⟨rfl, rfl, rfl, by decide +kernel, rfl, by decide +kernel, by decide +kernel⟩
abbrev s_times : Stmt := topS 4
abbrev nm_times : List Str := ["one", "other"]
theorem sc_times : FnScope nm_times ["one", "other"] (defScope s_times) := ⟨rfl, rfl, rfl, by decide +kernel, rfl, by decide +kernel, by decide +kernel⟩
abbrev s_together : Stmt := topS 6
abbrev nm_together : List Str := ["one", "other"]
theorem sc_together : FnScope nm_together ["one", "other"] (defScope s_together) := ⟨rfl, rfl, rfl, by decide +kernel, rfl, by decide +kernel, by decide +kernel⟩
abbrev s_way_between : Stmt := topS 7
abbrev nm_way_between : List Str := ["one", "other"]
theorem sc_way_between : FnScope nm_way_between ["one", "other"] (defScope s_way_between) := ⟨rfl, rfl, rfl, by decide +kernel, rfl, by decide +kernel, by decide +kernel⟩
abbrev s_stretched : Stmt := topS 8
abbrev nm_stretched : List Str := ["way", "by"]
theorem sc_stretched : FnScope nm_stretched ["way", "by"] (defScope s_stretched) := ⟨rfl, rfl, rfl, by decide +kernel, rfl, by decide +kernel, by decide +kernel⟩
abbrev s_cell_ray : Stmt := topS 10
abbrev nm_cell_ray : List Str := ["look", "column", "row", "place", "corner", "across", "down", "columns", "rows", "over_window", "down_window"]
theorem sc_cell_ray : FnScope nm_cell_ray ["look", "column", "row"] (defScope s_cell_ray) := ⟨rfl, rfl, rfl, by decide +kernel, rfl, by decide +kernel, by decide +kernel⟩
abbrev s__law_state : Stmt := topS 12
abbrev nm__law_state : List Str := ["_law_script", "_law_numbers"]
theorem sc__law_state : FnScope nm__law_state ["_law_script"] (defScope s__law_state) := ⟨rfl, rfl, rfl, by decide +kernel, rfl, by decide +kernel, by decide +kernel⟩
abbrev s__law_next : Stmt := topS 13
abbrev nm__law_next : List Str := ["_law_state_here", "_law_below", "_law_found", "_law_numbers", "_law_number", "_law_mixed"]
theorem sc__law_next : FnScope nm__law_next ["_law_state_here", "_law_below"] (defScope s__law_next) := ⟨rfl, rfl, rfl, by decide +kernel, rfl, by decide +kernel, by decide +kernel⟩
abbrev s__law_same : Stmt := topS 14
abbrev nm__law_same : List Str := ["_law_found", "_law_due_here", "_law_one", "_law_other"]
theorem sc__law_same : FnScope nm__law_same ["_law_found", "_law_due_here"] (defScope s__law_same) := ⟨rfl, rfl, rfl, by decide +kernel, rfl, by decide +kernel, by decide +kernel⟩
abbrev s__law_f : Stmt := topS 15
abbrev nm__law_f : List Str := ["_law_above", "_law_below", "_law_one", "_law_other"]
theorem sc__law_f : FnScope nm__law_f ["_law_above", "_law_below"] (defScope s__law_f) := ⟨rfl, rfl, rfl, by decide +kernel, rfl, by decide +kernel, by decide +kernel⟩
abbrev s__law_share : Stmt := topS 17
abbrev nm__law_share : List Str := ["_law_state_here", "_law_way"]
theorem sc__law_share : FnScope nm__law_share ["_law_state_here"] (defScope s__law_share) := ⟨rfl, rfl, rfl, by decide +kernel, rfl, by decide +kernel, by decide +kernel⟩
abbrev s__law_look : Stmt := topS 18
abbrev nm__law_look : List Str := ["_law_state_here", "_law_place", "_law_window", "_law_wide", "_law_high", "_law_aside", "_law_down", "_law_k"]
theorem sc__law_look : FnScope nm__law_look ["_law_state_here"] (defScope s__law_look) := ⟨rfl, rfl, rfl, by decide +kernel, rfl, by decide +kernel, by decide +kernel⟩
abbrev s__law_due : Stmt := topS 19
abbrev nm__law_due : List Str := ["_law_look_here", "_law_column", "_law_row", "_law_name", "_law_place", "_law_corner", "_law_aside", "_law_down", "_law_wide", "_law_high", "_law_found", "_law_k", "_law_one", "_law_other", "_law_above", "_law_below", "_law_near"]
theorem sc__law_due : FnScope nm__law_due ["_law_look_here", "_law_column", "_law_row"] (defScope s__law_due) := ⟨rfl, rfl, rfl, by decide +kernel, rfl, by decide +kernel, by decide +kernel⟩
abbrev s_law : Stmt := topS 20
abbrev nm_law : List Str := ["_law_script", "_law_state_here", "_law_turn", "_law_look_here", "_law_places", "_law_k", "_law_column", "_law_row"]
theorem sc_law : FnScope nm_law ["_law_script"] (defScope s_law) := ⟨rfl, rfl, rfl, by decide +kernel, rfl, by decide +kernel, by decide +kernel⟩
structure Tx (K : PySem.W.Frag) (mg : Str → Option Value) where
  f_frac : Addr
  d_frac : FuncData
  F_frac : Fun K "frac" "frac" s_frac f_frac d_frac
  b_frac : Binds K d_frac ["above", "below"] []
  g_frac : mg "frac" = some (.ref f_frac)
  f_plus : Addr
  d_plus : FuncData
  F_plus : Fun K "plus" "plus" s_plus f_plus d_plus
  b_plus : Binds K d_plus ["one", "other"] []
  g_plus : mg "plus" = some (.ref f_plus)
  f_minus : Addr
  d_minus : FuncData
  F_minus : Fun K "minus" "minus" s_minus f_minus d_minus
  b_minus : Binds K d_minus ["one", "other"] []
  g_minus : mg "minus" = some (.ref f_minus)
  f_times : Addr
  d_times : FuncData
  F_times : Fun K "times" "times" s_times f_times d_times
  b_times : Binds K d_times ["one", "other"] []
  g_times : mg "times" = some (.ref f_times)
  f_together : Addr
  d_together : FuncData
  F_together : Fun K "together" "together" s_together f_together d_together
  b_together : Binds K d_together ["one", "other"] []
  g_together : mg "together" = some (.ref f_together)
  f_way_between : Addr
  d_way_between : FuncData
  F_way_between : Fun K "way_between" "way_between" s_way_between f_way_between d_way_between
  b_way_between : Binds K d_way_between ["one", "other"] []
  g_way_between : mg "way_between" = some (.ref f_way_between)
  f_stretched : Addr
  d_stretched : FuncData
  F_stretched : Fun K "stretched" "stretched" s_stretched f_stretched d_stretched
  b_stretched : Binds K d_stretched ["way", "by"] []
  g_stretched : mg "stretched" = some (.ref f_stretched)
  f_cell_ray : Addr
  d_cell_ray : FuncData
  F_cell_ray : Fun K "cell_ray" "cell_ray" s_cell_ray f_cell_ray d_cell_ray
  b_cell_ray : Binds K d_cell_ray ["look", "column", "row"] []
  g_cell_ray : mg "cell_ray" = some (.ref f_cell_ray)
  f__law_state : Addr
  d__law_state : FuncData
  F__law_state : Fun K "_law_state" "_law_state" s__law_state f__law_state d__law_state
  b__law_state : Binds K d__law_state ["_law_script"] []
  g__law_state : mg "_law_state" = some (.ref f__law_state)
  f__law_next : Addr
  d__law_next : FuncData
  F__law_next : Fun K "_law_next" "_law_next" s__law_next f__law_next d__law_next
  b__law_next : Binds K d__law_next ["_law_state_here", "_law_below"] []
  g__law_next : mg "_law_next" = some (.ref f__law_next)
  f__law_same : Addr
  d__law_same : FuncData
  F__law_same : Fun K "_law_same" "_law_same" s__law_same f__law_same d__law_same
  b__law_same : Binds K d__law_same ["_law_found", "_law_due_here"] []
  g__law_same : mg "_law_same" = some (.ref f__law_same)
  f__law_f : Addr
  d__law_f : FuncData
  F__law_f : Fun K "_law_f" "_law_f" s__law_f f__law_f d__law_f
  b__law_f : Binds K d__law_f ["_law_above", "_law_below"] []
  g__law_f : mg "_law_f" = some (.ref f__law_f)
  f__law_share : Addr
  d__law_share : FuncData
  F__law_share : Fun K "_law_share" "_law_share" s__law_share f__law_share d__law_share
  b__law_share : Binds K d__law_share ["_law_state_here"] []
  g__law_share : mg "_law_share" = some (.ref f__law_share)
  f__law_look : Addr
  d__law_look : FuncData
  F__law_look : Fun K "_law_look" "_law_look" s__law_look f__law_look d__law_look
  b__law_look : Binds K d__law_look ["_law_state_here"] []
  g__law_look : mg "_law_look" = some (.ref f__law_look)
  f__law_due : Addr
  d__law_due : FuncData
  F__law_due : Fun K "_law_due" "_law_due" s__law_due f__law_due d__law_due
  b__law_due : Binds K d__law_due ["_law_look_here", "_law_column", "_law_row"] []
  g__law_due : mg "_law_due" = some (.ref f__law_due)
  m_abs : mg "abs" = none
  m_all : mg "all" = none
  m_bool : mg "bool" = none
  m_int : mg "int" = none
  m_isinstance : mg "isinstance" = none
  m_len : mg "len" = none
  m_list : mg "list" = none
  m_range : mg "range" = none
  m_str : mg "str" = none
  m_tuple : mg "tuple" = none
  m_zip : mg "zip" = none

section
variable {P : Program} {w : World} {K : PySem.W.Frag} {mg : Str → Option Value} {base : Heap}
theorem okS_frac (T : Tx K mg) : FnOk P w K mg base CX0 1 T.f_frac T.d_frac ["above", "below"] (spP K 2 m_frac) :=
  okP T.F_frac sc_frac (k := 0) fun cdv A outer s H E hr =>
      (sss_cons (ss_par (i := 2) (j := 3) sc_frac.nd rfl rfl (by decide) rfl rfl (sa_cons (se_pv (pv 1)) (sa_cons (se_op or_mod (se_pv (pv 0)) (se_pv (pv 1))) sa_nil)) (by rfl))
      (sss_cons (ss_while PassesOwn.never (st_tru (se_pv (pv 3)) (by intro _; rfl)) (sss_one (ss_par (i := 2) (j := 3) sc_frac.nd rfl rfl (by decide) rfl rfl (sa_cons (se_pv (pv 3)) (sa_cons (se_op or_mod (se_pv (pv 2)) (se_pv (pv 3))) sa_nil)) (by rfl))))
      (sss_one (ss_ret (se_tup (sa_cons (se_op or_fd (se_pv (pv 0)) (se_pv (pv 2))) (sa_cons (se_op or_fd (se_pv (pv 1)) (se_pv (pv 2))) sa_nil)))))))
theorem okS_plus (T : Tx K mg) : FnOk P w K mg base CX0 2 T.f_plus T.d_plus ["one", "other"] (spP K 2 m_plus) :=
  okP T.F_plus sc_plus (k := 1) fun cdv A outer s H E hr =>
      (sss_one (ss_ret (se_callP (n := 2) (lo_frac) (fun _ => (okS_frac T)) (hr.mono (by first | decide | omega)) (by rfl) T.g_frac (fun _ => T.F_frac.kp) (fun _ => T.b_frac) (sa_cons (se_op or_add (se_op or_mul (se_ix xr_ix (se_pv (pv 0)) se_int (fun _ _ => rfl)) (se_ix xr_ix (se_pv (pv 1)) se_int (fun _ _ => rfl))) (se_op or_mul (se_ix xr_ix (se_pv (pv 1)) se_int (fun _ _ => rfl)) (se_ix xr_ix (se_pv (pv 0)) se_int (fun _ _ => rfl)))) (sa_cons (se_op or_mul (se_ix xr_ix (se_pv (pv 0)) se_int (fun _ _ => rfl)) (se_ix xr_ix (se_pv (pv 1)) se_int (fun _ _ => rfl))) sa_nil)))))
theorem okS_minus (T : Tx K mg) : FnOk P w K mg base CX0 2 T.f_minus T.d_minus ["one", "other"] (spP K 2 m_minus) :=
  okP T.F_minus sc_minus (k := 1) fun cdv A outer s H E hr =>
      (sss_one (ss_ret (se_callP (n := 2) (lo_frac) (fun _ => (okS_frac T)) (hr.mono (by first | decide | omega)) (by rfl) T.g_frac (fun _ => T.F_frac.kp) (fun _ => T.b_frac) (sa_cons (se_op or_sub (se_op or_mul (se_ix xr_ix (se_pv (pv 0)) se_int (fun _ _ => rfl)) (se_ix xr_ix (se_pv (pv 1)) se_int (fun _ _ => rfl))) (se_op or_mul (se_ix xr_ix (se_pv (pv 1)) se_int (fun _ _ => rfl)) (se_ix xr_ix (se_pv (pv 0)) se_int (fun _ _ => rfl)))) (sa_cons (se_op or_mul (se_ix xr_ix (se_pv (pv 0)) se_int (fun _ _ => rfl)) (se_ix xr_ix (se_pv (pv 1)) se_int (fun _ _ => rfl))) sa_nil)))))
theorem okS_times (T : Tx K mg) : FnOk P w K mg base CX0 2 T.f_times T.d_times ["one", "other"] (spP K 2 m_times) :=
  okP T.F_times sc_times (k := 1) fun cdv A outer s H E hr =>
      (sss_one (ss_ret (se_callP (n := 2) (lo_frac) (fun _ => (okS_frac T)) (hr.mono (by first | decide | omega)) (by rfl) T.g_frac (fun _ => T.F_frac.kp) (fun _ => T.b_frac) (sa_cons (se_op or_mul (se_ix xr_ix (se_pv (pv 0)) se_int (fun _ _ => rfl)) (se_ix xr_ix (se_pv (pv 1)) se_int (fun _ _ => rfl))) (sa_cons (se_op or_mul (se_ix xr_ix (se_pv (pv 0)) se_int (fun _ _ => rfl)) (se_ix xr_ix (se_pv (pv 1)) se_int (fun _ _ => rfl))) sa_nil)))))
theorem okS_together (T : Tx K mg) : FnOk P w K mg base CX0 3 T.f_together T.d_together ["one", "other"] (spP K 2 m_together) :=
  okP T.F_together sc_together (k := 2) fun cdv A outer s H E hr =>
      (sss_one (ss_ret (se_tup (sa_cons (se_callP (n := 2) (lo_plus) (fun _ => (okS_plus T)) (hr.mono (by first | decide | omega)) (by rfl) T.g_plus (fun _ => T.F_plus.kp) (fun _ => T.b_plus) (sa_cons (se_ix xr_ix (se_pv (pv 0)) se_int (fun _ _ => rfl)) (sa_cons (se_ix xr_ix (se_pv (pv 1)) se_int (fun _ _ => rfl)) sa_nil))) (sa_cons (se_callP (n := 2) (lo_plus) (fun _ => (okS_plus T)) (hr.mono (by first | decide | omega)) (by rfl) T.g_plus (fun _ => T.F_plus.kp) (fun _ => T.b_plus) (sa_cons (se_ix xr_ix (se_pv (pv 0)) se_int (fun _ _ => rfl)) (sa_cons (se_ix xr_ix (se_pv (pv 1)) se_int (fun _ _ => rfl)) sa_nil))) (sa_cons (se_callP (n := 2) (lo_plus) (fun _ => (okS_plus T)) (hr.mono (by first | decide | omega)) (by rfl) T.g_plus (fun _ => T.F_plus.kp) (fun _ => T.b_plus) (sa_cons (se_ix xr_ix (se_pv (pv 0)) se_int (fun _ _ => rfl)) (sa_cons (se_ix xr_ix (se_pv (pv 1)) se_int (fun _ _ => rfl)) sa_nil))) sa_nil))))))
theorem okS_way_between (T : Tx K mg) : FnOk P w K mg base CX0 3 T.f_way_between T.d_way_between ["one", "other"] (spP K 2 m_way_between) :=
  okP T.F_way_between sc_way_between (k := 2) fun cdv A outer s H E hr =>
      (sss_one (ss_ret (se_tup (sa_cons (se_callP (n := 2) (lo_minus) (fun _ => (okS_minus T)) (hr.mono (by first | decide | omega)) (by rfl) T.g_minus (fun _ => T.F_minus.kp) (fun _ => T.b_minus) (sa_cons (se_ix xr_ix (se_pv (pv 1)) se_int (fun _ _ => rfl)) (sa_cons (se_ix xr_ix (se_pv (pv 0)) se_int (fun _ _ => rfl)) sa_nil))) (sa_cons (se_callP (n := 2) (lo_minus) (fun _ => (okS_minus T)) (hr.mono (by first | decide | omega)) (by rfl) T.g_minus (fun _ => T.F_minus.kp) (fun _ => T.b_minus) (sa_cons (se_ix xr_ix (se_pv (pv 1)) se_int (fun _ _ => rfl)) (sa_cons (se_ix xr_ix (se_pv (pv 0)) se_int (fun _ _ => rfl)) sa_nil))) (sa_cons (se_callP (n := 2) (lo_minus) (fun _ => (okS_minus T)) (hr.mono (by first | decide | omega)) (by rfl) T.g_minus (fun _ => T.F_minus.kp) (fun _ => T.b_minus) (sa_cons (se_ix xr_ix (se_pv (pv 1)) se_int (fun _ _ => rfl)) (sa_cons (se_ix xr_ix (se_pv (pv 0)) se_int (fun _ _ => rfl)) sa_nil))) sa_nil))))))
theorem okS_stretched (T : Tx K mg) : FnOk P w K mg base CX0 3 T.f_stretched T.d_stretched ["way", "by"] (spP K 2 m_stretched) :=
  okP T.F_stretched sc_stretched (k := 2) fun cdv A outer s H E hr =>
      (sss_one (ss_ret (se_tup (sa_cons (se_callP (n := 2) (lo_times) (fun _ => (okS_times T)) (hr.mono (by first | decide | omega)) (by rfl) T.g_times (fun _ => T.F_times.kp) (fun _ => T.b_times) (sa_cons (se_ix xr_ix (se_pv (pv 0)) se_int (fun _ _ => rfl)) (sa_cons (se_pv (pv 1)) sa_nil))) (sa_cons (se_callP (n := 2) (lo_times) (fun _ => (okS_times T)) (hr.mono (by first | decide | omega)) (by rfl) T.g_times (fun _ => T.F_times.kp) (fun _ => T.b_times) (sa_cons (se_ix xr_ix (se_pv (pv 0)) se_int (fun _ _ => rfl)) (sa_cons (se_pv (pv 1)) sa_nil))) (sa_cons (se_callP (n := 2) (lo_times) (fun _ => (okS_times T)) (hr.mono (by first | decide | omega)) (by rfl) T.g_times (fun _ => T.F_times.kp) (fun _ => T.b_times) (sa_cons (se_ix xr_ix (se_pv (pv 0)) se_int (fun _ _ => rfl)) (sa_cons (se_pv (pv 1)) sa_nil))) sa_nil))))))
theorem okS_cell_ray (T : Tx K mg) : FnOk P w K mg base CX0 4 T.f_cell_ray T.d_cell_ray ["look", "column", "row"] (spP K 3 m_cell_ray) :=
  okP T.F_cell_ray sc_cell_ray (k := 3) fun cdv A outer s H E hr =>
      (sss_cons (ss_asg (vs := [3, 4, 5, 6, 7, 8]) (se_slice (se_pv (pv 0)) (spo_some se_int) spo_none) (sg_tup (sgs_cons (sg_name (i := 3) (by decide) sc_cell_ray.nd rfl (Or.inl rfl)) (sgs_cons (sg_name (i := 4) (by decide) sc_cell_ray.nd rfl (Or.inl rfl)) (sgs_cons (sg_name (i := 5) (by decide) sc_cell_ray.nd rfl (Or.inl rfl)) (sgs_cons (sg_name (i := 6) (by decide) sc_cell_ray.nd rfl (Or.inl rfl)) (sgs_cons (sg_name (i := 7) (by decide) sc_cell_ray.nd rfl (Or.inl rfl)) (sgs_cons (sg_name (i := 8) (by decide) sc_cell_ray.nd rfl (Or.inl rfl)) sgs_nil))))))))
      (sss_cons (ss_set (i := 9) sc_cell_ray.nd rfl (Or.inl rfl) (se_callP (n := 2) (lo_stretched) (fun _ => (okS_stretched T)) (hr.mono (by first | decide | omega)) (by rfl) T.g_stretched (fun _ => T.F_stretched.kp) (fun _ => T.b_stretched) (sa_cons (se_pv (pv 5)) (sa_cons (se_callP (n := 2) (lo_frac) (fun _ => (okS_frac T)) (hr.mono (by first | decide | omega)) (by rfl) T.g_frac (fun _ => T.F_frac.kp) (fun _ => T.b_frac) (sa_cons (se_op or_add (se_op or_mul se_int (se_pv (pv 1))) se_int) (sa_cons (se_op or_mul se_int (se_pv (pv 7))) sa_nil))) sa_nil))))
      (sss_cons (ss_set (i := 10) sc_cell_ray.nd rfl (Or.inl rfl) (se_callP (n := 2) (lo_stretched) (fun _ => (okS_stretched T)) (hr.mono (by first | decide | omega)) (by rfl) T.g_stretched (fun _ => T.F_stretched.kp) (fun _ => T.b_stretched) (sa_cons (se_pv (pv 6)) (sa_cons (se_callP (n := 2) (lo_frac) (fun _ => (okS_frac T)) (hr.mono (by first | decide | omega)) (by rfl) T.g_frac (fun _ => T.F_frac.kp) (fun _ => T.b_frac) (sa_cons (se_op or_add (se_op or_mul se_int (se_pv (pv 2))) se_int) (sa_cons (se_op or_mul se_int (se_pv (pv 8))) sa_nil))) sa_nil))))
      (sss_one (ss_ret (se_tup (sa_cons (se_pv (pv 3)) (sa_cons (se_callP (n := 2) (lo_way_between) (fun _ => (okS_way_between T)) (hr.mono (by first | decide | omega)) (by rfl) T.g_way_between (fun _ => T.F_way_between.kp) (fun _ => T.b_way_between) (sa_cons (se_pv (pv 3)) (sa_cons (se_callP (n := 2) (lo_together) (fun _ => (okS_together T)) (hr.mono (by first | decide | omega)) (by rfl) T.g_together (fun _ => T.F_together.kp) (fun _ => T.b_together) (sa_cons (se_pv (pv 4)) (sa_cons (se_callP (n := 2) (lo_together) (fun _ => (okS_together T)) (hr.mono (by first | decide | omega)) (by rfl) T.g_together (fun _ => T.F_together.kp) (fun _ => T.b_together) (sa_cons (se_pv (pv 9)) (sa_cons (se_pv (pv 10)) sa_nil))) sa_nil))) sa_nil))) sa_nil))))))))
theorem okS__law_state (T : Tx K mg) : FnOk P w K mg base CX0 1 T.f__law_state T.d__law_state ["_law_script"] (spM K 1 m__law_state) :=
  okM T.F__law_state sc__law_state (k := 0) fun cdv A outer s H E hr =>
      (sss_cons (ss_set (i := 1) sc__law_state.nd rfl (Or.inl rfl) (se_callTy cr_list' (by rfl) T.m_list (by decide +kernel) (sa_cons (se_slice (se_pv (pv 0)) spo_none (spo_some se_int)) sa_nil)))
      (sss_cons (ss_if (st_cmp (or_eq hr.units) (se_pv (pv 1)) (se_lst sa_nil) (nomark _)) (sss_one (ss_set (i := 1) sc__law_state.nd rfl (Or.inl rfl) (se_lst (sa_cons se_int sa_nil)))) sss_nil)
      (sss_one (ss_ret (se_lst (sa_cons (se_pv (pv 1)) (sa_cons se_int (sa_cons se_int (sa_cons se_int sa_nil)))))))))
theorem okS__law_next (T : Tx K mg) : FnOk P w K mg base CX0 1 T.f__law_next T.d__law_next ["_law_state_here", "_law_below"] (spM K 2 m__law_next) :=
  okM T.F__law_next sc__law_next (k := 0) fun cdv A outer s H E hr =>
      (sss_cons (ss_if (st_cmp or_gt (se_ix xr_ix (se_pv (pv 0)) se_int (fun _ _ => rfl)) se_int (nomark _)) (sss_cons (ss_set (i := 2) sc__law_next.nd rfl (Or.inl rfl) (se_op or_mod (se_ix xr_ix (se_pv (pv 0)) se_int (fun _ _ => rfl)) (se_pv (pv 1))))
      (sss_cons (ss_sub (se_op or_fd (se_ix xr_ix (se_pv (pv 0)) se_int (fun _ _ => rfl)) (se_pv (pv 1))) (se_pv (pv 0)) se_int)
      (sss_one (ss_ret (se_pv (pv 2)))))) sss_nil)
      (sss_cons (ss_set (i := 3) sc__law_next.nd rfl (Or.inl rfl) (se_ix xr_ix (se_pv (pv 0)) se_int (fun _ _ => rfl)))
      (sss_cons (ss_set (i := 4) sc__law_next.nd rfl (Or.inl rfl) (se_ix xr_ix (se_pv (pv 3)) (se_op or_mod (se_ix xr_ix (se_pv (pv 0)) se_int (fun _ _ => rfl)) (se_callB cr_len' (by rfl) T.m_len (by decide +kernel) (sa_cons (se_pv (pv 3)) sa_nil))) (fun _ _ => rfl)))
      (sss_cons (ss_sub (se_op or_add (se_ix xr_ix (se_pv (pv 0)) se_int (fun _ _ => rfl)) se_int) (se_pv (pv 0)) se_int)
      (sss_cons (ss_if (sw_pt (sw_and (st_cmp or_ge (se_pv (pv 4)) (se_op or_pow se_int se_int) (nomark _)) (sw_and1 (st_cmp or_le (se_ix xr_ix (se_pv (pv 0)) se_int (fun _ _ => rfl)) (se_callB cr_len' (by rfl) T.m_len (by decide +kernel) (sa_cons (se_pv (pv 3)) sa_nil)) (nomark _))))) (sss_cons (ss_sub (se_op or_fd (se_pv (pv 4)) (se_pv (pv 1))) (se_pv (pv 0)) se_int)
      (sss_one (ss_ret (se_op or_mod (se_pv (pv 4)) (se_pv (pv 1)))))) sss_nil)
      (sss_cons (ss_set (i := 5) sc__law_next.nd rfl (Or.inl rfl) (se_op or_add (se_op or_add (se_op or_mul (se_ix xr_ix (se_pv (pv 0)) se_int (fun _ _ => rfl)) se_int) (se_op or_mod (se_pv (pv 4)) se_int)) (se_ix xr_ix (se_pv (pv 0)) se_int (fun _ _ => rfl))))
      (sss_cons (ss_sub (se_op or_mod (se_pv (pv 5)) se_int) (se_pv (pv 0)) se_int)
      (sss_one (ss_ret (se_op or_mod (se_op or_fd (se_op or_mod (se_op or_mul (se_ix xr_ix (se_pv (pv 0)) se_int (fun _ _ => rfl)) (se_ix xr_ix (se_pv (pv 0)) se_int (fun _ _ => rfl))) se_int) se_int) (se_pv (pv 1))))))))))))
theorem okS__law_same (T : Tx K mg) : ∀ n : Nat, FnOk P w K mg base CX0 (1 + n) T.f__law_same T.d__law_same ["_law_found", "_law_due_here"] (spP K 2 (m__law_same n))
  | 0 => ok0P
  | n + 1 => by
    have ih := okS__law_same T n
    exact okP T.F__law_same sc__law_same (k := 1 + n) fun cdv A outer s H E hr =>
      (sss_cons (ss_if (st_tru (se_isTL (by rfl) T.m_isinstance (by rfl) T.m_tuple (by rfl) T.m_list (se_pv (pv 1))) (by intro _; rfl)) (sss_cons (ss_if (sw_pt (sw_or (st_cmp (or_ne hr.units) (se_callB cr_isi' (by rfl) T.m_isinstance (by decide +kernel) (sa_cons (se_pv (pv 0)) (sa_cons (se_bltn (T := "tuple") (by rfl) T.m_tuple (by decide +kernel)) sa_nil))) (se_callB cr_isi' (by rfl) T.m_isinstance (by decide +kernel) (sa_cons (se_pv (pv 1)) (sa_cons (se_bltn (T := "tuple") (by rfl) T.m_tuple (by decide +kernel)) sa_nil))) (nomark _)) (sw_or1 (st_cmp (or_ne hr.units) (se_callB cr_isi' (by rfl) T.m_isinstance (by decide +kernel) (sa_cons (se_pv (pv 0)) (sa_cons (se_bltn (T := "list") (by rfl) T.m_list (by decide +kernel)) sa_nil))) (se_callB cr_isi' (by rfl) T.m_isinstance (by decide +kernel) (sa_cons (se_pv (pv 1)) (sa_cons (se_bltn (T := "list") (by rfl) T.m_list (by decide +kernel)) sa_nil))) (nomark _))))) (sss_one (ss_ret se_bl)) sss_nil)
      (sss_cons (ss_if (st_cmp (or_ne hr.units) (se_callB cr_len' (by rfl) T.m_len (by decide +kernel) (sa_cons (se_pv (pv 0)) sa_nil)) (se_callB cr_len' (by rfl) T.m_len (by decide +kernel) (sa_cons (se_pv (pv 1)) sa_nil)) (nomark _)) (sss_one (ss_ret se_bl)) sss_nil)
      (sss_one (ss_ret (se_callB cr_all' (by rfl) T.m_all (by decide +kernel) (sa_cons (se_lc (own := [("_law_one", 2), ("_law_other", 3)]) sc__law_same.nd (si_zip (by rfl) T.m_zip (se_pv (pv 0)) (se_pv (pv 1))) (blkOk_by (own := [("_law_one", 2), ("_law_other", 3)]) (N := nm__law_same) (sc := defScope s__law_same) (by decide +kernel)) (fun _ _ _ _ _ => (sg_tup (sgs_cons (sg_name (i := 2) (by decide) sc__law_same.nd rfl (Or.inl rfl)) (sgs_cons (sg_name (i := 3) (by decide) sc__law_same.nd rfl (Or.inl rfl)) sgs_nil)))) (fun _ _ _ _ _ => sts_nil) (fun _ _ _ _ _ => (se_callP (n := 2) (lo__law_same n) (fun _ => ih) (hr.mono (by first | decide | omega)) (by rfl) T.g__law_same (fun _ => T.F__law_same.kp) (fun _ => T.b__law_same) (sa_cons (se_pv (pv 2)) (sa_cons (se_pv (pv 3)) sa_nil))))) sa_nil)))))) sss_nil)
      (sss_cons (ss_if (st_cmp or_isN (se_pv (pv 1)) se_non (nomark _)) (sss_one (ss_ret (se_cmp or_isN (se_pv (pv 0)) se_non (nomark _)))) sss_nil)
      (sss_cons (ss_if (st_tru (se_callB cr_isi' (by rfl) T.m_isinstance (by decide +kernel) (sa_cons (se_pv (pv 1)) (sa_cons (se_bltn (T := "str") (by rfl) T.m_str (by decide +kernel)) sa_nil))) (by intro _; rfl)) (sss_one (ss_ret (se_and (se_callB cr_isi' (by rfl) T.m_isinstance (by decide +kernel) (sa_cons (se_pv (pv 0)) (sa_cons (se_bltn (T := "str") (by rfl) T.m_str (by decide +kernel)) sa_nil))) (se_one (se_cmp (or_eq hr.units) (se_pv (pv 0)) (se_pv (pv 1)) (nomark _)))))) sss_nil)
      (sss_one (ss_ret (se_and (se_callB cr_isi' (by rfl) T.m_isinstance (by decide +kernel) (sa_cons (se_pv (pv 0)) (sa_cons (se_bltn (T := "int") (by rfl) T.m_int (by decide +kernel)) sa_nil))) (se_and (se_cmp (or_eq hr.units) (se_callB cr_isi' (by rfl) T.m_isinstance (by decide +kernel) (sa_cons (se_pv (pv 0)) (sa_cons (se_bltn (T := "bool") (by rfl) T.m_bool (by decide +kernel)) sa_nil))) (se_callB cr_isi' (by rfl) T.m_isinstance (by decide +kernel) (sa_cons (se_pv (pv 1)) (sa_cons (se_bltn (T := "bool") (by rfl) T.m_bool (by decide +kernel)) sa_nil))) (nomark _)) (se_one (se_cmp (or_eq hr.units) (se_pv (pv 0)) (se_pv (pv 1)) (nomark _))))))))))
theorem okS__law_f (T : Tx K mg) : FnOk P w K mg base CX0 1 T.f__law_f T.d__law_f ["_law_above", "_law_below"] (spP K 2 m__law_f) :=
  okP T.F__law_f sc__law_f (k := 0) fun cdv A outer s H E hr =>
      (sss_cons (ss_par (i := 2) (j := 3) sc__law_f.nd rfl rfl (by decide) rfl rfl (sa_cons (se_callB cr_abs' (by rfl) T.m_abs (by decide +kernel) (sa_cons (se_pv (pv 0)) sa_nil)) (sa_cons (se_pv (pv 1)) sa_nil)) (by rfl))
      (sss_cons (ss_while PassesOwn.never (st_cmp or_gt (se_pv (pv 3)) se_int (nomark _)) (sss_one (ss_par (i := 2) (j := 3) sc__law_f.nd rfl rfl (by decide) rfl rfl (sa_cons (se_pv (pv 3)) (sa_cons (se_op or_mod (se_pv (pv 2)) (se_pv (pv 3))) sa_nil)) (by rfl))))
      (sss_one (ss_ret (se_tup (sa_cons (se_op or_fd (se_pv (pv 0)) (se_pv (pv 2))) (sa_cons (se_op or_fd (se_pv (pv 1)) (se_pv (pv 2))) sa_nil)))))))
theorem okS__law_share (T : Tx K mg) : FnOk P w K mg base CX0 2 T.f__law_share T.d__law_share ["_law_state_here"] (spM K 1 m__law_share) :=
  okM T.F__law_share sc__law_share (k := 1) fun cdv A outer s H E hr =>
      (sss_cons (ss_set (i := 1) sc__law_share.nd rfl (Or.inl rfl) (se_callM (n := 2) (ln__law_next) (fun _ => (okS__law_next T)) (hr.mono (by first | decide | omega)) (by rfl) T.g__law_next (fun _ => T.F__law_next.kp) (fun _ => T.b__law_next) (sa_cons (se_pv (pv 0)) (sa_cons se_int sa_nil))))
      (sss_cons (ss_if (st_cmp or_lt (se_pv (pv 1)) se_int (nomark _)) (sss_one (ss_ret (se_tup (sa_cons (se_op or_sub (se_callM (n := 2) (ln__law_next) (fun _ => (okS__law_next T)) (hr.mono (by first | decide | omega)) (by rfl) T.g__law_next (fun _ => T.F__law_next.kp) (fun _ => T.b__law_next) (sa_cons (se_pv (pv 0)) (sa_cons se_int sa_nil))) se_int) (sa_cons se_int sa_nil))))) sss_nil)
      (sss_cons (ss_if (st_cmp (or_eq hr.units) (se_pv (pv 1)) se_int (nomark _)) (sss_one (ss_ret (se_callP (n := 2) (lo__law_f) (fun _ => (okS__law_f T)) (hr.mono (by first | decide | omega)) (by rfl) T.g__law_f (fun _ => T.F__law_f.kp) (fun _ => T.b__law_f) (sa_cons (se_op or_sub (se_callM (n := 2) (ln__law_next) (fun _ => (okS__law_next T)) (hr.mono (by first | decide | omega)) (by rfl) T.g__law_next (fun _ => T.F__law_next.kp) (fun _ => T.b__law_next) (sa_cons (se_pv (pv 0)) (sa_cons se_int sa_nil))) se_int) (sa_cons (se_op or_add se_int (se_callM (n := 2) (ln__law_next) (fun _ => (okS__law_next T)) (hr.mono (by first | decide | omega)) (by rfl) T.g__law_next (fun _ => T.F__law_next.kp) (fun _ => T.b__law_next) (sa_cons (se_pv (pv 0)) (sa_cons se_int sa_nil)))) sa_nil))))) sss_nil)
      (sss_one (ss_ret (se_callP (n := 2) (lo__law_f) (fun _ => (okS__law_f T)) (hr.mono (by first | decide | omega)) (by rfl) T.g__law_f (fun _ => T.F__law_f.kp) (fun _ => T.b__law_f) (sa_cons (se_op or_sub (se_callM (n := 2) (ln__law_next) (fun _ => (okS__law_next T)) (hr.mono (by first | decide | omega)) (by rfl) T.g__law_next (fun _ => T.F__law_next.kp) (fun _ => T.b__law_next) (sa_cons (se_pv (pv 0)) (sa_cons se_int sa_nil))) se_int) (sa_cons (se_op or_add se_int (se_callM (n := 2) (ln__law_next) (fun _ => (okS__law_next T)) (hr.mono (by first | decide | omega)) (by rfl) T.g__law_next (fun _ => T.F__law_next.kp) (fun _ => T.b__law_next) (sa_cons (se_pv (pv 0)) (sa_cons se_int sa_nil)))) sa_nil))))))))
theorem okS__law_look (T : Tx K mg) : FnOk P w K mg base CX0 3 T.f__law_look T.d__law_look ["_law_state_here"] (spM K 1 m__law_look) :=
  okG T.F__law_look sc__law_look (k := 2) fun cdv A outer s H E hr =>
      (sss_cons (ss_setLc (i := 1) (own := [("_law_k", 7)]) sc__law_look.nd rfl rfl (sw_true rfl rfl rfl (by decide +kernel)) (si_range1 (by rfl) T.m_range se_int) (blkOk_by (own := [("_law_k", 7)]) (N := nm__law_look) (sc := defScope s__law_look) (by decide +kernel)) (fun _ _ _ _ _ => (sg_name (i := 7) (by decide) sc__law_look.nd rfl (Or.inl rfl))) (fun _ _ _ _ _ => sts_nil) (fun _ _ _ _ _ => (se_callM (n := 1) (ln__law_share) (fun _ => (okS__law_share T)) (hr.mono (by first | decide | omega)) (by rfl) T.g__law_share (fun _ => T.F__law_share.kp) (fun _ => T.b__law_share) (sa_cons (se_pv (pv 0)) sa_nil))))
      (sss_cons (ss_set (i := 2) sc__law_look.nd rfl (Or.inl rfl) (se_lst (sa_cons (se_ix xr_ix (se_pv (pv 1)) se_int (fun _ _ => rfl)) (sa_cons (se_ix xr_ix (se_pv (pv 1)) se_int (fun _ _ => rfl)) (sa_cons (se_callP (n := 2) (lo__law_f) (fun _ => (okS__law_f T)) (hr.mono (by first | decide | omega)) (by rfl) T.g__law_f (fun _ => T.F__law_f.kp) (fun _ => T.b__law_f) (sa_cons (se_op or_add (se_ix xr_ix (se_ix xr_ix (se_pv (pv 1)) se_int (fun _ _ => rfl)) se_int (fun _ _ => rfl)) (se_ix xr_ix (se_ix xr_ix (se_pv (pv 1)) se_int (fun _ _ => rfl)) se_int (fun _ _ => rfl))) (sa_cons (se_ix xr_ix (se_ix xr_ix (se_pv (pv 1)) se_int (fun _ _ => rfl)) se_int (fun _ _ => rfl)) sa_nil))) sa_nil)))))
      (sss_cons (ss_par (i := 3) (j := 4) sc__law_look.nd rfl rfl (by decide) rfl rfl (sa_cons (se_op or_add se_int (se_callM (n := 2) (ln__law_next) (fun _ => (okS__law_next T)) (hr.mono (by first | decide | omega)) (by rfl) T.g__law_next (fun _ => T.F__law_next.kp) (fun _ => T.b__law_next) (sa_cons (se_pv (pv 0)) (sa_cons se_int sa_nil)))) (sa_cons (se_op or_add se_int (se_callM (n := 2) (ln__law_next) (fun _ => (okS__law_next T)) (hr.mono (by first | decide | omega)) (by rfl) T.g__law_next (fun _ => T.F__law_next.kp) (fun _ => T.b__law_next) (sa_cons (se_pv (pv 0)) (sa_cons se_int sa_nil)))) sa_nil)) (by rfl))
      (sss_cons (ss_set (i := 5) sc__law_look.nd rfl (Or.inl rfl) (se_tup (sa_cons (se_callP (n := 2) (lo__law_f) (fun _ => (okS__law_f T)) (hr.mono (by first | decide | omega)) (by rfl) T.g__law_f (fun _ => T.F__law_f.kp) (fun _ => T.b__law_f) (sa_cons (se_op or_add se_int (se_callM (n := 2) (ln__law_next) (fun _ => (okS__law_next T)) (hr.mono (by first | decide | omega)) (by rfl) T.g__law_next (fun _ => T.F__law_next.kp) (fun _ => T.b__law_next) (sa_cons (se_pv (pv 0)) (sa_cons se_int sa_nil)))) (sa_cons (se_op or_add se_int (se_callM (n := 2) (ln__law_next) (fun _ => (okS__law_next T)) (hr.mono (by first | decide | omega)) (by rfl) T.g__law_next (fun _ => T.F__law_next.kp) (fun _ => T.b__law_next) (sa_cons (se_pv (pv 0)) (sa_cons se_int sa_nil)))) sa_nil))) (sa_cons (se_callM (n := 1) (ln__law_share) (fun _ => (okS__law_share T)) (hr.mono (by first | decide | omega)) (by rfl) T.g__law_share (fun _ => T.F__law_share.kp) (fun _ => T.b__law_share) (sa_cons (se_pv (pv 0)) sa_nil)) (sa_cons (se_tup (sa_cons se_int (sa_cons se_int sa_nil))) sa_nil)))))
      (sss_cons (ss_set (i := 6) sc__law_look.nd rfl (Or.inl rfl) (se_tup (sa_cons (se_tup (sa_cons se_int (sa_cons se_int sa_nil))) (sa_cons (se_callP (n := 2) (lo__law_f) (fun _ => (okS__law_f T)) (hr.mono (by first | decide | omega)) (by rfl) T.g__law_f (fun _ => T.F__law_f.kp) (fun _ => T.b__law_f) (sa_cons (se_op or_add se_int (se_callM (n := 2) (ln__law_next) (fun _ => (okS__law_next T)) (hr.mono (by first | decide | omega)) (by rfl) T.g__law_next (fun _ => T.F__law_next.kp) (fun _ => T.b__law_next) (sa_cons (se_pv (pv 0)) (sa_cons se_int sa_nil)))) (sa_cons (se_op or_add se_int (se_callM (n := 2) (ln__law_next) (fun _ => (okS__law_next T)) (hr.mono (by first | decide | omega)) (by rfl) T.g__law_next (fun _ => T.F__law_next.kp) (fun _ => T.b__law_next) (sa_cons (se_pv (pv 0)) (sa_cons se_int sa_nil)))) sa_nil))) (sa_cons (se_tup (sa_cons se_int (sa_cons se_int sa_nil))) sa_nil)))))
      (sss_one (ss_ret (se_tup (sa_cons se_str (sa_cons (se_callTy cr_tuple' (by rfl) T.m_tuple (by decide +kernel) (sa_cons (se_pv (pv 1)) sa_nil)) (sa_cons (se_callTy cr_tuple' (by rfl) T.m_tuple (by decide +kernel) (sa_cons (se_pv (pv 2)) sa_nil)) (sa_cons (se_pv (pv 5)) (sa_cons (se_pv (pv 6)) (sa_cons (se_pv (pv 3)) (sa_cons (se_pv (pv 4)) sa_nil)))))))))))))))
theorem okS__law_due (T : Tx K mg) : FnOk P w K mg base CX0 2 T.f__law_due T.d__law_due ["_law_look_here", "_law_column", "_law_row"] (spP K 3 m__law_due) :=
  okP T.F__law_due sc__law_due (k := 1) fun cdv A outer s H E hr =>
      (sss_cons (ss_asg (vs := [3, 4, 5, 6, 7, 8, 9]) (se_pv (pv 0)) (sg_tup (sgs_cons (sg_name (i := 3) (by decide) sc__law_due.nd rfl (Or.inl rfl)) (sgs_cons (sg_name (i := 4) (by decide) sc__law_due.nd rfl (Or.inl rfl)) (sgs_cons (sg_name (i := 5) (by decide) sc__law_due.nd rfl (Or.inl rfl)) (sgs_cons (sg_name (i := 6) (by decide) sc__law_due.nd rfl (Or.inl rfl)) (sgs_cons (sg_name (i := 7) (by decide) sc__law_due.nd rfl (Or.inl rfl)) (sgs_cons (sg_name (i := 8) (by decide) sc__law_due.nd rfl (Or.inl rfl)) (sgs_cons (sg_name (i := 9) (by decide) sc__law_due.nd rfl (Or.inl rfl)) sgs_nil)))))))))
      (sss_cons (ss_set (i := 10) sc__law_due.nd rfl (Or.inl rfl) (se_lst sa_nil))
      (sss_cons (ss_for (vs := [11]) PassesOwn.never (si_range1 (by rfl) T.m_range se_int) (sg_name (i := 11) (by decide) sc__law_due.nd rfl (Or.inl rfl)) (sss_cons (ss_par (i := 12) (j := 13) sc__law_due.nd rfl rfl (by decide) rfl rfl (sa_cons (se_ix xr_ix (se_pv (pv 6)) (se_pv (pv 11)) (fun _ _ => rfl)) (sa_cons (se_ix xr_ix (se_pv (pv 7)) (se_pv (pv 11)) (fun _ _ => rfl)) sa_nil)) (by rfl))
      (sss_cons (ss_set (i := 14) sc__law_due.nd rfl (Or.inl rfl) (se_op or_add (se_op or_mul (se_op or_mul (se_op or_mul (se_op or_mul (se_op or_add (se_op or_mul se_int (se_pv (pv 1))) se_int) (se_ix xr_ix (se_pv (pv 12)) se_int (fun _ _ => rfl))) se_int) (se_pv (pv 9))) (se_ix xr_ix (se_pv (pv 13)) se_int (fun _ _ => rfl))) (se_op or_mul (se_op or_mul (se_op or_mul (se_op or_mul (se_op or_add (se_op or_mul se_int (se_pv (pv 2))) se_int) (se_ix xr_ix (se_pv (pv 13)) se_int (fun _ _ => rfl))) se_int) (se_pv (pv 8))) (se_ix xr_ix (se_pv (pv 12)) se_int (fun _ _ => rfl)))))
      (sss_cons (ss_set (i := 15) sc__law_due.nd rfl (Or.inl rfl) (se_op or_mul (se_op or_mul (se_op or_mul (se_op or_mul se_int (se_pv (pv 8))) (se_pv (pv 9))) (se_ix xr_ix (se_pv (pv 12)) se_int (fun _ _ => rfl))) (se_ix xr_ix (se_pv (pv 13)) se_int (fun _ _ => rfl))))
      (sss_cons (ss_set (i := 16) sc__law_due.nd rfl (Or.inl rfl) (se_tup (sa_cons (se_op or_sub (se_op or_mul (se_ix xr_ix (se_ix xr_ix (se_pv (pv 5)) (se_pv (pv 11)) (fun _ _ => rfl)) se_int (fun _ _ => rfl)) (se_ix xr_ix (se_ix xr_ix (se_pv (pv 4)) (se_pv (pv 11)) (fun _ _ => rfl)) se_int (fun _ _ => rfl))) (se_op or_mul (se_ix xr_ix (se_ix xr_ix (se_pv (pv 4)) (se_pv (pv 11)) (fun _ _ => rfl)) se_int (fun _ _ => rfl)) (se_ix xr_ix (se_ix xr_ix (se_pv (pv 5)) (se_pv (pv 11)) (fun _ _ => rfl)) se_int (fun _ _ => rfl)))) (sa_cons (se_op or_mul (se_ix xr_ix (se_ix xr_ix (se_pv (pv 5)) (se_pv (pv 11)) (fun _ _ => rfl)) se_int (fun _ _ => rfl)) (se_ix xr_ix (se_ix xr_ix (se_pv (pv 4)) (se_pv (pv 11)) (fun _ _ => rfl)) se_int (fun _ _ => rfl))) sa_nil))))
      (sss_one (ss_expr (se_app (se_pv (pv 10)) (sa_cons (se_callP (n := 2) (lo__law_f) (fun _ => (okS__law_f T)) (hr.mono (by first | decide | omega)) (by rfl) T.g__law_f (fun _ => T.F__law_f.kp) (fun _ => T.b__law_f) (sa_cons (se_op or_add (se_op or_mul (se_pv (pv 14)) (se_ix xr_ix (se_pv (pv 16)) se_int (fun _ _ => rfl))) (se_op or_mul (se_ix xr_ix (se_pv (pv 16)) se_int (fun _ _ => rfl)) (se_pv (pv 15)))) (sa_cons (se_op or_mul (se_pv (pv 15)) (se_ix xr_ix (se_pv (pv 16)) se_int (fun _ _ => rfl))) sa_nil))) sa_nil)))))))))
      (sss_one (ss_ret (se_tup (sa_cons (se_pv (pv 4)) (sa_cons (se_callTy cr_tuple' (by rfl) T.m_tuple (by decide +kernel) (sa_cons (se_pv (pv 10)) sa_nil)) sa_nil))))))))
end

def sp_law (K : PySem.W.Frag) : Sp := fun vs H Q _ => ∃ (a : Addr) (ns : List Int), vs = [.ref a] ∧ Only H ∧ SqL K H a (ns.map V.int) ∧ ns.length ≤ 63 ∧ ∀ H', Q (.bl true) H'
theorem ok_law {P : Program} {w : World} {K : PySem.W.Frag} {mg : Str → Option Value} {base : Heap} {f : Addr} {fd : FuncData} (F : Fun K "law" "law" s_law f fd) (T : Tx K mg) : FnOk P w K mg base CX0 14 f fd ["_law_script"] (sp_law K) :=
  (okM F sc_law (k := 13) fun cdv A outer s H E hr =>
      (sss_cons (ss_set (i := 1) sc_law.nd rfl (Or.inl rfl) (se_callM (n := 1) (ln__law_state) (fun _ => (okS__law_state T)) (hr.mono (by first | decide | omega)) (by rfl) T.g__law_state (fun _ => T.F__law_state.kp) (fun _ => T.b__law_state) (sa_cons (se_pv (pv 0)) sa_nil)))
      (sss_cons (ss_for (vs := [2]) PassesOwn.never (si_range1 (by rfl) T.m_range se_int) (sg_name (i := 2) (by decide) sc_law.nd rfl (Or.inl rfl)) (sss_cons (ss_set (i := 3) sc_law.nd rfl (Or.inl rfl) (se_callM (n := 1) (ln__law_look) (fun _ => (okS__law_look T)) (hr.mono (by first | decide | omega)) (by rfl) T.g__law_look (fun _ => T.F__law_look.kp) (fun _ => T.b__law_look) (sa_cons (se_pv (pv 1)) sa_nil)))
      (sss_cons (ss_set (i := 4) sc_law.nd rfl (Or.inl rfl) (se_lst (sa_cons (se_tup (sa_cons se_int (sa_cons se_int sa_nil))) (sa_cons (se_tup (sa_cons (se_op or_sub (se_ix xr_ix (se_pv (pv 3)) se_int (fun _ _ => rfl)) se_int) (sa_cons (se_op or_sub (se_ix xr_ix (se_pv (pv 3)) se_int (fun _ _ => rfl)) se_int) sa_nil))) (sa_cons (se_tup (sa_cons (se_op or_sub (se_ix xr_ix (se_pv (pv 3)) se_int (fun _ _ => rfl)) se_int) (sa_cons se_int sa_nil))) sa_nil)))))
      (sss_cons (ss_for (vs := [5]) PassesOwn.never (si_range1 (by rfl) T.m_range se_int) (sg_name (i := 5) (by decide) sc_law.nd rfl (Or.inl rfl)) (sss_one (ss_expr (se_app (se_pv (pv 4)) (sa_cons (se_tup (sa_cons (se_callM (n := 2) (ln__law_next) (fun _ => (okS__law_next T)) (hr.mono (by first | decide | omega)) (by rfl) T.g__law_next (fun _ => T.F__law_next.kp) (fun _ => T.b__law_next) (sa_cons (se_pv (pv 1)) (sa_cons (se_ix xr_ix (se_pv (pv 3)) se_int (fun _ _ => rfl)) sa_nil))) (sa_cons (se_callM (n := 2) (ln__law_next) (fun _ => (okS__law_next T)) (hr.mono (by first | decide | omega)) (by rfl) T.g__law_next (fun _ => T.F__law_next.kp) (fun _ => T.b__law_next) (sa_cons (se_pv (pv 1)) (sa_cons (se_ix xr_ix (se_pv (pv 3)) se_int (fun _ _ => rfl)) sa_nil))) sa_nil))) sa_nil)))))
      (sss_one (ss_for (vs := [6, 7]) PassesOwn.never (si_e (se_pv (pv 4))) (sg_tup (sgs_cons (sg_name (i := 6) (by decide) sc_law.nd rfl (Or.inl rfl)) (sgs_cons (sg_name (i := 7) (by decide) sc_law.nd rfl (Or.inl rfl)) sgs_nil))) (sss_one (ss_if (st_not (st_tru (se_callP (n := 2) (lo__law_same 12) (fun _ => (okS__law_same T 12)) (hr.mono (by first | decide | omega)) (by rfl) T.g__law_same (fun _ => T.F__law_same.kp) (fun _ => T.b__law_same) (sa_cons (se_callP (n := 3) (lo_cell_ray) (fun _ => (okS_cell_ray T)) (hr.mono (by first | decide | omega)) (by rfl) T.g_cell_ray (fun _ => T.F_cell_ray.kp) (fun _ => T.b_cell_ray) (sa_cons (se_pv (pv 3)) (sa_cons (se_pv (pv 6)) (sa_cons (se_pv (pv 7)) sa_nil)))) (sa_cons (se_callP (n := 3) (lo__law_due) (fun _ => (okS__law_due T)) (hr.mono (by first | decide | omega)) (by rfl) T.g__law_due (fun _ => T.F__law_due.kp) (fun _ => T.b__law_due) (sa_cons (se_pv (pv 3)) (sa_cons (se_pv (pv 6)) (sa_cons (se_pv (pv 7)) sa_nil)))) sa_nil))) (by intro _; rfl))) (sss_one (ss_ret se_bl)) sss_nil))))))))
      (sss_one (ss_ret se_bl))))).imp fun vs H Q E h => law_sp (law_true) h

theorem all_mk {l : PySem.W.OpenLaw} {w : World} {K : PySem.W.Frag} {h : Heap} {mg : Str → Option Value} {fa : Addr} (X : K.In h) (G : h.Ns mainGlobals mg) (hfa : mg "law" = some (.ref fa))
    {f0 : Addr} {od0 an0 : Option Addr} {sl0 : Array (Option Value)} {oc0 kV0 dc0 pm0 cd0 ct0 : Value}
    (a0 : PySem.W.nsIn K mainGlobals "frac" = some (some (.ref f0))) (l0 : K.lookup f0 = some ⟨oc0, od0, .func (PySem.W.fnOf "frac" "frac" (defArgs s_frac) (defBody s_frac) (defScope s_frac) .none kV0 dc0 pm0 an0 cd0 ct0), sl0⟩) (c0 : PySem.W.codeIn K cd0 "frac" = true) (k0 : PySem.W.keepIn K (.ref f0) = true)
    {f1 : Addr} {od1 an1 : Option Addr} {sl1 : Array (Option Value)} {oc1 kV1 dc1 pm1 cd1 ct1 : Value}
    (a1 : PySem.W.nsIn K mainGlobals "plus" = some (some (.ref f1))) (l1 : K.lookup f1 = some ⟨oc1, od1, .func (PySem.W.fnOf "plus" "plus" (defArgs s_plus) (defBody s_plus) (defScope s_plus) .none kV1 dc1 pm1 an1 cd1 ct1), sl1⟩) (c1 : PySem.W.codeIn K cd1 "plus" = true) (k1 : PySem.W.keepIn K (.ref f1) = true)
    {f2 : Addr} {od2 an2 : Option Addr} {sl2 : Array (Option Value)} {oc2 kV2 dc2 pm2 cd2 ct2 : Value}
    (a2 : PySem.W.nsIn K mainGlobals "minus" = some (some (.ref f2))) (l2 : K.lookup f2 = some ⟨oc2, od2, .func (PySem.W.fnOf "minus" "minus" (defArgs s_minus) (defBody s_minus) (defScope s_minus) .none kV2 dc2 pm2 an2 cd2 ct2), sl2⟩) (c2 : PySem.W.codeIn K cd2 "minus" = true) (k2 : PySem.W.keepIn K (.ref f2) = true)
    {f3 : Addr} {od3 an3 : Option Addr} {sl3 : Array (Option Value)} {oc3 kV3 dc3 pm3 cd3 ct3 : Value}
    (a3 : PySem.W.nsIn K mainGlobals "times" = some (some (.ref f3))) (l3 : K.lookup f3 = some ⟨oc3, od3, .func (PySem.W.fnOf "times" "times" (defArgs s_times) (defBody s_times) (defScope s_times) .none kV3 dc3 pm3 an3 cd3 ct3), sl3⟩) (c3 : PySem.W.codeIn K cd3 "times" = true) (k3 : PySem.W.keepIn K (.ref f3) = true)
    {f4 : Addr} {od4 an4 : Option Addr} {sl4 : Array (Option Value)} {oc4 kV4 dc4 pm4 cd4 ct4 : Value}
    (a4 : PySem.W.nsIn K mainGlobals "together" = some (some (.ref f4))) (l4 : K.lookup f4 = some ⟨oc4, od4, .func (PySem.W.fnOf "together" "together" (defArgs s_together) (defBody s_together) (defScope s_together) .none kV4 dc4 pm4 an4 cd4 ct4), sl4⟩) (c4 : PySem.W.codeIn K cd4 "together" = true) (k4 : PySem.W.keepIn K (.ref f4) = true)
    {f5 : Addr} {od5 an5 : Option Addr} {sl5 : Array (Option Value)} {oc5 kV5 dc5 pm5 cd5 ct5 : Value}
    (a5 : PySem.W.nsIn K mainGlobals "way_between" = some (some (.ref f5))) (l5 : K.lookup f5 = some ⟨oc5, od5, .func (PySem.W.fnOf "way_between" "way_between" (defArgs s_way_between) (defBody s_way_between) (defScope s_way_between) .none kV5 dc5 pm5 an5 cd5 ct5), sl5⟩) (c5 : PySem.W.codeIn K cd5 "way_between" = true) (k5 : PySem.W.keepIn K (.ref f5) = true)
    {f6 : Addr} {od6 an6 : Option Addr} {sl6 : Array (Option Value)} {oc6 kV6 dc6 pm6 cd6 ct6 : Value}
    (a6 : PySem.W.nsIn K mainGlobals "stretched" = some (some (.ref f6))) (l6 : K.lookup f6 = some ⟨oc6, od6, .func (PySem.W.fnOf "stretched" "stretched" (defArgs s_stretched) (defBody s_stretched) (defScope s_stretched) .none kV6 dc6 pm6 an6 cd6 ct6), sl6⟩) (c6 : PySem.W.codeIn K cd6 "stretched" = true) (k6 : PySem.W.keepIn K (.ref f6) = true)
    {f7 : Addr} {od7 an7 : Option Addr} {sl7 : Array (Option Value)} {oc7 kV7 dc7 pm7 cd7 ct7 : Value}
    (a7 : PySem.W.nsIn K mainGlobals "cell_ray" = some (some (.ref f7))) (l7 : K.lookup f7 = some ⟨oc7, od7, .func (PySem.W.fnOf "cell_ray" "cell_ray" (defArgs s_cell_ray) (defBody s_cell_ray) (defScope s_cell_ray) .none kV7 dc7 pm7 an7 cd7 ct7), sl7⟩) (c7 : PySem.W.codeIn K cd7 "cell_ray" = true) (k7 : PySem.W.keepIn K (.ref f7) = true)
    {f8 : Addr} {od8 an8 : Option Addr} {sl8 : Array (Option Value)} {oc8 kV8 dc8 pm8 cd8 ct8 : Value}
    (a8 : PySem.W.nsIn K mainGlobals "_law_state" = some (some (.ref f8))) (l8 : K.lookup f8 = some ⟨oc8, od8, .func (PySem.W.fnOf "_law_state" "_law_state" (defArgs s__law_state) (defBody s__law_state) (defScope s__law_state) .none kV8 dc8 pm8 an8 cd8 ct8), sl8⟩) (c8 : PySem.W.codeIn K cd8 "_law_state" = true) (k8 : PySem.W.keepIn K (.ref f8) = true)
    {f9 : Addr} {od9 an9 : Option Addr} {sl9 : Array (Option Value)} {oc9 kV9 dc9 pm9 cd9 ct9 : Value}
    (a9 : PySem.W.nsIn K mainGlobals "_law_next" = some (some (.ref f9))) (l9 : K.lookup f9 = some ⟨oc9, od9, .func (PySem.W.fnOf "_law_next" "_law_next" (defArgs s__law_next) (defBody s__law_next) (defScope s__law_next) .none kV9 dc9 pm9 an9 cd9 ct9), sl9⟩) (c9 : PySem.W.codeIn K cd9 "_law_next" = true) (k9 : PySem.W.keepIn K (.ref f9) = true)
    {f10 : Addr} {od10 an10 : Option Addr} {sl10 : Array (Option Value)} {oc10 kV10 dc10 pm10 cd10 ct10 : Value}
    (a10 : PySem.W.nsIn K mainGlobals "_law_same" = some (some (.ref f10))) (l10 : K.lookup f10 = some ⟨oc10, od10, .func (PySem.W.fnOf "_law_same" "_law_same" (defArgs s__law_same) (defBody s__law_same) (defScope s__law_same) .none kV10 dc10 pm10 an10 cd10 ct10), sl10⟩) (c10 : PySem.W.codeIn K cd10 "_law_same" = true) (k10 : PySem.W.keepIn K (.ref f10) = true)
    {f11 : Addr} {od11 an11 : Option Addr} {sl11 : Array (Option Value)} {oc11 kV11 dc11 pm11 cd11 ct11 : Value}
    (a11 : PySem.W.nsIn K mainGlobals "_law_f" = some (some (.ref f11))) (l11 : K.lookup f11 = some ⟨oc11, od11, .func (PySem.W.fnOf "_law_f" "_law_f" (defArgs s__law_f) (defBody s__law_f) (defScope s__law_f) .none kV11 dc11 pm11 an11 cd11 ct11), sl11⟩) (c11 : PySem.W.codeIn K cd11 "_law_f" = true) (k11 : PySem.W.keepIn K (.ref f11) = true)
    {f12 : Addr} {od12 an12 : Option Addr} {sl12 : Array (Option Value)} {oc12 kV12 dc12 pm12 cd12 ct12 : Value}
    (a12 : PySem.W.nsIn K mainGlobals "_law_share" = some (some (.ref f12))) (l12 : K.lookup f12 = some ⟨oc12, od12, .func (PySem.W.fnOf "_law_share" "_law_share" (defArgs s__law_share) (defBody s__law_share) (defScope s__law_share) .none kV12 dc12 pm12 an12 cd12 ct12), sl12⟩) (c12 : PySem.W.codeIn K cd12 "_law_share" = true) (k12 : PySem.W.keepIn K (.ref f12) = true)
    {f13 : Addr} {od13 an13 : Option Addr} {sl13 : Array (Option Value)} {oc13 kV13 dc13 pm13 cd13 ct13 : Value}
    (a13 : PySem.W.nsIn K mainGlobals "_law_look" = some (some (.ref f13))) (l13 : K.lookup f13 = some ⟨oc13, od13, .func (PySem.W.fnOf "_law_look" "_law_look" (defArgs s__law_look) (defBody s__law_look) (defScope s__law_look) .none kV13 dc13 pm13 an13 cd13 ct13), sl13⟩) (c13 : PySem.W.codeIn K cd13 "_law_look" = true) (k13 : PySem.W.keepIn K (.ref f13) = true)
    {f14 : Addr} {od14 an14 : Option Addr} {sl14 : Array (Option Value)} {oc14 kV14 dc14 pm14 cd14 ct14 : Value}
    (a14 : PySem.W.nsIn K mainGlobals "_law_due" = some (some (.ref f14))) (l14 : K.lookup f14 = some ⟨oc14, od14, .func (PySem.W.fnOf "_law_due" "_law_due" (defArgs s__law_due) (defBody s__law_due) (defScope s__law_due) .none kV14 dc14 pm14 an14 cd14 ct14), sl14⟩) (c14 : PySem.W.codeIn K cd14 "_law_due" = true) (k14 : PySem.W.keepIn K (.ref f14) = true)
    {f15 : Addr} {od15 an15 : Option Addr} {sl15 : Array (Option Value)} {oc15 kV15 dc15 pm15 cd15 ct15 : Value}
    (a15 : PySem.W.nsIn K mainGlobals "law" = some (some (.ref f15))) (l15 : K.lookup f15 = some ⟨oc15, od15, .func (PySem.W.fnOf "law" "law" (defArgs s_law) (defBody s_law) (defScope s_law) .none kV15 dc15 pm15 an15 cd15 ct15), sl15⟩) (c15 : PySem.W.codeIn K cd15 "law" = true) (k15 : PySem.W.keepIn K (.ref f15) = true)
    (z0 : PySem.W.nsIn K mainGlobals "abs" = some none)
    (z1 : PySem.W.nsIn K mainGlobals "all" = some none)
    (z2 : PySem.W.nsIn K mainGlobals "bool" = some none)
    (z3 : PySem.W.nsIn K mainGlobals "int" = some none)
    (z4 : PySem.W.nsIn K mainGlobals "isinstance" = some none)
    (z5 : PySem.W.nsIn K mainGlobals "len" = some none)
    (z6 : PySem.W.nsIn K mainGlobals "list" = some none)
    (z7 : PySem.W.nsIn K mainGlobals "range" = some none)
    (z8 : PySem.W.nsIn K mainGlobals "str" = some none)
    (z9 : PySem.W.nsIn K mainGlobals "tuple" = some none)
    (z10 : PySem.W.nsIn K mainGlobals "zip" = some none)
    : ∃ fd : FuncData, (∀ (s : Shared) (v : Value), BindsTo s fd ⟨[v], []⟩ [("_law_script", v)]) ∧ ∀ base : Heap, K.In base → base.Ns mainGlobals mg → FnOk l.prog w K mg base CX0 14 fa fd ["_law_script"] (sp_law K) := by
  have e := hfa.symm.trans (PySem.W.mg_of X G a15)
  cases e
  have F0 := fun_mk (st := s_frac) l0 c0 k0
  have b0 := F0.binds (ps := ["above", "below"]) fun _ _ _ _ _ _ us hl => match us, hl with | [_, _], _ => rfl
  have F1 := fun_mk (st := s_plus) l1 c1 k1
  have b1 := F1.binds (ps := ["one", "other"]) fun _ _ _ _ _ _ us hl => match us, hl with | [_, _], _ => rfl
  have F2 := fun_mk (st := s_minus) l2 c2 k2
  have b2 := F2.binds (ps := ["one", "other"]) fun _ _ _ _ _ _ us hl => match us, hl with | [_, _], _ => rfl
  have F3 := fun_mk (st := s_times) l3 c3 k3
  have b3 := F3.binds (ps := ["one", "other"]) fun _ _ _ _ _ _ us hl => match us, hl with | [_, _], _ => rfl
  have F4 := fun_mk (st := s_together) l4 c4 k4
  have b4 := F4.binds (ps := ["one", "other"]) fun _ _ _ _ _ _ us hl => match us, hl with | [_, _], _ => rfl
  have F5 := fun_mk (st := s_way_between) l5 c5 k5
  have b5 := F5.binds (ps := ["one", "other"]) fun _ _ _ _ _ _ us hl => match us, hl with | [_, _], _ => rfl
  have F6 := fun_mk (st := s_stretched) l6 c6 k6
  have b6 := F6.binds (ps := ["way", "by"]) fun _ _ _ _ _ _ us hl => match us, hl with | [_, _], _ => rfl
  have F7 := fun_mk (st := s_cell_ray) l7 c7 k7
  have b7 := F7.binds (ps := ["look", "column", "row"]) fun _ _ _ _ _ _ us hl => match us, hl with | [_, _, _], _ => rfl
  have F8 := fun_mk (st := s__law_state) l8 c8 k8
  have b8 := F8.binds (ps := ["_law_script"]) fun _ _ _ _ _ _ us hl => match us, hl with | [_], _ => rfl
  have F9 := fun_mk (st := s__law_next) l9 c9 k9
  have b9 := F9.binds (ps := ["_law_state_here", "_law_below"]) fun _ _ _ _ _ _ us hl => match us, hl with | [_, _], _ => rfl
  have F10 := fun_mk (st := s__law_same) l10 c10 k10
  have b10 := F10.binds (ps := ["_law_found", "_law_due_here"]) fun _ _ _ _ _ _ us hl => match us, hl with | [_, _], _ => rfl
  have F11 := fun_mk (st := s__law_f) l11 c11 k11
  have b11 := F11.binds (ps := ["_law_above", "_law_below"]) fun _ _ _ _ _ _ us hl => match us, hl with | [_, _], _ => rfl
  have F12 := fun_mk (st := s__law_share) l12 c12 k12
  have b12 := F12.binds (ps := ["_law_state_here"]) fun _ _ _ _ _ _ us hl => match us, hl with | [_], _ => rfl
  have F13 := fun_mk (st := s__law_look) l13 c13 k13
  have b13 := F13.binds (ps := ["_law_state_here"]) fun _ _ _ _ _ _ us hl => match us, hl with | [_], _ => rfl
  have F14 := fun_mk (st := s__law_due) l14 c14 k14
  have b14 := F14.binds (ps := ["_law_look_here", "_law_column", "_law_row"]) fun _ _ _ _ _ _ us hl => match us, hl with | [_, _, _], _ => rfl
  have F15 := fun_mk (st := s_law) l15 c15 k15
  have T : Tx K mg := ⟨f0, _, F0, b0, PySem.W.mg_of X G a0, f1, _, F1, b1, PySem.W.mg_of X G a1, f2, _, F2, b2, PySem.W.mg_of X G a2, f3, _, F3, b3, PySem.W.mg_of X G a3, f4, _, F4, b4, PySem.W.mg_of X G a4, f5, _, F5, b5, PySem.W.mg_of X G a5, f6, _, F6, b6, PySem.W.mg_of X G a6, f7, _, F7, b7, PySem.W.mg_of X G a7, f8, _, F8, b8, PySem.W.mg_of X G a8, f9, _, F9, b9, PySem.W.mg_of X G a9, f10, _, F10, b10, PySem.W.mg_of X G a10, f11, _, F11, b11, PySem.W.mg_of X G a11, f12, _, F12, b12, PySem.W.mg_of X G a12, f13, _, F13, b13, PySem.W.mg_of X G a13, f14, _, F14, b14, PySem.W.mg_of X G a14, PySem.W.mg_none_of X G z0, PySem.W.mg_none_of X G z1, PySem.W.mg_none_of X G z2, PySem.W.mg_none_of X G z3, PySem.W.mg_none_of X G z4, PySem.W.mg_none_of X G z5, PySem.W.mg_none_of X G z6, PySem.W.mg_none_of X G z7, PySem.W.mg_none_of X G z8, PySem.W.mg_none_of X G z9, PySem.W.mg_none_of X G z10⟩
  exact ⟨PySem.W.fnOf "law" "law" (defArgs s_law) (defBody s_law) (defScope s_law) .none kV15 dc15 pm15 an15 cd15 ct15, fun s v => .of_eq rfl, fun base _ _ => ok_law F15 T⟩
end Sc
open PySem PySem.W PyProof.Rows
set_option maxHeartbeats 0 in
theorem PySem.Challenge.cw_scenetongue_k52_rays_of_cells_holds : PySem.Challenge.rw_scenetongue_k52_rays_of_cells.Holds := by
  w_on; o_law; k_head; (case hw => w_witness2)
  k_fill
  refine L2.walk_of (l := PySem.Challenge.rw_scenetongue_k52_rays_of_cells) (n := 63) (k := 14) (x := "_law_script") (CX := fun _ => L2.CX0) (sp := fun w => Sc.sp_law _) rfl (by decide) rfl ⟨rfl, by decide, by decide⟩ (fun w h Y => PySem.W.kIn_of Y) ?F (fun _ _ a ns hl hO hS => ⟨a, ns, rfl, hO, hS, hl, fun _ => rfl⟩) (fun _ _ _ _ _ h => h)
  case F =>
    intro w mg fa h KX G hmg
    refine' Sc.all_mk KX G hmg ?a0 ?l0 ?c0 ?k0 ?a1 ?l1 ?c1 ?k1 ?a2 ?l2 ?c2 ?k2 ?a3 ?l3 ?c3 ?k3 ?a4 ?l4 ?c4 ?k4 ?a5 ?l5 ?c5 ?k5 ?a6 ?l6 ?c6 ?k6 ?a7 ?l7 ?c7 ?k7 ?a8 ?l8 ?c8 ?k8 ?a9 ?l9 ?c9 ?k9 ?a10 ?l10 ?c10 ?k10 ?a11 ?l11 ?c11 ?k11 ?a12 ?l12 ?c12 ?k12 ?a13 ?l13 ?c13 ?k13 ?a14 ?l14 ?c14 ?k14 ?a15 ?l15 ?c15 ?k15 ?z0 ?z1 ?z2 ?z3 ?z4 ?z5 ?z6 ?z7 ?z8 ?z9 ?z10
    (case a0 => k_is); (case l0 => k_is); (case c0 => k_is); (case k0 => k_is); (case a1 => k_is); (case l1 => k_is); (case c1 => k_is); (case k1 => k_is); (case a2 => k_is); (case l2 => k_is); (case c2 => k_is); (case k2 => k_is); (case a3 => k_is); (case l3 => k_is); (case c3 => k_is); (case k3 => k_is); (case a4 => k_is); (case l4 => k_is); (case c4 => k_is); (case k4 => k_is); (case a5 => k_is); (case l5 => k_is); (case c5 => k_is); (case k5 => k_is); (case a6 => k_is); (case l6 => k_is); (case c6 => k_is); (case k6 => k_is); (case a7 => k_is); (case l7 => k_is); (case c7 => k_is); (case k7 => k_is); (case a8 => k_is); (case l8 => k_is); (case c8 => k_is); (case k8 => k_is); (case a9 => k_is); (case l9 => k_is); (case c9 => k_is); (case k9 => k_is); (case a10 => k_is); (case l10 => k_is); (case c10 => k_is); (case k10 => k_is); (case a11 => k_is); (case l11 => k_is); (case c11 => k_is); (case k11 => k_is); (case a12 => k_is); (case l12 => k_is); (case c12 => k_is); (case k12 => k_is); (case a13 => k_is); (case l13 => k_is); (case c13 => k_is); (case k13 => k_is); (case a14 => k_is); (case l14 => k_is); (case c14 => k_is); (case k14 => k_is); (case a15 => k_is); (case l15 => k_is); (case c15 => k_is); (case k15 => k_is); (case z0 => k_is); (case z1 => k_is); (case z2 => k_is); (case z3 => k_is); (case z4 => k_is); (case z5 => k_is); (case z6 => k_is); (case z7 => k_is); (case z8 => k_is); (case z9 => k_is); (case z10 => k_is)
